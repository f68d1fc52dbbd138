/- The ratio of a train: the model's products of ratios; RatioOf. -/
import Derived.Test.YtdlcbfoghpoliaaGeared
namespace Go.Proofs.Ytdlcbfoghpoliaa
open Go.RowKit
theorem bel_step {W w w' : World} (h : Below W.heap.size W w) (hB : Below w.heap.size w w') : Below W.heap.size W w' := h.trans (hB.mono h.size)
theorem Row.set2 {w : World} {g : Nat} {T : TypeId} {a b : Value} (h : Row w g T [a, b]) (x y : Value) : Row ((w.setCell ⟨g, 0, none⟩ x).setCell ⟨g, 1, none⟩ y) g T [x, y] := (h.set 0 x).set 1 y
theorem okR_red {p q : Int} (hp : 1 ≤ p) (hp' : p ≤ 1000000000) (hq : 1 ≤ q) (hq' : q ≤ 1000000000) : okR (redP p q) (redQ p q) = true := by
  obtain ⟨_, _, _, x1, x2, y1, y2, c, _⟩ := red_bd hp hq
  rw [okR_mid x1 (by omega) y1 (by omega), c]
  rfl
theorem made_red {p q : Int} (hp : 1 ≤ p) (hp' : p ≤ 1000000000) (hq : 1 ≤ q) (hq' : q ≤ 1000000000) : madeR p q = ((redP p q, redQ p q), 0) := madeR_yes (okR_red hp hp' hq hq')
theorem made_self {p q : Int} (hp : 1 ≤ p) (hp' : p ≤ 1000000000) (hq : 1 ≤ q) (hq' : q ≤ 1000000000) : madeR (redP p q) (redQ p q) = ((redP p q, redQ p q), 0) := by
  obtain ⟨_, _, _, x1, x2, y1, y2, c, _⟩ := red_bd hp hq
  have r := red_self x1 y1 c
  rw [made_red x1 (by omega) y1 (by omega), r.1, r.2]
theorem of_step {js : List (Int × Int)} (h : okT js = true) (k : Nat) (hk : k < js.length) :
    madeR (timesP (redP (prD js k) (prN js k)) (redQ (prD js k) (prN js k)) (redP (pd js k) (pn js k)) (redQ (pd js k) (pn js k))) (timesQ (redP (prD js k) (prN js k)) (redQ (prD js k) (prN js k)) (redP (pd js k) (pn js k)) (redQ (pd js k) (pn js k)))
      = ((redP (prD js (k + 1)) (prN js (k + 1)), redQ (prD js (k + 1)) (prN js (k + 1))), 0) := by
  obtain ⟨p1, p2, p3, p4⟩ := pr_bd h k (by omega)
  obtain ⟨p5, p6, p7, p8⟩ := pr_bd h (k + 1) (by omega)
  have ww := (okT_out h).2.2 k hk
  unfold wheelOk at ww
  obtain ⟨⟨w1, w2⟩, w3, w4⟩ := ww
  have e := times_red p1 p3 (show 1 ≤ pd js k by omega) (show 1 ≤ pn js k by omega)
  unfold timesP timesQ
  rw [e.1, e.2]
  exact made_self (p := prD js (k + 1)) (q := prN js (k + 1)) p5 (by omega) p7 (by omega)
theorem red11 : redP 1 1 = 1 ∧ redQ 1 1 = 1 := by decide
set_option maxHeartbeats 4000000 in
theorem l03Of_any (b n cap : Nat) (js : List (Int × Int)) (w : World) (hS : Pst w b js) (hn : n = js.length) (hv : okT js = true) :
    Calls Try.prog 15 #[.slice (some ⟨b, 0, none⟩) n cap] w (GivesB w (.agg #[.int .i64 (redP (prD js n) (prN js n)), .int .i64 (redQ (prD js n) (prN js n))])) := by
  obtain ⟨n1, n4, ht⟩ := okT_out hv
  have hbl := hS.1
  have hC := hid hS.2.1
  have hN := hid hn
  have HT := hid ht
  have HV := hid hv
  have HB := hid (fun k (hk : k ≤ n) => pr_bd hv k (by rw [← hn]; exact hk))
  rw [← hn] at n1 n4
  obtain ⟨q0, q1, bW, sW⟩ := two_ratios w 28 28 (.int .i64 0) (.int .i64 0) (.int .i64 1) (.int .i64 1) _ rfl
  have Q0 := hid q0
  have Q1 := hid q1
  have bE := hid bW
  clear hS hn hv ht q0 q1 bW sW
  go_enter Try.func15, Try.ntmps15
  go_wp2_with fail
  go_loopw [4] (fun i wr => ∃ k : Nat, k ≤ n ∧ i = .int .i64 k ∧ Row wr w.heap.size 28 [.int .i64 0, .int .i64 0] ∧ Row wr (w.heap.size + 1) 28 [.int .i64 (redP (prD js k) (prN js k)), .int .i64 (redQ (prD js k) (prN js k))] ∧ Below w.heap.size w wr) (fun i _ => n - (intOf i).toNat)
  case atStart => exact ⟨0, Nat.zero_le _, rfl, Q0.out, by have h := red11; simp only [prD, prN]; rw [h.1, h.2]; exact Q1.out, bE.out⟩
  case round =>
    obtain ⟨k, hk, rfl, r0, r1, hB⟩ := hrel
    have hzr := hB.size
    have l0 := r0.lt
    have l1 := r1.lt
    have R0 := hid r0
    have R1 := hid r1
    clear r0 r1
    by_cases hlt : k < n
    · have hlt' : (k : Int) < (n : Int) := by omega
      have hk0 : (0 : Int) ≤ (k : Int) := by omega
      have hkj : Hid (k < js.length) := hid (by rw [← hN.out]; exact hlt)
      have c1 := (hB.cell (p := ⟨b, k * 2, none⟩) hbl).trans (hC.out k hkj.out).1
      have c2 := (hB.cell (p := ⟨b, k * 2 + 1, none⟩) hbl).trans (hC.out k hkj.out).2
      have ww := HT.out k hkj.out
      unfold wheelOk at ww
      obtain ⟨⟨w1, w2⟩, w3, w4⟩ := ww
      obtain ⟨p1, p2, p3, p4⟩ := HB.out k hk
      have HS := hid (of_step HV.out k hkj.out)
      have MR := made_red (p := pd js k) (q := pn js k) (by omega) (by omega) (by omega) (by omega)
      have OR := okR_red (p := pd js k) (q := pn js k) (by omega) (by omega) (by omega) (by omega)
      have OP := okR_red (p := prD js k) (q := prN js k) p1 (by omega) p3 (by omega)
      have HM := hid (fun w => l03Made_any (pd js k) (pn js k) (by omega) (by omega) (by omega) (by omega) w)
      have HX := hid (fun w => l03Times_any _ _ _ _ OP OR w)
      rw [MR] at HM
      rw [HS.out] at HX
      unfold pairV at HM HX
      simp only at HM HX
      obtain ⟨x, hx⟩ : ∃ x, pd js k = x := ⟨_, rfl⟩
      obtain ⟨y, hy⟩ : ∃ x, pn js k = x := ⟨_, rfl⟩
      rw [hx] at c1 w1 w2
      rw [hy] at c2 w3 w4
      rw [hx, hy] at HM HX
      obtain ⟨s, hs⟩ : ∃ z, redP x y = z := ⟨_, rfl⟩
      obtain ⟨t, ht⟩ : ∃ z, redQ x y = z := ⟨_, rfl⟩
      obtain ⟨P, hP⟩ : ∃ z, redP (prD js k) (prN js k) = z := ⟨_, rfl⟩
      obtain ⟨Q, hQ⟩ : ∃ z, redQ (prD js k) (prN js k) = z := ⟨_, rfl⟩
      obtain ⟨P', hP'⟩ : ∃ z, redP (prD js (k + 1)) (prN js (k + 1)) = z := ⟨_, rfl⟩
      obtain ⟨Q', hQ'⟩ : ∃ z, redQ (prD js (k + 1)) (prN js (k + 1)) = z := ⟨_, rfl⟩
      rw [hs, ht] at HM HX
      rw [hP, hQ, hP', hQ'] at HX
      rw [hP, hQ] at R1
      have HP' := hid hP'
      have HQ' := hid hQ'
      have t1 : IntKind.i64.wrap x = x := IntWalk.i64_in _ (by omega)
      have t2 : IntKind.i64.wrap y = y := IntWalk.i64_in _ (by omega)
      have HBB := hid hB
      have lb : b < wr.heap.size := by omega
      clear hx hy hs ht hP hQ hP' hQ' hB MR OR OP HS p1 p2 p3 p4
      go_upto_region 5 with fail
      go_cut [5, 6] (fun s5 s6 wx => ∃ (g : Nat) (V : World), V = wx ∧ s5 = .pointer (some ⟨g, 0, none⟩) ∧ s6 = .int .i64 0 ∧ Row V g 28 [.int .i64 s, .int .i64 t] ∧ Below wr.heap.size wr V)
      case first =>
        have hb0 := Below.refl wr.heap.size wr
        have SOF := hid (fun (v : World) (h : Below wr.heap.size wr v) => (And.intro ((h.cell (p := ⟨b, k * 2, none⟩) lb).trans c1) ((h.cell (p := ⟨b, k * 2 + 1, none⟩) lb).trans c2)))
        go_region_held3 (fun w' => w'.cell? ⟨b, k * 2, none⟩ = some (.int .i16 x) ∧ w'.cell? ⟨b, k * 2 + 1, none⟩ = some (.int .i16 y)) (exact SOF.out _ (by (repeat (first | assumption | refine Below.drew ?_ | refine Below.setCell ?_ (by first | omega | (simp; done) | (simp; omega)) _ | refine Below.alloc ?_ (by first | omega | (simp; done) | (simp; omega)) _))))
          ((first | (go_at_call 28; have _t := hb0; (with_reducible refine (HM.out _).mono ?_); rintro e v1 ⟨rfl, hB1⟩; have hb1 : Below wr.heap.size wr v1 := bel_step (by (repeat (first | assumption | refine Below.drew ?_ | refine Below.setCell ?_ (by first | omega | (simp; done) | (simp; omega)) _ | refine Below.alloc ?_ (by first | omega | (simp; done) | (simp; omega)) _))) hB1; have hz1 := hb1.size; have hy1 := hB1.size; (try simp only [World.size_drew, World.size_alloc] at hy1); (first | (have rb1 := Row.below rb1 hB1 (by first | omega | (simp; done) | (simp; omega))) | (have rb1 := Row.below (Row.new _ 28 [.int .i64 0, .int .i64 0]) hB1 (by first | omega | (simp; done) | (simp; omega))) | (have rb1 := Row.below (Row.drewN (Row.new _ 28 [.int .i64 0, .int .i64 0]) 1) hB1 (by first | omega | (simp; done) | (simp; omega))) | skip); (try (have cb10 := rb1.cell 0; have cb11 := rb1.cell 1; have fb10 := rb1.frozen 0; have fb11 := rb1.frozen 1; simp only [List.getElem?_cons_zero, List.getElem?_cons_succ] at cb10 cb11)))))
        all_goals (go_wp2_with fail)
        all_goals go_meet
        all_goals exact ⟨_, _, rfl, rfl, rfl, by (repeat (first | exact Row.new _ _ _ | exact rb1 | exact rb2 | apply Row.set2 | refine Row.alloc ?_ _ | refine Row.other ?_ (by first | omega | (simp; done) | (simp; omega)) _ | exact (Row.drewN (Row.new _ _ _) 1))), by (repeat (first | assumption | refine Below.drew ?_ | refine Below.setCell ?_ (by first | omega | (simp; done) | (simp; omega)) _ | refine Below.alloc ?_ (by first | omega | (simp; done) | (simp; omega)) _))⟩
      case rest =>
        obtain ⟨g, V, rfl, rfl, rfl, rG, bV⟩ := hcut
        have r0 := hid (R0.out.below bV l0)
        have r1 := R1.out.below bV l1
        have hzV := bV.size
        have bV2 := hid (HBB.out.trans (bV.mono (by omega)))
        have e0 := rG.cell 0
        have e1 := rG.cell 1
        have e2 := r1.cell 0
        have e3 := r1.cell 1
        simp only [List.getElem?_cons_zero, List.getElem?_cons_succ] at e0 e1 e2 e3
        have R1' := hid r1
        have l0' := r0.out.lt
        have l1' := r1.lt
        clear rG r1 bV c1 c2
        go_wp2_with fail
        refine (HX.out _).mono ?_
        rintro e w5 ⟨rfl, hB5⟩
        have r5 := R1'.out.below hB5 l1'
        have r6 := hid (r0.out.below hB5 l0')
        have b5 := hid (bV2.out.trans (hB5.mono (by omega)))
        have hz5 := hB5.size
        clear e0 e1 e2 e3 hB5
        have d0 := r5.cell 0
        have d1 := r5.cell 1
        have f0 := r5.frozen 0
        have f1 := r5.frozen 1
        simp only [List.getElem?_cons_zero, List.getElem?_cons_succ] at d0 d1
        have r7 := hid (r5.set2 (.int .i64 P') (.int .i64 Q'))
        have r8 := hid ((r6.out.other (a := ⟨w.heap.size + 1, 0, none⟩) (by show w.heap.size + 1 ≠ w.heap.size; omega) (.int .i64 P')).other (a := ⟨w.heap.size + 1, 1, none⟩) (by show w.heap.size + 1 ≠ w.heap.size; omega) (.int .i64 Q'))
        have b8 := hid ((b5.out.setCell (p := ⟨w.heap.size + 1, 0, none⟩) (by show w.heap.size ≤ w.heap.size + 1; omega) (.int .i64 P')).setCell (p := ⟨w.heap.size + 1, 1, none⟩) (by show w.heap.size ≤ w.heap.size + 1; omega) (.int .i64 Q'))
        clear r5
        go_wp2_with fail
        go_roundw
        case rel => exact ⟨k + 1, by omega, by go_num, r8.out, by rw [HP'.out, HQ'.out]; exact r7.out, b8.out⟩
        case measure => simp [intOf]; omega
    · obtain rfl : k = n := by omega
      obtain ⟨x, hx⟩ : ∃ x, redP (prD js k) (prN js k) = x := ⟨_, rfl⟩
      obtain ⟨y, hy⟩ : ∃ x, redQ (prD js k) (prN js k) = x := ⟨_, rfl⟩
      rw [hx, hy] at R1 ⊢
      have HX := hid hx
      have HY := hid hy
      have r0 := R0.out
      have r1 := R1.out
      have d0 := r0.cell 0
      have d1 := r0.cell 1
      have f0 := r0.frozen 0
      have f1 := r0.frozen 1
      have d2 := r1.cell 0
      have d3 := r1.cell 1
      simp only [List.getElem?_cons_zero, List.getElem?_cons_succ] at d0 d1 d2 d3
      have PP := hid (r0.set2 (.int .i64 x) (.int .i64 y))
      have HBB := hid hB
      clear r0 r1 hx hy hB
      go_wp2_with fail
      obtain ⟨V, hV⟩ : ∃ V, V = (wr.setCell ⟨w.heap.size, 0, none⟩ (.int .i64 x)).setCell ⟨w.heap.size, 1, none⟩ (.int .i64 y) := ⟨_, rfl⟩
      have rV : Row V w.heap.size 28 [.int .i64 x, .int .i64 y] := by rw [hV]; exact PP.out
      have bV : Below w.heap.size w V := by rw [hV]; exact (HBB.out.setCell (p := ⟨w.heap.size, 0, none⟩) (Nat.le_refl _) _).setCell (p := ⟨w.heap.size, 1, none⟩) (Nat.le_refl _) _
      rw [← hV]
      clear hV d0 d1 f0 f1 d2 d3
      have g0 := rV.cell 0
      have g1 := rV.cell 1
      simp only [List.getElem?_cons_zero, List.getElem?_cons_succ] at g0 g1
      exact bodyPost_ret (v := .agg #[.int .i64 x, .int .i64 y]) (by simp [results, Try.results15, go_sem, g0, g1]) rfl ⟨by rw [HX.out, HY.out], bV⟩
end Go.Proofs.Ytdlcbfoghpoliaa
