/- By how much a stack has been set back, the program's. -/
import Derived.Test.YtjeleemjckfjoaaFlowD
namespace Go.Proofs.Ytjeleemjckfjoaa
open Go.RowKit
def backR (zs : List Int) (a u b v lo hi : Int) : Int × Int :=
  if codeP zs a u b v lo hi = 0 then (backI (szL zs) (v - u) (lo * (b - a)) (hi * (b - a)), 0) else (0, codeP zs a u b v lo hi)
theorem backR_no {zs : List Int} {a u b v lo hi : Int} (h : codeP zs a u b v lo hi ≠ 0) : backR zs a u b v lo hi = (0, codeP zs a u b v lo hi) := by simp [backR, h]
theorem backR_yes {zs : List Int} {a u b v lo hi : Int} (h : codeP zs a u b v lo hi = 0) : backR zs a u b v lo hi = (backI (szL zs) (v - u) (lo * (b - a)) (hi * (b - a)), 0) := by simp [backR, h]
theorem floorModB_any (a c : Int) (ha : -1000000000000000000 ≤ a ∧ a ≤ 1000000000000000000) (hc : 1 ≤ c ∧ c ≤ 10000000000000000) (w : World) :
    Calls Try.prog 23 #[.int .i64 a, .int .i64 c] w (GivesB w (.int .i64 (a % c))) := (floorMod_any a c ha hc w).mono fun e w' h => ⟨h.1, by rw [← h.2]; exact Below.refl _ _⟩
set_option maxHeartbeats 4000000 in
theorem implBack_any (bS n cap : Nat) (zs : List Int) (hn : n = zs.length) (a u b v lo hi : Int) (w : World) (hS : Stk w bS zs) :
    Calls Try.prog 10 #[.slice (some ⟨bS, 0, none⟩) n cap, .agg #[.int .i64 a, .int .i64 u], .agg #[.int .i64 b, .int .i64 v], .agg #[.int .i64 lo, .int .i64 hi]] w (GivesB w (tup2 (backR zs a u b v lo hi).1 (backR zs a u b v lo hi).2)) := by
  obtain ⟨W, hW⟩ : ∃ W, W = (((w.alloc (.cells #[.int .i64 a, .int .i64 u] 32)).alloc (.cells #[.int .i64 b, .int .i64 v] 32)).alloc (.cells #[.int .i64 lo, .int .i64 hi] 27)) := ⟨_, rfl⟩
  obtain ⟨q0, q1, q2, bW, sW⟩ := iv3_boxes w _ _ _ _ _ _ _ _ W hW
  have HS := hid (hS.below bW hS.1)
  have hbs := HS.out.1
  have bE := hid bW
  have SW := hid sW
  have hW2 := hid hW
  have Q0 := hid q0
  have Q1 := hid q1
  have Q2 := hid q2
  have HI := hid (implIntervalOf_any bS n cap zs hn a u b v lo hi W HS.out)
  by_cases h0 : codeP zs a u b v lo hi = 0
  · obtain ⟨o1, o2, o3, o4, o5⟩ := codeP_out h0
    obtain ⟨a1, a2, a3, a4⟩ := okRd_out o2
    obtain ⟨a5, a6, a7, a8⟩ := okRd_out o3
    obtain ⟨f1, f2, f3⟩ := okF_out o4
    obtain ⟨_, _, _, z1, z2⟩ := okL_out o1
    have HP := hid (fun w hS => possible_any bS n cap zs hn o1 a u b v lo hi (by omega) (by omega) (by omega) (by omega) w hS)
    rw [h0, tupI_0] at HI
    rw [backR_yes h0]
    unfold tup2 backI
    cases hp : posI (szL zs) (v - u) (lo * (b - a)) (hi * (b - a)) with
    | true =>
      rw [hp] at HP
      simp only [if_true]
      clear h0 hp hn hS hW bW sW q0 q1 q2 o1 o2 o3 o4 o5 a1 a2 a3 a4 a5 a6 a7 a8 f1 f2 f3 z1 z2
      go_enter Try.func10, Try.ntmps10
      have s0 := SW.out
      have x0 := Q0.out.cell 0
      have y0 := Q0.out.cell 1
      simp only [List.getElem?_cons_zero, List.getElem?_cons_succ] at x0 y0
      have x1 := Q1.out.cell 0
      have y1 := Q1.out.cell 1
      simp only [List.getElem?_cons_zero, List.getElem?_cons_succ] at x1 y1
      have x2 := Q2.out.cell 0
      have y2 := Q2.out.cell 1
      simp only [List.getElem?_cons_zero, List.getElem?_cons_succ] at x2 y2
      go_wp2_with fail
      rw [← hW2.out]
      refine HI.out.mono ?_
      rintro e w1 ⟨rfl, hB1⟩
      have hz1 := hB1.size
      have r1_0 := Q0.out.below hB1 (by omega)
      have r1_2 := Q2.out.below hB1 (by omega)
      have b1 := hid hB1
      clear x0 y0 x1 y1 x2 y2 hB1
      have N1 := Row.new w1 46 [.int .i64 a, .int .i64 u, .int .i64 b, .int .i64 v]
      have b2 := hid (b1.out.alloc (by omega) (.cells #[.int .i64 a, .int .i64 u, .int .i64 b, .int .i64 v] 46))
      have r2_2 := r1_2.alloc (.cells #[.int .i64 a, .int .i64 u, .int .i64 b, .int .i64 v] 46)
      have r2_0 := r1_0.alloc (.cells #[.int .i64 a, .int .i64 u, .int .i64 b, .int .i64 v] 46)
      have sV : (w1.alloc (.cells #[.int .i64 a, .int .i64 u, .int .i64 b, .int .i64 v] 46)).heap.size = w1.heap.size + 1 := by simp
      have e0 := N1.cell 0
      have e1 := N1.cell 1
      have e2 := N1.cell 2
      have e3 := N1.cell 3
      simp only [List.getElem?_cons_zero, List.getElem?_cons_succ] at e0 e1 e2 e3
      have x2 := r2_2.cell 0
      have y2 := r2_2.cell 1
      simp only [List.getElem?_cons_zero, List.getElem?_cons_succ] at x2 y2
      go_wp2_with fail
      refine (HP.out _ (HS.out.below b2.out hbs)).mono ?_
      rintro e w2 ⟨rfl, hB2⟩
      simp only [World.size_alloc] at hB2
      have hz2 := hB2.size
      have b3 := hid (b2.out.trans (hB2.mono (by omega)))
      go_wp2_with fail
      go_ret2
      exact ⟨rfl, bE.out.trans (b3.out.mono (by omega))⟩
    | false =>
      rw [hp] at HP
      simp only [if_neg Bool.false_ne_true]
      obtain ⟨m1, m2⟩ := mul_small lo (b - a) (by omega) (by omega)
      have HD := hid (fun w => days_any a u b v (by omega) w)
      have HW := hid (fun w => way_any a u b v (by omega) w)
      have HZ := hid (fun w hS => size_any bS n cap zs hn o1 w hS)
      have HF := hid (fun w => floorModB_any (lo * (b - a) - (v - u)) (szL zs) (by omega) (by omega) w)
      have hm1 := Int.emod_nonneg (lo * (b - a) - (v - u)) (show szL zs ≠ 0 by omega)
      have hm2 := Int.emod_lt_of_pos (lo * (b - a) - (v - u)) (show 0 < szL zs by omega)
      obtain ⟨z, hz⟩ : ∃ z, szL zs = z := ⟨_, rfl⟩
      rw [hz] at HZ HF hm1 hm2 z1 z2 a4 a8 ⊢
      obtain ⟨d, hd⟩ : ∃ d, b - a = d := ⟨_, rfl⟩
      rw [hd] at HD HF hm1 hm2 m1 m2 ⊢
      obtain ⟨y, hy⟩ : ∃ y, v - u = y := ⟨_, rfl⟩
      rw [hy] at HW HF hm1 hm2 ⊢
      have yb : -1000000000000 ≤ y ∧ y ≤ 1000000000000 := by omega
      obtain ⟨x, hx⟩ : ∃ x, lo * d = x := ⟨_, rfl⟩
      rw [hx] at HF hm1 hm2 m1 m2 ⊢
      obtain ⟨t, ht⟩ : ∃ t, x - y = t := ⟨_, rfl⟩
      rw [ht] at HF hm1 hm2 ⊢
      have tx : IntKind.i64.wrap x = x := IntWalk.i64_in _ (by omega)
      have tt : IntKind.i64.wrap t = t := IntWalk.i64_in _ (by omega)
      obtain ⟨r, hr⟩ : ∃ r, t % z = r := ⟨_, rfl⟩
      rw [hr] at HF hm1 hm2 ⊢
      clear hr hd hy hz h0 hp hn hS hW bW sW q0 q1 q2 o1 o2 o3 o4 o5 a1 a2 a3 a4 a5 a6 a7 a8 f1 f2 f3
      go_enter Try.func10, Try.ntmps10
      have s0 := SW.out
      have x0 := Q0.out.cell 0
      have y0 := Q0.out.cell 1
      simp only [List.getElem?_cons_zero, List.getElem?_cons_succ] at x0 y0
      have x1 := Q1.out.cell 0
      have y1 := Q1.out.cell 1
      simp only [List.getElem?_cons_zero, List.getElem?_cons_succ] at x1 y1
      have x2 := Q2.out.cell 0
      have y2 := Q2.out.cell 1
      simp only [List.getElem?_cons_zero, List.getElem?_cons_succ] at x2 y2
      go_wp2_with fail
      rw [← hW2.out]
      refine HI.out.mono ?_
      rintro e w1 ⟨rfl, hB1⟩
      have hz1 := hB1.size
      have r1_0 := Q0.out.below hB1 (by omega)
      have r1_2 := Q2.out.below hB1 (by omega)
      have b1 := hid hB1
      clear x0 y0 x1 y1 x2 y2 hB1
      have N1 := Row.new w1 46 [.int .i64 a, .int .i64 u, .int .i64 b, .int .i64 v]
      have b2 := hid (b1.out.alloc (by omega) (.cells #[.int .i64 a, .int .i64 u, .int .i64 b, .int .i64 v] 46))
      have r2_2 := r1_2.alloc (.cells #[.int .i64 a, .int .i64 u, .int .i64 b, .int .i64 v] 46)
      have r2_0 := r1_0.alloc (.cells #[.int .i64 a, .int .i64 u, .int .i64 b, .int .i64 v] 46)
      have sV : (w1.alloc (.cells #[.int .i64 a, .int .i64 u, .int .i64 b, .int .i64 v] 46)).heap.size = w1.heap.size + 1 := by simp
      have e0 := N1.cell 0
      have e1 := N1.cell 1
      have e2 := N1.cell 2
      have e3 := N1.cell 3
      simp only [List.getElem?_cons_zero, List.getElem?_cons_succ] at e0 e1 e2 e3
      have x2 := r2_2.cell 0
      have y2 := r2_2.cell 1
      simp only [List.getElem?_cons_zero, List.getElem?_cons_succ] at x2 y2
      go_wp2_with fail
      refine (HP.out _ (HS.out.below b2.out hbs)).mono ?_
      rintro e w2 ⟨rfl, hB2⟩
      simp only [World.size_alloc] at hB2
      have hz2 := hB2.size
      have b3 := hid (b2.out.trans (hB2.mono (by omega)))
      have r3_2 := r2_2.below hB2 (by omega)
      have n3 := N1.below hB2 (by omega)
      clear e0 e1 e2 e3 x2 y2 hB2
      have c0 := n3.cell 0
      have c1 := n3.cell 1
      have c2 := n3.cell 2
      have c3 := n3.cell 3
      simp only [List.getElem?_cons_zero, List.getElem?_cons_succ] at c0 c1 c2 c3
      have c4 := r3_2.cell 0
      have c5 := r3_2.cell 1
      simp only [List.getElem?_cons_zero, List.getElem?_cons_succ] at c4 c5
      have lN : w1.heap.size < w2.heap.size := by omega
      have lF : w.heap.size + 1 + 1 < w2.heap.size := by omega
      have lS : bS < w2.heap.size := by omega
      have S3 := hid (HS.out.below b3.out hbs)
      have hb0 := Below.refl w2.heap.size w2
      go_wp2_with fail
      have SOF := hid (fun (v : World) (h : Below w2.heap.size w2 v) => (And.intro ((h.cell (p := ⟨w1.heap.size, 0, none⟩) lN).trans c0) (And.intro ((h.cell (p := ⟨w1.heap.size, 1, none⟩) lN).trans c1) (And.intro ((h.cell (p := ⟨w1.heap.size, 2, none⟩) lN).trans c2) (And.intro ((h.cell (p := ⟨w1.heap.size, 3, none⟩) lN).trans c3) (And.intro ((h.cell (p := ⟨w.heap.size + 1 + 1, 0, none⟩) lF).trans c4) ((h.cell (p := ⟨w.heap.size + 1 + 1, 1, none⟩) lF).trans c5)))))))
      go_region_held3 (fun w' => w'.cell? ⟨w1.heap.size, 0, none⟩ = some (.int .i64 a) ∧ w'.cell? ⟨w1.heap.size, 1, none⟩ = some (.int .i64 u) ∧ w'.cell? ⟨w1.heap.size, 2, none⟩ = some (.int .i64 b) ∧ w'.cell? ⟨w1.heap.size, 3, none⟩ = some (.int .i64 v) ∧ w'.cell? ⟨w.heap.size + 1 + 1, 0, none⟩ = some (.int .i64 lo) ∧ w'.cell? ⟨w.heap.size + 1 + 1, 1, none⟩ = some (.int .i64 hi)) (exact SOF.out _ (by (repeat (first | assumption | refine Below.drew ?_ | refine Below.setCell ?_ (by first | omega | (simp; done) | (simp; omega)) _ | refine Below.alloc ?_ (by first | omega | (simp; done) | (simp; omega)) _))))
        ((first | (go_at_call 23; have _t := hb3; (with_reducible refine (HF.out _).mono ?_); rintro e v4 ⟨rfl, hB4⟩; have hb4 : Below w2.heap.size w2 v4 := bel_step (by (repeat (first | assumption | refine Below.drew ?_ | refine Below.setCell ?_ (by first | omega | (simp; done) | (simp; omega)) _ | refine Below.alloc ?_ (by first | omega | (simp; done) | (simp; omega)) _))) hB4; have hz4 := hb4.size; have hy4 := hB4.size; (try simp only [World.size_drew, World.size_alloc] at hy4); (first | skip)) | (go_at_call 26; have _t := hb2; (with_reducible refine (HZ.out _ (S3.out.below (n := w2.heap.size) (by (repeat (first | assumption | refine Below.drew ?_ | refine Below.setCell ?_ (by first | omega | (simp; done) | (simp; omega)) _ | refine Below.alloc ?_ (by first | omega | (simp; done) | (simp; omega)) _))) lS)).mono ?_); rintro e v3 ⟨rfl, hB3⟩; have hb3 : Below w2.heap.size w2 v3 := bel_step (by (repeat (first | assumption | refine Below.drew ?_ | refine Below.setCell ?_ (by first | omega | (simp; done) | (simp; omega)) _ | refine Below.alloc ?_ (by first | omega | (simp; done) | (simp; omega)) _))) hB3; have hz3 := hb3.size; have hy3 := hB3.size; (try simp only [World.size_drew, World.size_alloc] at hy3); (first | skip)) | (go_at_call 25; have _t := hb1; (with_reducible refine (HW.out _).mono ?_); rintro e v2 ⟨rfl, hB2⟩; have hb2 : Below w2.heap.size w2 v2 := bel_step (by (repeat (first | assumption | refine Below.drew ?_ | refine Below.setCell ?_ (by first | omega | (simp; done) | (simp; omega)) _ | refine Below.alloc ?_ (by first | omega | (simp; done) | (simp; omega)) _))) hB2; have hz2 := hb2.size; have hy2 := hB2.size; (try simp only [World.size_drew, World.size_alloc] at hy2); (first | skip)) | (go_at_call 24; have _t := hb0; (with_reducible refine (HD.out _).mono ?_); rintro e v1 ⟨rfl, hB1⟩; have hb1 : Below w2.heap.size w2 v1 := bel_step (by (repeat (first | assumption | refine Below.drew ?_ | refine Below.setCell ?_ (by first | omega | (simp; done) | (simp; omega)) _ | refine Below.alloc ?_ (by first | omega | (simp; done) | (simp; omega)) _))) hB1; have hz1 := hb1.size; have hy1 := hB1.size; (try simp only [World.size_drew, World.size_alloc] at hy1); (first | skip))))
      go_wp2_with fail
      go_ret2
      exact ⟨rfl, bE.out.trans ((b3.out.trans (hb4.mono (by omega))).mono (by omega))⟩
  · rw [backR_no h0]
    rw [tupI_ne a u b v h0] at HI
    unfold tup2
    obtain ⟨c, hc⟩ : ∃ c, codeP zs a u b v lo hi = c := ⟨_, rfl⟩
    rw [hc] at HI h0 ⊢
    have d0 : (c != 0) = true := by simp [h0]
    clear hc hn hS hW bW sW q0 q1 q2
    go_enter Try.func10, Try.ntmps10
    have s0 := SW.out
    have x0 := Q0.out.cell 0
    have y0 := Q0.out.cell 1
    simp only [List.getElem?_cons_zero, List.getElem?_cons_succ] at x0 y0
    have x1 := Q1.out.cell 0
    have y1 := Q1.out.cell 1
    simp only [List.getElem?_cons_zero, List.getElem?_cons_succ] at x1 y1
    have x2 := Q2.out.cell 0
    have y2 := Q2.out.cell 1
    simp only [List.getElem?_cons_zero, List.getElem?_cons_succ] at x2 y2
    go_wp2_with fail
    rw [← hW2.out]
    refine HI.out.mono ?_
    rintro e w1 ⟨rfl, hB1⟩
    have hz1 := hB1.size
    have r1_0 := Q0.out.below hB1 (by omega)
    have r1_2 := Q2.out.below hB1 (by omega)
    have b1 := hid hB1
    clear x0 y0 x1 y1 x2 y2 hB1
    have b2 := hid (b1.out.alloc (by omega) (.cells #[.int .i64 0, .int .i64 0, .int .i64 0, .int .i64 0] 46))
    go_wp2_with fail
    go_ret2
    exact ⟨rfl, bE.out.trans (b2.out.mono (by omega))⟩
end Go.Proofs.Ytjeleemjckfjoaa
