/- The bounds of the numbers that explain all pairs: the model's. -/
import Derived.Test.YtihadhbgkjbkeaaDoorPbB
import Derived.Deep.DeepCutAuto
namespace Go.Proofs.YtihadhbgkjbkeaaDoor
open Go.RowKit
set_option linter.unusedVariables false
set_option linter.unusedSimpArgs false
theorem bel_step {W w w' : World} (h : Below W.heap.size W w) (hB : Below w.heap.size w w') : Below W.heap.size W w' := h.trans (hB.mono h.size)
theorem cell_apart2 {W : World} {a p : Addr} {u : Value} (h : p.block ≠ a.block) : (W.setCell a u).cell? p = W.cell? p := World.cell?_of_block (Below.heap_setCell W a u p.block h)
theorem box2_at {w : World} {g : Nat} {T : TypeId} {a b : Value} (h : Row w g T [a, b]) : w.cell? ⟨g, 0, none⟩ = some a ∧ w.cell? ⟨g, 1, none⟩ = some b ∧ w.frozen? ⟨g, 0, none⟩ = false ∧ w.frozen? ⟨g, 1, none⟩ = false := ⟨h.cell 0, h.cell 1, h.frozen 0, h.frozen 1⟩
def Pb3 (r : (Int × Int × Int × Int) × Int) : Value := .tuple #[.agg #[.int .i64 r.1.1, .int .i64 r.1.2.1], .agg #[.int .i64 r.1.2.2.1, .int .i64 r.1.2.2.2], .int .i64 r.2]
theorem pb3_end {js : List (Int × Int)} {q : Nat} (hn : q + 1 = js.length) (h60 : q + 1 ≤ 60) (h : okTp js (q + 1)) {a b c d : Int} (hB : bnd js q = (a, b, c, d)) : (a * d < c * b → Pb3 (pbR js) = .tuple #[.agg #[.int .i64 a, .int .i64 b], .agg #[.int .i64 c, .int .i64 d], .int .i64 0]) ∧ (¬ a * d < c * b → Pb3 (pbR js) = .tuple #[.agg #[.int .i64 0, .int .i64 0], .agg #[.int .i64 0, .int .i64 0], .int .i64 6]) := by
  have hq : js.length - 1 = q := by omega
  have ho := okPs_yes (js := js) (by omega) (by rw [← hn]; exact h)
  constructor
  · intro hlt
    have : pbR js = ((a, b, c, d), 0) := by simp only [pbR, ho, if_true, hq, hB, if_pos hlt]
    rw [this]; rfl
  · intro hlt
    have : pbR js = ((0, 0, 0, 0), 6) := by simp only [pbR, ho, if_true, hq, hB, if_neg hlt]
    rw [this]; rfl
set_option maxRecDepth 100000 in
set_option maxHeartbeats 8000000 in
theorem specPortionBounds_any (b n cap : Nat) (js : List (Int × Int)) (w : World) (hS : Rst w b js) (hn : n = js.length) :
    Calls Tryd.prog 7 #[.slice (some ⟨b, 0, none⟩) n cap] w (GivesB w (Pb3 (pbR js))) := by
  have hle := hS.2.2
  rw [← hn] at hle
  have hbl := hS.1
  have hN := hid hn
  obtain ⟨U, hU⟩ : ∃ U, U = ((w.alloc (.cells #[.int .i64 0, .int .i64 0] 28)).alloc (.cells #[.int .i64 0, .int .i64 0] 28)) := ⟨_, rfl⟩
  obtain ⟨ra, rb, bU, sU⟩ := two_boxes2 w 28 28 (.int .i64 0) (.int .i64 0) (.int .i64 0) (.int .i64 0) U hU
  have RA := hid ra
  have RB := hid rb
  have BU := hid bU
  have SU := hid sU
  have HU := hid hU
  have hC := hid (hS.below BU.out hbl).2.1
  have HIN := hid (inr_any (n : Int) 1 60 U)
  have HLEN := hid (fun h => okPs_len (js := js) h)
  have PNO := hid (fun h => show Pb3 (pbR js) = .tuple #[.agg #[.int .i64 0, .int .i64 0], .agg #[.int .i64 0, .int .i64 0], .int .i64 2] by rw [pbR_no (js := js) h]; rfl)
  have HEND := hid (fun q h60 h h1 a b c d hB => pb3_end (js := js) (q := q) h1 h60 h (a := a) (b := b) (c := c) (d := d) hB)
  obtain ⟨V, hV⟩ : ∃ V, Pb3 (pbR js) = V := ⟨_, rfl⟩
  rw [hV] at PNO HEND ⊢
  obtain ⟨bo, hbo⟩ : ∃ z, (decide (1 ≤ (n : Int)) && decide ((n : Int) ≤ 60)) = z := ⟨_, rfl⟩
  rw [hbo] at HIN
  have hst : (bo = true ∧ okTp js 0 ∧ 1 ≤ n ∧ n ≤ 60) ∨ (bo = false ∧ okPs js = false) := by
    by_cases h : 1 ≤ n ∧ n ≤ 60
    · have : bo = true := by rw [← hbo]; simp; omega
      exact .inl ⟨this, fun j hj => by omega, h.1, h.2⟩
    · have : bo = false := by rw [← hbo]; simpa using fun a => by omega
      exact .inr ⟨this, HLEN.out (by omega)⟩
  clear hS hn ra rb bU sU hU hV hbo
  go_enter Tryd.func7, Tryd.ntmps7
  go_wp2_with fail
  rw [← HU.out]
  refine HIN.out.mono ?_
  rintro e w1 ⟨rfl, rfl⟩
  go_wp2_with fail
  go_loop [5, 6] (fun o i => ∃ (k : Nat) (z : Bool), k ≤ n ∧ i = .int .i64 k ∧ o = .bool z ∧ ((z = true ∧ okTp js k ∧ 1 ≤ n ∧ n ≤ 60) ∨ (z = false ∧ okPs js = false))) (fun _ i => n - (intOf i).toNat)
  case atStart => exact ⟨0, bo, Nat.zero_le _, rfl, rfl, hst⟩
  case round =>
    clear hst
    obtain ⟨k, z, hk, rfl, rfl, hz⟩ := hrel
    rcases hz with ⟨rfl, hok, n1, n60⟩ | ⟨rfl, hbad⟩
    · by_cases hlt : k < n
      · have hlt' : (k : Int) < (n : Int) := by omega
        have hk0 : (0 : Int) ≤ (k : Int) := by omega
        obtain ⟨c0, c1⟩ := hC.out k (by rw [← hN.out]; exact hlt)
        have HBAD := hid (fun h => okPs_bad (js := js) k (by rw [← hN.out]; exact hlt) h)
        have HT := hid (fun h => okTp_succ (js := js) hok h)
        obtain ⟨x, hx⟩ : ∃ x, rd js k = x := ⟨_, rfl⟩
        obtain ⟨y, hy⟩ : ∃ x, rv js k = x := ⟨_, rfl⟩
        rw [hx] at c0 HBAD HT
        rw [hy] at c1 HBAD HT
        have N1 := hid n1
        have N60 := hid n60
        clear hx hy hok
        by_cases g1 : 1 ≤ x ∧ x ≤ 100000
        · have H1 := hid (fun w => inr_yes x 1 100000 w g1)
          by_cases g2 : 0 ≤ y ∧ y ≤ 100000
          · have H2 := hid (fun w => inr_yes y 0 100000 w g2)
            have HO := hid (HT.out ⟨g1, g2⟩)
            clear g1 g2
            go_wp2_with fail
            refine (H1.out _).mono ?_
            rintro e w2 ⟨rfl, rfl⟩
            go_wp2_with fail
            refine (H2.out _).mono ?_
            rintro e w2 ⟨rfl, rfl⟩
            go_wp2_with fail
            go_round
            case rel => exact ⟨k + 1, true, by omega, by go_num, rfl, .inl ⟨rfl, HO.out, N1.out, N60.out⟩⟩
            case measure => simp [intOf]; omega
          · have H2 := hid (fun w => inr_no y 0 100000 w (by omega))
            have HO := hid (HBAD.out (fun h => g2 h.2))
            clear g1 g2
            go_wp2_with fail
            refine (H1.out _).mono ?_
            rintro e w2 ⟨rfl, rfl⟩
            go_wp2_with fail
            refine (H2.out _).mono ?_
            rintro e w2 ⟨rfl, rfl⟩
            go_wp2_with fail
            go_round
            case rel => exact ⟨k + 1, false, by omega, by go_num, rfl, .inr ⟨rfl, HO.out⟩⟩
            case measure => simp [intOf]; omega
        · have H1 := hid (fun w => inr_no x 1 100000 w (by omega))
          have HO := hid (HBAD.out (fun h => g1 h.1))
          clear g1
          go_wp2_with fail
          refine (H1.out _).mono ?_
          rintro e w2 ⟨rfl, rfl⟩
          go_wp2_with fail
          go_round
          case rel => exact ⟨k + 1, false, by omega, by go_num, rfl, .inr ⟨rfl, HO.out⟩⟩
          case measure => simp [intOf]; omega
      · obtain rfl : k = n := by omega
        have hn0 : (0 : Int) < (k : Int) := by omega
        have hn0n : 0 < k := by omega
        have HOK := hid hok
        obtain ⟨cx0', cx1'⟩ := hC.out 0 (by rw [← hN.out]; omega)
        have dk := hok 0 (by omega)
        have HB0 := hid (show bnd js 0 = (redP (rv js 0) (rd js 0), redQ (rv js 0) (rd js 0), redP (rv js 0 + 1) (rd js 0), redQ (rv js 0 + 1) (rd js 0)) from rfl)
        obtain ⟨x, hx⟩ : ∃ x, rd js 0 = x := ⟨_, rfl⟩
        obtain ⟨y, hy⟩ : ∃ x, rv js 0 = x := ⟨_, rfl⟩
        rw [hx] at cx0' dk HB0
        rw [hy] at cx1' dk HB0
        have cx0 : U.cell? ⟨b, 0, none⟩ = some (.int .i64 x) := by simpa using cx0'
        have cx1 : U.cell? ⟨b, 1, none⟩ = some (.int .i64 y) := by simpa using cx1'
        have HPa := hid (fun w => l06Plain_any y x (by omega) (by omega) (by omega) (by omega) w)
        have HPb := hid (fun w => l06Plain_any (y + 1) x (by omega) (by omega) (by omega) (by omega) w)
        have ty : IntKind.i64.wrap (y + 1) = y + 1 := IntWalk.i64_in _ (by omega)
        have lbx : b < U.heap.size := by have := SU.out; omega
        obtain ⟨L1, hL1⟩ : ∃ z, redP y x = z := ⟨_, rfl⟩
        obtain ⟨L2, hL2⟩ : ∃ z, redQ y x = z := ⟨_, rfl⟩
        obtain ⟨L3, hL3⟩ : ∃ z, redP (y + 1) x = z := ⟨_, rfl⟩
        obtain ⟨L4, hL4⟩ : ∃ z, redQ (y + 1) x = z := ⟨_, rfl⟩
        rw [hL1, hL2] at HPa HB0
        rw [hL3, hL4] at HPb HB0
        clear hx hy hL1 hL2 hL3 hL4 cx0' cx1' dk hok
        go_upto_region 8 with fail
        go_cut [7] (fun s wx => ∃ (g : Nat) (X : World), X = wx ∧ s = .pointer (some ⟨g, 0, none⟩) ∧ Row X g 28 [.int .i64 L1, .int .i64 L2] ∧ Below U.heap.size U X ∧ U.heap.size ≤ g)
        case first =>
          have hb0 := Below.refl U.heap.size U
          have SOF := hid (fun (v : World) (h : Below U.heap.size U v) => (And.intro ((h.cell (p := ⟨b, 0, none⟩) lbx).trans cx0) ((h.cell (p := ⟨b, 1, none⟩) lbx).trans cx1)))
          go_region_held3 (fun w' => w'.cell? ⟨b, 0, none⟩ = some (.int .i64 x) ∧ w'.cell? ⟨b, 1, none⟩ = some (.int .i64 y)) (exact SOF.out _ (by (repeat (first | assumption | refine Below.drew ?_ | refine Below.setCell ?_ (by first | omega | (simp; done) | (simp; omega)) _ | refine Below.alloc ?_ (by first | omega | (simp; done) | (simp; omega)) _))))
            ((first | (go_at_call 14; have _t := hb0; (with_reducible refine (HPa.out _).mono ?_); rintro e v1 ⟨rfl, hB1⟩; have hb1 : Below U.heap.size U v1 := bel_step (by (repeat (first | assumption | refine Below.drew ?_ | refine Below.setCell ?_ (by first | omega | (simp; done) | (simp; omega)) _ | refine Below.alloc ?_ (by first | omega | (simp; done) | (simp; omega)) _))) hB1; have hz1 := hb1.size; have hy1 := hB1.size; (try simp only [World.size_drew, World.size_alloc] at hy1); (first | (have rb1 := Row.below rb1 hB1 (by first | omega | (simp; done) | (simp; omega))) | (have rb1 := Row.below (Row.new _ 28 [.int .i64 0, .int .i64 0]) hB1 (by first | omega | (simp; done) | (simp; omega))) | (have rb1 := Row.below (Row.drewN (Row.new _ 28 [.int .i64 0, .int .i64 0]) 1) hB1 (by first | omega | (simp; done) | (simp; omega))) | skip); (try (have cb10 := rb1.cell 0; have cb11 := rb1.cell 1; have fb10 := rb1.frozen 0; have fb11 := rb1.frozen 1; simp only [List.getElem?_cons_zero, List.getElem?_cons_succ] at cb10 cb11)))))
          all_goals (go_wp2_with fail)
          all_goals go_meet
          all_goals exact ⟨_, _, rfl, rfl, by (repeat (first | exact Row.new _ _ _ | exact rb1 | exact rb2 | apply Row.set2 | refine Row.alloc ?_ _ | refine Row.other ?_ (by first | omega | (simp; done) | (simp; omega)) _ | exact (Row.drewN (Row.new _ _ _) 1))), by (repeat (first | assumption | refine Below.drew ?_ | refine Below.setCell ?_ (by first | omega | (simp; done) | (simp; omega)) _ | refine Below.alloc ?_ (by first | omega | (simp; done) | (simp; omega)) _)), by first | omega | (simp; omega) | simp⟩
        case rest =>
          obtain ⟨g7, X7, rfl, rfl, hrow7, hBX7, hg7⟩ := hcut
          have R7 := hid hrow7
          have B7 := hid hBX7
          have G7 := hid hg7
          have cx0 := (hBX7.cell (p := ⟨b, 0, none⟩) lbx).trans cx0
          have cx1 := (hBX7.cell (p := ⟨b, 1, none⟩) lbx).trans cx1
          have hz7 := hBX7.size
          have lbx : b < X7.heap.size := by omega
          clear hrow7 hBX7 hg7
          go_upto_region 9 with fail
          go_cut [8] (fun s wx => ∃ (g : Nat) (X : World), X = wx ∧ s = .pointer (some ⟨g, 0, none⟩) ∧ Row X g 28 [.int .i64 L3, .int .i64 L4] ∧ Below X7.heap.size X7 X ∧ X7.heap.size ≤ g)
          case first =>
            have hb0 := Below.refl X7.heap.size X7
            have SOF := hid (fun (v : World) (h : Below X7.heap.size X7 v) => (And.intro ((h.cell (p := ⟨b, 0, none⟩) lbx).trans cx0) ((h.cell (p := ⟨b, 1, none⟩) lbx).trans cx1)))
            go_region_held3 (fun w' => w'.cell? ⟨b, 0, none⟩ = some (.int .i64 x) ∧ w'.cell? ⟨b, 1, none⟩ = some (.int .i64 y)) (exact SOF.out _ (by (repeat (first | assumption | refine Below.drew ?_ | refine Below.setCell ?_ (by first | omega | (simp; done) | (simp; omega)) _ | refine Below.alloc ?_ (by first | omega | (simp; done) | (simp; omega)) _))))
              ((first | (go_at_call 14; have _t := hb0; (with_reducible refine (HPb.out _).mono ?_); rintro e v1 ⟨rfl, hB1⟩; have hb1 : Below X7.heap.size X7 v1 := bel_step (by (repeat (first | assumption | refine Below.drew ?_ | refine Below.setCell ?_ (by first | omega | (simp; done) | (simp; omega)) _ | refine Below.alloc ?_ (by first | omega | (simp; done) | (simp; omega)) _))) hB1; have hz1 := hb1.size; have hy1 := hB1.size; (try simp only [World.size_drew, World.size_alloc] at hy1); (first | (have rb1 := Row.below rb1 hB1 (by first | omega | (simp; done) | (simp; omega))) | (have rb1 := Row.below (Row.new _ 28 [.int .i64 0, .int .i64 0]) hB1 (by first | omega | (simp; done) | (simp; omega))) | (have rb1 := Row.below (Row.drewN (Row.new _ 28 [.int .i64 0, .int .i64 0]) 1) hB1 (by first | omega | (simp; done) | (simp; omega))) | skip); (try (have cb10 := rb1.cell 0; have cb11 := rb1.cell 1; have fb10 := rb1.frozen 0; have fb11 := rb1.frozen 1; simp only [List.getElem?_cons_zero, List.getElem?_cons_succ] at cb10 cb11)))))
            all_goals (go_wp2_with fail)
            all_goals go_meet
            all_goals exact ⟨_, _, rfl, rfl, by (repeat (first | exact Row.new _ _ _ | exact rb1 | exact rb2 | apply Row.set2 | refine Row.alloc ?_ _ | refine Row.other ?_ (by first | omega | (simp; done) | (simp; omega)) _ | exact (Row.drewN (Row.new _ _ _) 1))), by (repeat (first | assumption | refine Below.drew ?_ | refine Below.setCell ?_ (by first | omega | (simp; done) | (simp; omega)) _ | refine Below.alloc ?_ (by first | omega | (simp; done) | (simp; omega)) _)), by first | omega | (simp; omega) | simp⟩
          case rest =>
            obtain ⟨g8, X8, rfl, rfl, hrow8, hBX8, hg8⟩ := hcut
            have R8 := hid hrow8
            have R78 := hid (R7.out.below hBX8 R7.out.lt)
            have RA8 := hid ((RA.out.below B7.out (by have := SU.out; omega)).below hBX8 (by have := SU.out; have := hz7; omega))
            have RB8 := hid ((RB.out.below B7.out (by have := SU.out; omega)).below hBX8 (by have := SU.out; have := hz7; omega))
            have B8 := hid (BU.out.trans ((B7.out.trans (hBX8.mono hz7)).mono BU.out.size))
            have GG := hid (show w.heap.size + 1 + 1 ≤ g7 ∧ g7 < g8 by have := G7.out; have := SU.out; have := R7.out.lt; omega)
            clear hrow8 hBX8 hg8 cx0 cx1 lbx ty HPa HPb
            go_wp2_with fail
            go_loopw [9] (fun i wr => ∃ q : Nat, 1 ≤ q ∧ q ≤ k ∧ i = .int .i64 q ∧ Below w.heap.size w wr ∧ Row wr w.heap.size 28 [.int .i64 0, .int .i64 0] ∧ Row wr (w.heap.size + 1) 28 [.int .i64 0, .int .i64 0] ∧ ∃ A1 A2 A3 A4, bnd js (q - 1) = (A1, A2, A3, A4) ∧ Row wr g7 28 [.int .i64 A1, .int .i64 A2] ∧ Row wr g8 28 [.int .i64 A3, .int .i64 A4]) (fun i _ => k - (intOf i).toNat)
            case atStart => exact ⟨1, Nat.le_refl _, by omega, rfl, B8.out, RA8.out, RB8.out, L1, L2, L3, L4, HB0.out, R78.out, R8.out⟩
            case round =>
              obtain ⟨q, hq1, hqk, rfl, hB, hra, hrb, A1, A2, A3, A4, hbn, h7, h8⟩ := hrel
              have hzr := hB.size
              have hq0 : (0 : Int) ≤ (q : Int) := by omega
              have HBR := hid hB
              have HRA := hid hra
              have HRB := hid hrb
              have H7 := hid h7
              have H8 := hid h8
              have HBN := hid hbn
              have bin := bnd_in (js := js) (q - 1) (fun j hj => HOK.out j (by omega))
              rw [hbn] at bin
              have l7 := h7.lt
              have l8 := h8.lt
              by_cases hlt : q < k
              · have hlt' : (q : Int) < (k : Int) := by omega
                obtain ⟨cx0', cx1'⟩ := hC.out q (by rw [← hN.out]; exact hlt)
                have cx0 := (hB.cell (p := ⟨b, q * 2, none⟩) hbl).trans ((BU.out.cell (p := ⟨b, q * 2, none⟩) hbl).symm.trans cx0')
                have cx1 := (hB.cell (p := ⟨b, q * 2 + 1, none⟩) hbl).trans ((BU.out.cell (p := ⟨b, q * 2 + 1, none⟩) hbl).symm.trans cx1')
                have dk := HOK.out q hlt
                have HNX := hid (show bnd js q = mtP (A1, A2, A3, A4) (exP (rd js q) (rv js q)) by
                  obtain ⟨p, rfl⟩ : ∃ p, q = p + 1 := ⟨q - 1, by omega⟩
                  rw [bnd, ← HBN.out]; rfl)
                have cin := exP_in dk
                unfold exP at cin HNX
                obtain ⟨x, hx⟩ : ∃ x, rd js q = x := ⟨_, rfl⟩
                obtain ⟨y, hy⟩ : ∃ x, rv js q = x := ⟨_, rfl⟩
                rw [hx] at cx0 dk HNX cin
                rw [hy] at cx1 dk HNX cin
                have HPa := hid (fun w => l06Plain_any y x (by omega) (by omega) (by omega) (by omega) w)
                have HPb := hid (fun w => l06Plain_any (y + 1) x (by omega) (by omega) (by omega) (by omega) w)
                have ty : IntKind.i64.wrap (y + 1) = y + 1 := IntWalk.i64_in _ (by omega)
                have lbx : b < wr.heap.size := by omega
                obtain ⟨C1, hC1⟩ : ∃ z, redP y x = z := ⟨_, rfl⟩
                obtain ⟨C2, hC2⟩ : ∃ z, redQ y x = z := ⟨_, rfl⟩
                obtain ⟨C3, hC3⟩ : ∃ z, redP (y + 1) x = z := ⟨_, rfl⟩
                obtain ⟨C4, hC4⟩ : ∃ z, redQ (y + 1) x = z := ⟨_, rfl⟩
                rw [hC1, hC2] at HPa
                rw [hC3, hC4] at HPb
                rw [hC1, hC2, hC3, hC4] at HNX cin
                obtain ⟨⟨⟨b1, b2⟩, b3, b4⟩, ⟨b5, b6⟩, b7, b8⟩ := bin
                obtain ⟨⟨⟨e1, e2⟩, e3, e4⟩, ⟨e5, e6⟩, e7, e8⟩ := cin
                simp only at b1 b2 b3 b4 b5 b6 b7 b8 e1 e2 e3 e4 e5 e6 e7 e8
                have m1 := mul4_bd (a := A1) (b := C2) ⟨b1, b2⟩ ⟨e3, e4⟩
                have m2 := mul4_bd (a := C1) (b := A2) ⟨e1, e2⟩ ⟨b3, b4⟩
                have m3 := mul4_bd (a := C3) (b := A4) ⟨e5, e6⟩ ⟨b7, b8⟩
                have m4 := mul4_bd (a := A3) (b := C4) ⟨b5, b6⟩ ⟨e7, e8⟩
                have HL1 := hid (fun w => l06Less_any A1 A2 C1 C2 m1.1 m1.2 m2.1 m2.2 w)
                have HL2 := hid (fun w => l06Less_any C3 C4 A3 A4 m3.1 m3.2 m4.1 m4.2 w)
                have HX1 := hid (fun (h : A1 * C2 < C1 * A2) => show mtL A1 A2 C1 C2 = (C1, C2) from if_pos h)
                have HX2 := hid (fun (h : ¬ A1 * C2 < C1 * A2) => show mtL A1 A2 C1 C2 = (A1, A2) from if_neg h)
                have HY1 := hid (fun (h : C3 * A4 < A3 * C4) => show mtH A3 A4 C3 C4 = (C3, C4) from if_pos h)
                have HY2 := hid (fun (h : ¬ C3 * A4 < A3 * C4) => show mtH A3 A4 C3 C4 = (A3, A4) from if_neg h)
                have HNX := hid (show bnd js q = ((mtL A1 A2 C1 C2).1, (mtL A1 A2 C1 C2).2, (mtH A3 A4 C3 C4).1, (mtH A3 A4 C3 C4).2) from HNX.out)
                clear hx hy hC1 hC2 hC3 hC4 cx0' cx1' dk b1 b2 b3 b4 b5 b6 b7 b8 e1 e2 e3 e4 e5 e6 e7 e8 m1 m2 m3 m4 hbn h7 h8 hB hra hrb
                go_upto_region 13 with fail
                go_cut [10] (fun s wx => ∃ (g : Nat) (X : World), X = wx ∧ s = .pointer (some ⟨g, 0, none⟩) ∧ Row X g 28 [.int .i64 C1, .int .i64 C2] ∧ Below wr.heap.size wr X ∧ wr.heap.size ≤ g)
                case first =>
                  have hb0 := Below.refl wr.heap.size wr
                  have SOF := hid (fun (v : World) (h : Below wr.heap.size wr v) => (And.intro ((h.cell (p := ⟨b, q * 2, none⟩) lbx).trans cx0) ((h.cell (p := ⟨b, q * 2 + 1, none⟩) lbx).trans cx1)))
                  go_region_held3 (fun w' => w'.cell? ⟨b, q * 2, none⟩ = some (.int .i64 x) ∧ w'.cell? ⟨b, q * 2 + 1, none⟩ = some (.int .i64 y)) (exact SOF.out _ (by (repeat (first | assumption | refine Below.drew ?_ | refine Below.setCell ?_ (by first | omega | (simp; done) | (simp; omega)) _ | refine Below.alloc ?_ (by first | omega | (simp; done) | (simp; omega)) _))))
                    ((first | (go_at_call 14; have _t := hb0; (with_reducible refine (HPa.out _).mono ?_); rintro e v1 ⟨rfl, hB1⟩; have hb1 : Below wr.heap.size wr v1 := bel_step (by (repeat (first | assumption | refine Below.drew ?_ | refine Below.setCell ?_ (by first | omega | (simp; done) | (simp; omega)) _ | refine Below.alloc ?_ (by first | omega | (simp; done) | (simp; omega)) _))) hB1; have hz1 := hb1.size; have hy1 := hB1.size; (try simp only [World.size_drew, World.size_alloc] at hy1); (first | (have rb1 := Row.below rb1 hB1 (by first | omega | (simp; done) | (simp; omega))) | (have rb1 := Row.below (Row.new _ 28 [.int .i64 0, .int .i64 0]) hB1 (by first | omega | (simp; done) | (simp; omega))) | (have rb1 := Row.below (Row.drewN (Row.new _ 28 [.int .i64 0, .int .i64 0]) 1) hB1 (by first | omega | (simp; done) | (simp; omega))) | skip); (try (have cb10 := rb1.cell 0; have cb11 := rb1.cell 1; have fb10 := rb1.frozen 0; have fb11 := rb1.frozen 1; simp only [List.getElem?_cons_zero, List.getElem?_cons_succ] at cb10 cb11)))))
                  all_goals (go_wp2_with fail)
                  all_goals go_meet
                  all_goals exact ⟨_, _, rfl, rfl, by (repeat (first | exact Row.new _ _ _ | exact rb1 | exact rb2 | apply Row.set2 | refine Row.alloc ?_ _ | refine Row.other ?_ (by first | omega | (simp; done) | (simp; omega)) _ | exact (Row.drewN (Row.new _ _ _) 1))), by (repeat (first | assumption | refine Below.drew ?_ | refine Below.setCell ?_ (by first | omega | (simp; done) | (simp; omega)) _ | refine Below.alloc ?_ (by first | omega | (simp; done) | (simp; omega)) _)), by first | omega | (simp; omega) | simp⟩
                case rest =>
                  obtain ⟨g10, X10, rfl, rfl, hrow10, hBX10, hg10⟩ := hcut
                  have R10 := hid hrow10
                  have BX := hid hBX10
                  have cx0 := (hBX10.cell (p := ⟨b, q * 2, none⟩) lbx).trans cx0
                  have cx1 := (hBX10.cell (p := ⟨b, q * 2 + 1, none⟩) lbx).trans cx1
                  have hz10 := hBX10.size
                  have lbx : b < X10.heap.size := by omega
                  have GA := hid hg10
                  clear hrow10 hBX10 hg10
                  go_upto_region 14 with fail
                  go_cut [11] (fun s wx => ∃ (g : Nat) (X : World), X = wx ∧ s = .pointer (some ⟨g, 0, none⟩) ∧ Row X g 28 [.int .i64 C3, .int .i64 C4] ∧ Below X10.heap.size X10 X ∧ X10.heap.size ≤ g)
                  case first =>
                    have hb0 := Below.refl X10.heap.size X10
                    have SOF := hid (fun (v : World) (h : Below X10.heap.size X10 v) => (And.intro ((h.cell (p := ⟨b, q * 2, none⟩) lbx).trans cx0) ((h.cell (p := ⟨b, q * 2 + 1, none⟩) lbx).trans cx1)))
                    go_region_held3 (fun w' => w'.cell? ⟨b, q * 2, none⟩ = some (.int .i64 x) ∧ w'.cell? ⟨b, q * 2 + 1, none⟩ = some (.int .i64 y)) (exact SOF.out _ (by (repeat (first | assumption | refine Below.drew ?_ | refine Below.setCell ?_ (by first | omega | (simp; done) | (simp; omega)) _ | refine Below.alloc ?_ (by first | omega | (simp; done) | (simp; omega)) _))))
                      ((first | (go_at_call 14; have _t := hb0; (with_reducible refine (HPb.out _).mono ?_); rintro e v1 ⟨rfl, hB1⟩; have hb1 : Below X10.heap.size X10 v1 := bel_step (by (repeat (first | assumption | refine Below.drew ?_ | refine Below.setCell ?_ (by first | omega | (simp; done) | (simp; omega)) _ | refine Below.alloc ?_ (by first | omega | (simp; done) | (simp; omega)) _))) hB1; have hz1 := hb1.size; have hy1 := hB1.size; (try simp only [World.size_drew, World.size_alloc] at hy1); (first | (have rb1 := Row.below rb1 hB1 (by first | omega | (simp; done) | (simp; omega))) | (have rb1 := Row.below (Row.new _ 28 [.int .i64 0, .int .i64 0]) hB1 (by first | omega | (simp; done) | (simp; omega))) | (have rb1 := Row.below (Row.drewN (Row.new _ 28 [.int .i64 0, .int .i64 0]) 1) hB1 (by first | omega | (simp; done) | (simp; omega))) | skip); (try (have cb10 := rb1.cell 0; have cb11 := rb1.cell 1; have fb10 := rb1.frozen 0; have fb11 := rb1.frozen 1; simp only [List.getElem?_cons_zero, List.getElem?_cons_succ] at cb10 cb11)))))
                    all_goals (go_wp2_with fail)
                    all_goals go_meet
                    all_goals exact ⟨_, _, rfl, rfl, by (repeat (first | exact Row.new _ _ _ | exact rb1 | exact rb2 | apply Row.set2 | refine Row.alloc ?_ _ | refine Row.other ?_ (by first | omega | (simp; done) | (simp; omega)) _ | exact (Row.drewN (Row.new _ _ _) 1))), by (repeat (first | assumption | refine Below.drew ?_ | refine Below.setCell ?_ (by first | omega | (simp; done) | (simp; omega)) _ | refine Below.alloc ?_ (by first | omega | (simp; done) | (simp; omega)) _)), by first | omega | (simp; omega) | simp⟩
                  case rest =>
                    obtain ⟨g11, X11, rfl, rfl, hrow11, hBX11, hg11⟩ := hcut
                    have hz11 := hBX11.size
                    have S11 := hid hrow11
                    have S10 := hid (R10.out.below hBX11 R10.out.lt)
                    have BY := hid (BX.out.trans (hBX11.mono hz10))
                    have S7 := hid (H7.out.below BY.out l7)
                    have S8 := hid (H8.out.below BY.out l8)
                    have SA := hid (HRA.out.below BY.out (by have := HRA.out.lt; omega))
                    have SB := hid (HRB.out.below BY.out (by have := HRB.out.lt; omega))
                    have BZ := hid (HBR.out.trans (BY.out.mono hzr))
                    have DD := hid (show g10 ≠ g7 ∧ g10 ≠ g8 ∧ g11 ≠ g7 ∧ g11 ≠ g8 ∧ g8 ≠ g7 ∧ w.heap.size < g7 ∧ w.heap.size + 1 < g7 ∧ w.heap.size < g8 ∧ w.heap.size + 1 < g8 ∧ g10 ≠ g11 by have := GA.out; have := R10.out.lt; have := GG.out; omega)
                    clear hrow11 hBX11 hg11 cx0 cx1 lbx ty HPa HPb
                    obtain ⟨k0, k1, f0, f1⟩ := box2_at S7.out
                    obtain ⟨p0, p1, _, _⟩ := box2_at S10.out
                    by_cases q1 : A1 * C2 < C1 * A2
                    · have HX := hid (HX1.out q1)
                      rw [decide_eq_true q1] at HL1
                      by_cases q2 : C3 * A4 < A3 * C4
                      · have HY := hid (HY1.out q2)
                        rw [decide_eq_true q2] at HL2
                        clear q1 q2
                        go_wp2_with fail
                        refine (HL1.out _).mono ?_
                        rintro e v1 ⟨rfl, hD1⟩
                        have hzd1 := hD1.size
                        have T7 := hid (S7.out.below hD1 S7.out.lt)
                        have T8 := hid (S8.out.below hD1 S8.out.lt)
                        have T10 := hid (S10.out.below hD1 S10.out.lt)
                        have T11 := hid (S11.out.below hD1 S11.out.lt)
                        have TA := hid (SA.out.below hD1 SA.out.lt)
                        have TB := hid (SB.out.below hD1 SB.out.lt)
                        have BV := hid (BZ.out.trans (hD1.mono BZ.out.size))
                        clear hD1 k0 k1 f0 f1 p0 p1
                        obtain ⟨k0, k1, f0, f1⟩ := box2_at T7.out
                        obtain ⟨p0, p1, _, _⟩ := box2_at T10.out
                        obtain ⟨V1, hV1⟩ : ∃ z, z = (v1.setCell ⟨g7, 0, none⟩ (.int .i64 C1)).setCell ⟨g7, 1, none⟩ (.int .i64 C2) := ⟨_, rfl⟩
                        have HV1 := hid hV1
                        have U7 := hid (show Row V1 g7 28 [.int .i64 C1, .int .i64 C2] by rw [hV1]; exact T7.out.set2 _ _)
                        have U8 := hid (show Row V1 g8 28 [.int .i64 A3, .int .i64 A4] by rw [hV1]; exact (T8.out.other (a := ⟨g7, 0, none⟩) (show g7 ≠ g8 by have := DD.out; omega) _).other (a := ⟨g7, 1, none⟩) (show g7 ≠ g8 by have := DD.out; omega) _)
                        have U11 := hid (show Row V1 g11 28 [.int .i64 C3, .int .i64 C4] by rw [hV1]; exact (T11.out.other (a := ⟨g7, 0, none⟩) (show g7 ≠ g11 by have := DD.out; omega) _).other (a := ⟨g7, 1, none⟩) (show g7 ≠ g11 by have := DD.out; omega) _)
                        have UA := hid (show Row V1 w.heap.size 28 [.int .i64 0, .int .i64 0] by rw [hV1]; exact (TA.out.other (a := ⟨g7, 0, none⟩) (show g7 ≠ w.heap.size by have := DD.out; omega) _).other (a := ⟨g7, 1, none⟩) (show g7 ≠ w.heap.size by have := DD.out; omega) _)
                        have UB := hid (show Row V1 (w.heap.size + 1) 28 [.int .i64 0, .int .i64 0] by rw [hV1]; exact (TB.out.other (a := ⟨g7, 0, none⟩) (show g7 ≠ w.heap.size + 1 by have := DD.out; omega) _).other (a := ⟨g7, 1, none⟩) (show g7 ≠ w.heap.size + 1 by have := DD.out; omega) _)
                        have BV := hid (show Below w.heap.size w V1 by rw [hV1]; exact (BV.out.setCell (p := ⟨g7, 0, none⟩) (show w.heap.size ≤ g7 by have := DD.out; omega) _).setCell (p := ⟨g7, 1, none⟩) (show w.heap.size ≤ g7 by have := DD.out; omega) _)
                        clear hV1
                        go_upto_region 17 with fail
                        rw [← HV1.out]
                        clear k0 k1 f0 f1 p0 p1
                        obtain ⟨k0, k1, f0, f1⟩ := box2_at U8.out
                        obtain ⟨p0, p1, _, _⟩ := box2_at U11.out
                        go_wp2_with fail
                        refine (HL2.out _).mono ?_
                        rintro e v2 ⟨rfl, hD2⟩
                        have W7 := hid (U7.out.below hD2 U7.out.lt)
                        have W8 := hid (U8.out.below hD2 U8.out.lt)
                        have W11 := hid (U11.out.below hD2 U11.out.lt)
                        have WA := hid (UA.out.below hD2 UA.out.lt)
                        have WB := hid (UB.out.below hD2 UB.out.lt)
                        have BW := hid (BV.out.trans (hD2.mono BV.out.size))
                        clear hD2 k0 k1 f0 f1 p0 p1
                        obtain ⟨k0, k1, f0, f1⟩ := box2_at W8.out
                        obtain ⟨p0, p1, _, _⟩ := box2_at W11.out
                        have Z7 := hid ((W7.out.other (a := ⟨g8, 0, none⟩) (show g8 ≠ g7 by have := DD.out; omega) (.int .i64 C3)).other (a := ⟨g8, 1, none⟩) (show g8 ≠ g7 by have := DD.out; omega) (.int .i64 C4))
                        have Z8 := hid (W8.out.set2 (.int .i64 C3) (.int .i64 C4))
                        have ZA := hid ((WA.out.other (a := ⟨g8, 0, none⟩) (show g8 ≠ w.heap.size by have := DD.out; omega) (.int .i64 C3)).other (a := ⟨g8, 1, none⟩) (show g8 ≠ w.heap.size by have := DD.out; omega) (.int .i64 C4))
                        have ZB := hid ((WB.out.other (a := ⟨g8, 0, none⟩) (show g8 ≠ w.heap.size + 1 by have := DD.out; omega) (.int .i64 C3)).other (a := ⟨g8, 1, none⟩) (show g8 ≠ w.heap.size + 1 by have := DD.out; omega) (.int .i64 C4))
                        have BZZ := hid ((BW.out.setCell (p := ⟨g8, 0, none⟩) (show w.heap.size ≤ g8 by have := DD.out; omega) (.int .i64 C3)).setCell (p := ⟨g8, 1, none⟩) (show w.heap.size ≤ g8 by have := DD.out; omega) (.int .i64 C4))
                        go_wp2_with fail
                        go_roundw
                        case rel => exact ⟨q + 1, by omega, by omega, by go_num, BZZ.out, ZA.out, ZB.out, C1, C2, C3, C4, by rw [Nat.add_sub_cancel, HNX.out, HX.out, HY.out], Z7.out, Z8.out⟩
                        case measure => simp [intOf]; omega
                      · have HY := hid (HY2.out q2)
                        rw [decide_eq_false q2] at HL2
                        clear q1 q2
                        go_wp2_with fail
                        refine (HL1.out _).mono ?_
                        rintro e v1 ⟨rfl, hD1⟩
                        have hzd1 := hD1.size
                        have T7 := hid (S7.out.below hD1 S7.out.lt)
                        have T8 := hid (S8.out.below hD1 S8.out.lt)
                        have T10 := hid (S10.out.below hD1 S10.out.lt)
                        have T11 := hid (S11.out.below hD1 S11.out.lt)
                        have TA := hid (SA.out.below hD1 SA.out.lt)
                        have TB := hid (SB.out.below hD1 SB.out.lt)
                        have BV := hid (BZ.out.trans (hD1.mono BZ.out.size))
                        clear hD1 k0 k1 f0 f1 p0 p1
                        obtain ⟨k0, k1, f0, f1⟩ := box2_at T7.out
                        obtain ⟨p0, p1, _, _⟩ := box2_at T10.out
                        obtain ⟨V1, hV1⟩ : ∃ z, z = (v1.setCell ⟨g7, 0, none⟩ (.int .i64 C1)).setCell ⟨g7, 1, none⟩ (.int .i64 C2) := ⟨_, rfl⟩
                        have HV1 := hid hV1
                        have U7 := hid (show Row V1 g7 28 [.int .i64 C1, .int .i64 C2] by rw [hV1]; exact T7.out.set2 _ _)
                        have U8 := hid (show Row V1 g8 28 [.int .i64 A3, .int .i64 A4] by rw [hV1]; exact (T8.out.other (a := ⟨g7, 0, none⟩) (show g7 ≠ g8 by have := DD.out; omega) _).other (a := ⟨g7, 1, none⟩) (show g7 ≠ g8 by have := DD.out; omega) _)
                        have U11 := hid (show Row V1 g11 28 [.int .i64 C3, .int .i64 C4] by rw [hV1]; exact (T11.out.other (a := ⟨g7, 0, none⟩) (show g7 ≠ g11 by have := DD.out; omega) _).other (a := ⟨g7, 1, none⟩) (show g7 ≠ g11 by have := DD.out; omega) _)
                        have UA := hid (show Row V1 w.heap.size 28 [.int .i64 0, .int .i64 0] by rw [hV1]; exact (TA.out.other (a := ⟨g7, 0, none⟩) (show g7 ≠ w.heap.size by have := DD.out; omega) _).other (a := ⟨g7, 1, none⟩) (show g7 ≠ w.heap.size by have := DD.out; omega) _)
                        have UB := hid (show Row V1 (w.heap.size + 1) 28 [.int .i64 0, .int .i64 0] by rw [hV1]; exact (TB.out.other (a := ⟨g7, 0, none⟩) (show g7 ≠ w.heap.size + 1 by have := DD.out; omega) _).other (a := ⟨g7, 1, none⟩) (show g7 ≠ w.heap.size + 1 by have := DD.out; omega) _)
                        have BV := hid (show Below w.heap.size w V1 by rw [hV1]; exact (BV.out.setCell (p := ⟨g7, 0, none⟩) (show w.heap.size ≤ g7 by have := DD.out; omega) _).setCell (p := ⟨g7, 1, none⟩) (show w.heap.size ≤ g7 by have := DD.out; omega) _)
                        clear hV1
                        go_upto_region 17 with fail
                        rw [← HV1.out]
                        clear k0 k1 f0 f1 p0 p1
                        obtain ⟨k0, k1, f0, f1⟩ := box2_at U8.out
                        obtain ⟨p0, p1, _, _⟩ := box2_at U11.out
                        go_wp2_with fail
                        refine (HL2.out _).mono ?_
                        rintro e v2 ⟨rfl, hD2⟩
                        have W7 := hid (U7.out.below hD2 U7.out.lt)
                        have W8 := hid (U8.out.below hD2 U8.out.lt)
                        have W11 := hid (U11.out.below hD2 U11.out.lt)
                        have WA := hid (UA.out.below hD2 UA.out.lt)
                        have WB := hid (UB.out.below hD2 UB.out.lt)
                        have BW := hid (BV.out.trans (hD2.mono BV.out.size))
                        clear hD2 k0 k1 f0 f1 p0 p1
                        have Z7 := W7
                        have Z8 := W8
                        have ZA := WA
                        have ZB := WB
                        have BZZ := BW
                        go_wp2_with fail
                        go_roundw
                        case rel => exact ⟨q + 1, by omega, by omega, by go_num, BZZ.out, ZA.out, ZB.out, C1, C2, A3, A4, by rw [Nat.add_sub_cancel, HNX.out, HX.out, HY.out], Z7.out, Z8.out⟩
                        case measure => simp [intOf]; omega
                    · have HX := hid (HX2.out q1)
                      rw [decide_eq_false q1] at HL1
                      by_cases q2 : C3 * A4 < A3 * C4
                      · have HY := hid (HY1.out q2)
                        rw [decide_eq_true q2] at HL2
                        clear q1 q2
                        go_wp2_with fail
                        refine (HL1.out _).mono ?_
                        rintro e v1 ⟨rfl, hD1⟩
                        have hzd1 := hD1.size
                        have T7 := hid (S7.out.below hD1 S7.out.lt)
                        have T8 := hid (S8.out.below hD1 S8.out.lt)
                        have T10 := hid (S10.out.below hD1 S10.out.lt)
                        have T11 := hid (S11.out.below hD1 S11.out.lt)
                        have TA := hid (SA.out.below hD1 SA.out.lt)
                        have TB := hid (SB.out.below hD1 SB.out.lt)
                        have BV := hid (BZ.out.trans (hD1.mono BZ.out.size))
                        clear hD1 k0 k1 f0 f1 p0 p1
                        have U7 := T7
                        have U8 := T8
                        have U11 := T11
                        have UA := TA
                        have UB := TB
                        obtain ⟨k0, k1, f0, f1⟩ := box2_at U8.out
                        obtain ⟨p0, p1, _, _⟩ := box2_at U11.out
                        go_wp2_with fail
                        refine (HL2.out _).mono ?_
                        rintro e v2 ⟨rfl, hD2⟩
                        have W7 := hid (U7.out.below hD2 U7.out.lt)
                        have W8 := hid (U8.out.below hD2 U8.out.lt)
                        have W11 := hid (U11.out.below hD2 U11.out.lt)
                        have WA := hid (UA.out.below hD2 UA.out.lt)
                        have WB := hid (UB.out.below hD2 UB.out.lt)
                        have BW := hid (BV.out.trans (hD2.mono BV.out.size))
                        clear hD2 k0 k1 f0 f1 p0 p1
                        obtain ⟨k0, k1, f0, f1⟩ := box2_at W8.out
                        obtain ⟨p0, p1, _, _⟩ := box2_at W11.out
                        have Z7 := hid ((W7.out.other (a := ⟨g8, 0, none⟩) (show g8 ≠ g7 by have := DD.out; omega) (.int .i64 C3)).other (a := ⟨g8, 1, none⟩) (show g8 ≠ g7 by have := DD.out; omega) (.int .i64 C4))
                        have Z8 := hid (W8.out.set2 (.int .i64 C3) (.int .i64 C4))
                        have ZA := hid ((WA.out.other (a := ⟨g8, 0, none⟩) (show g8 ≠ w.heap.size by have := DD.out; omega) (.int .i64 C3)).other (a := ⟨g8, 1, none⟩) (show g8 ≠ w.heap.size by have := DD.out; omega) (.int .i64 C4))
                        have ZB := hid ((WB.out.other (a := ⟨g8, 0, none⟩) (show g8 ≠ w.heap.size + 1 by have := DD.out; omega) (.int .i64 C3)).other (a := ⟨g8, 1, none⟩) (show g8 ≠ w.heap.size + 1 by have := DD.out; omega) (.int .i64 C4))
                        have BZZ := hid ((BW.out.setCell (p := ⟨g8, 0, none⟩) (show w.heap.size ≤ g8 by have := DD.out; omega) (.int .i64 C3)).setCell (p := ⟨g8, 1, none⟩) (show w.heap.size ≤ g8 by have := DD.out; omega) (.int .i64 C4))
                        go_wp2_with fail
                        go_roundw
                        case rel => exact ⟨q + 1, by omega, by omega, by go_num, BZZ.out, ZA.out, ZB.out, A1, A2, C3, C4, by rw [Nat.add_sub_cancel, HNX.out, HX.out, HY.out], Z7.out, Z8.out⟩
                        case measure => simp [intOf]; omega
                      · have HY := hid (HY2.out q2)
                        rw [decide_eq_false q2] at HL2
                        clear q1 q2
                        go_wp2_with fail
                        refine (HL1.out _).mono ?_
                        rintro e v1 ⟨rfl, hD1⟩
                        have hzd1 := hD1.size
                        have T7 := hid (S7.out.below hD1 S7.out.lt)
                        have T8 := hid (S8.out.below hD1 S8.out.lt)
                        have T10 := hid (S10.out.below hD1 S10.out.lt)
                        have T11 := hid (S11.out.below hD1 S11.out.lt)
                        have TA := hid (SA.out.below hD1 SA.out.lt)
                        have TB := hid (SB.out.below hD1 SB.out.lt)
                        have BV := hid (BZ.out.trans (hD1.mono BZ.out.size))
                        clear hD1 k0 k1 f0 f1 p0 p1
                        have U7 := T7
                        have U8 := T8
                        have U11 := T11
                        have UA := TA
                        have UB := TB
                        obtain ⟨k0, k1, f0, f1⟩ := box2_at U8.out
                        obtain ⟨p0, p1, _, _⟩ := box2_at U11.out
                        go_wp2_with fail
                        refine (HL2.out _).mono ?_
                        rintro e v2 ⟨rfl, hD2⟩
                        have W7 := hid (U7.out.below hD2 U7.out.lt)
                        have W8 := hid (U8.out.below hD2 U8.out.lt)
                        have W11 := hid (U11.out.below hD2 U11.out.lt)
                        have WA := hid (UA.out.below hD2 UA.out.lt)
                        have WB := hid (UB.out.below hD2 UB.out.lt)
                        have BW := hid (BV.out.trans (hD2.mono BV.out.size))
                        clear hD2 k0 k1 f0 f1 p0 p1
                        have Z7 := W7
                        have Z8 := W8
                        have ZA := WA
                        have ZB := WB
                        have BZZ := BW
                        go_wp2_with fail
                        go_roundw
                        case rel => exact ⟨q + 1, by omega, by omega, by go_num, BZZ.out, ZA.out, ZB.out, A1, A2, A3, A4, by rw [Nat.add_sub_cancel, HNX.out, HX.out, HY.out], Z7.out, Z8.out⟩
                        case measure => simp [intOf]; omega
              · obtain rfl : q = k := by omega
                obtain ⟨⟨⟨b1, b2⟩, b3, b4⟩, ⟨b5, b6⟩, b7, b8⟩ := bin
                simp only at b1 b2 b3 b4 b5 b6 b7 b8
                have m1 := mul4_bd (a := A1) (b := A4) ⟨b1, b2⟩ ⟨b7, b8⟩
                have m2 := mul4_bd (a := A3) (b := A2) ⟨b5, b6⟩ ⟨b3, b4⟩
                have HL := hid (fun w => l06Less_any A1 A2 A3 A4 m1.1 m1.2 m2.1 m2.2 w)
                have HE := HEND.out (q - 1) (by omega) (fun j hj => HOK.out j (by omega)) (by rw [← hN.out]; omega) A1 A2 A3 A4 HBN.out
                have DD := hid (show w.heap.size < g7 ∧ w.heap.size + 1 < g7 ∧ w.heap.size < g8 ∧ w.heap.size + 1 < g8 by have := GG.out; omega)
                obtain ⟨k0, k1, _, _⟩ := box2_at h7
                obtain ⟨p0, p1, _, _⟩ := box2_at h8
                by_cases ql : A1 * A4 < A3 * A2
                · have HV := hid (HE.1 (by omega))
                  rw [decide_eq_true ql] at HL
                  clear ql HE hbn h7 h8 hB hra hrb b1 b2 b3 b4 b5 b6 b7 b8 m1 m2 HEND PNO
                  go_wp2_with fail
                  refine (HL.out _).mono ?_
                  rintro e v1 ⟨rfl, hD1⟩
                  have T7 := hid (H7.out.below hD1 l7)
                  have T8 := hid (H8.out.below hD1 l8)
                  have TA := hid (HRA.out.below hD1 HRA.out.lt)
                  have TB := hid (HRB.out.below hD1 HRB.out.lt)
                  have BV := hid (HBR.out.trans (hD1.mono hzr))
                  clear hD1 k0 k1 p0 p1
                  obtain ⟨k0, k1, _, _⟩ := box2_at T7.out
                  obtain ⟨p0, p1, _, _⟩ := box2_at T8.out
                  obtain ⟨a0, a1, fa0, fa1⟩ := box2_at TA.out
                  obtain ⟨b0, b1, fb0, fb1⟩ := box2_at TB.out
                  have n01 : w.heap.size ≠ w.heap.size + 1 := by omega
                  have n10 : w.heap.size + 1 ≠ w.heap.size := by omega
                  have _ra := TA.out
                  have _rb := TB.out
                  have R1 := hid (((_ra.set2 (.int .i64 A1) (.int .i64 A2)).other (a := ⟨w.heap.size + 1, 0, none⟩) (show w.heap.size + 1 ≠ w.heap.size by omega) (.int .i64 A3)).other (a := ⟨w.heap.size + 1, 1, none⟩) (show w.heap.size + 1 ≠ w.heap.size by omega) (.int .i64 A4))
                  have R2 := hid (((_rb.other (a := ⟨w.heap.size, 0, none⟩) (show w.heap.size ≠ w.heap.size + 1 by omega) (.int .i64 A1)).other (a := ⟨w.heap.size, 1, none⟩) (show w.heap.size ≠ w.heap.size + 1 by omega) (.int .i64 A2)).set2 (.int .i64 A3) (.int .i64 A4))
                  have B4 := hid (((((BV.out.setCell (p := ⟨w.heap.size, 0, none⟩) (Nat.le_refl _) (.int .i64 A1)).setCell (p := ⟨w.heap.size, 1, none⟩) (Nat.le_refl _) (.int .i64 A2)).setCell (p := ⟨w.heap.size + 1, 0, none⟩) (Nat.le_succ _) (.int .i64 A3)).setCell (p := ⟨w.heap.size + 1, 1, none⟩) (Nat.le_succ _) (.int .i64 A4)).drew)
                  clear _ra _rb
                  have hS0 := And.intro k0 (And.intro k1 (And.intro p0 p1))
                  have HSA := hid (fun (v : World) (h : (fun w' => w'.cell? ⟨g7, 0, none⟩ = some (.int .i64 A1) ∧ w'.cell? ⟨g7, 1, none⟩ = some (.int .i64 A2) ∧ w'.cell? ⟨g8, 0, none⟩ = some (.int .i64 A3) ∧ w'.cell? ⟨g8, 1, none⟩ = some (.int .i64 A4)) v) (i : Nat) (u : Value) => show (fun w' => w'.cell? ⟨g7, 0, none⟩ = some (.int .i64 A1) ∧ w'.cell? ⟨g7, 1, none⟩ = some (.int .i64 A2) ∧ w'.cell? ⟨g8, 0, none⟩ = some (.int .i64 A3) ∧ w'.cell? ⟨g8, 1, none⟩ = some (.int .i64 A4)) (v.setCell ⟨w.heap.size, i, none⟩ u) from ⟨(cell_apart2 (show g7 ≠ w.heap.size by have := DD.out; omega)).trans h.1, (cell_apart2 (show g7 ≠ w.heap.size by have := DD.out; omega)).trans h.2.1, (cell_apart2 (show g8 ≠ w.heap.size by have := DD.out; omega)).trans h.2.2.1, (cell_apart2 (show g8 ≠ w.heap.size by have := DD.out; omega)).trans h.2.2.2⟩)
                  have HSB := hid (fun (v : World) (h : (fun w' => w'.cell? ⟨g7, 0, none⟩ = some (.int .i64 A1) ∧ w'.cell? ⟨g7, 1, none⟩ = some (.int .i64 A2) ∧ w'.cell? ⟨g8, 0, none⟩ = some (.int .i64 A3) ∧ w'.cell? ⟨g8, 1, none⟩ = some (.int .i64 A4)) v) (i : Nat) (u : Value) => show (fun w' => w'.cell? ⟨g7, 0, none⟩ = some (.int .i64 A1) ∧ w'.cell? ⟨g7, 1, none⟩ = some (.int .i64 A2) ∧ w'.cell? ⟨g8, 0, none⟩ = some (.int .i64 A3) ∧ w'.cell? ⟨g8, 1, none⟩ = some (.int .i64 A4)) (v.setCell ⟨(w.heap.size + 1), i, none⟩ u) from ⟨(cell_apart2 (show g7 ≠ (w.heap.size + 1) by have := DD.out; omega)).trans h.1, (cell_apart2 (show g7 ≠ (w.heap.size + 1) by have := DD.out; omega)).trans h.2.1, (cell_apart2 (show g8 ≠ (w.heap.size + 1) by have := DD.out; omega)).trans h.2.2.1, (cell_apart2 (show g8 ≠ (w.heap.size + 1) by have := DD.out; omega)).trans h.2.2.2⟩)
                  have HSD := hid (fun (v : World) (h : (fun w' => w'.cell? ⟨g7, 0, none⟩ = some (.int .i64 A1) ∧ w'.cell? ⟨g7, 1, none⟩ = some (.int .i64 A2) ∧ w'.cell? ⟨g8, 0, none⟩ = some (.int .i64 A3) ∧ w'.cell? ⟨g8, 1, none⟩ = some (.int .i64 A4)) v) => show (fun w' => w'.cell? ⟨g7, 0, none⟩ = some (.int .i64 A1) ∧ w'.cell? ⟨g7, 1, none⟩ = some (.int .i64 A2) ∧ w'.cell? ⟨g8, 0, none⟩ = some (.int .i64 A3) ∧ w'.cell? ⟨g8, 1, none⟩ = some (.int .i64 A4)) v.drew from h)
                  go_upto_region 21 with fail
                  go_region_held3 (fun w' => w'.cell? ⟨g7, 0, none⟩ = some (.int .i64 A1) ∧ w'.cell? ⟨g7, 1, none⟩ = some (.int .i64 A2) ∧ w'.cell? ⟨g8, 0, none⟩ = some (.int .i64 A3) ∧ w'.cell? ⟨g8, 1, none⟩ = some (.int .i64 A4)) (repeat (first | exact hS0 | with_reducible refine HSD.out _ ?_ | with_reducible refine HSA.out _ ?_ _ _ | with_reducible refine HSB.out _ ?_ _ _)) (fail)
                  go_wp2_with fail
                  have r1 := Row.below R1.out (Below.refl _ _).drew R1.out.lt
                  have r2 := Row.below R2.out (Below.refl _ _).drew R2.out.lt
                  clear a0 a1 b0 b1
                  have a0 := r1.cell 0; have a1 := r1.cell 1; have b0 := r2.cell 0; have b1 := r2.cell 1
                  simp only [List.set_cons_zero, List.set_cons_succ, List.getElem?_cons_zero, List.getElem?_cons_succ] at a0 a1 b0 b1
                  exact bodyPost_ret (v := .tuple #[.agg #[.int .i64 A1, .int .i64 A2], .agg #[.int .i64 A3, .int .i64 A4], .int .i64 0]) (by simp only [results, Tryd.results7]; simp [go_sem, a0, a1, b0, b1]) rfl ⟨by rw [HV.out], B4.out⟩
                · have HV := hid (HE.2 (by omega))
                  rw [decide_eq_false ql] at HL
                  clear ql HE hbn h7 h8 hB hra hrb b1 b2 b3 b4 b5 b6 b7 b8 m1 m2 HEND PNO
                  go_wp2_with fail
                  refine (HL.out _).mono ?_
                  rintro e v1 ⟨rfl, hD1⟩
                  have TA := hid (HRA.out.below hD1 HRA.out.lt)
                  have TB := hid (HRB.out.below hD1 HRB.out.lt)
                  have BV := hid (HBR.out.trans (hD1.mono hzr))
                  clear hD1 k0 k1 p0 p1
                  have _ra := TA.out
                  have _rb := TB.out
                  obtain ⟨a0, a1, fa0, fa1⟩ := box2_at _ra
                  obtain ⟨b0, b1, fb0, fb1⟩ := box2_at _rb
                  have R1 := hid (((_ra.set2 (.int .i64 0) (.int .i64 0)).other (a := ⟨w.heap.size + 1, 0, none⟩) (show w.heap.size + 1 ≠ w.heap.size by omega) (.int .i64 0)).other (a := ⟨w.heap.size + 1, 1, none⟩) (show w.heap.size + 1 ≠ w.heap.size by omega) (.int .i64 0))
                  have R2 := hid (((_rb.other (a := ⟨w.heap.size, 0, none⟩) (show w.heap.size ≠ w.heap.size + 1 by omega) (.int .i64 0)).other (a := ⟨w.heap.size, 1, none⟩) (show w.heap.size ≠ w.heap.size + 1 by omega) (.int .i64 0)).set2 (.int .i64 0) (.int .i64 0))
                  have B4 := hid ((((BV.out.setCell (p := ⟨w.heap.size, 0, none⟩) (Nat.le_refl _) (.int .i64 0)).setCell (p := ⟨w.heap.size, 1, none⟩) (Nat.le_refl _) (.int .i64 0)).setCell (p := ⟨w.heap.size + 1, 0, none⟩) (Nat.le_succ _) (.int .i64 0)).setCell (p := ⟨w.heap.size + 1, 1, none⟩) (Nat.le_succ _) (.int .i64 0))
                  clear _ra _rb
                  go_wp2_with fail
                  have r1 := R1.out
                  have r2 := R2.out
                  clear a0 a1 b0 b1
                  have a0 := r1.cell 0; have a1 := r1.cell 1; have b0 := r2.cell 0; have b1 := r2.cell 1
                  simp only [List.set_cons_zero, List.set_cons_succ, List.getElem?_cons_zero, List.getElem?_cons_succ] at a0 a1 b0 b1
                  exact bodyPost_ret (v := .tuple #[.agg #[.int .i64 0, .int .i64 0], .agg #[.int .i64 0, .int .i64 0], .int .i64 6]) (by simp [results, Tryd.results7, go_sem, a0, a1, b0, b1]) rfl ⟨by rw [HV.out], B4.out⟩
    · have PN := hid (PNO.out hbad)
      have _ra := RA.out
      have _rb := RB.out
      obtain ⟨k0, k1, f0, f1⟩ := box2_at _ra
      obtain ⟨q0, q1, g0, g1⟩ := box2_at _rb
      have R1 := hid (((_ra.set2 (.int .i64 0) (.int .i64 0)).other (a := ⟨w.heap.size + 1, 0, none⟩) (show w.heap.size + 1 ≠ w.heap.size by omega) (.int .i64 0)).other (a := ⟨w.heap.size + 1, 1, none⟩) (show w.heap.size + 1 ≠ w.heap.size by omega) (.int .i64 0))
      have R2 := hid (((_rb.other (a := ⟨w.heap.size, 0, none⟩) (show w.heap.size ≠ w.heap.size + 1 by omega) (.int .i64 0)).other (a := ⟨w.heap.size, 1, none⟩) (show w.heap.size ≠ w.heap.size + 1 by omega) (.int .i64 0)).set2 (.int .i64 0) (.int .i64 0))
      have B4 := hid ((((BU.out.setCell (p := ⟨w.heap.size, 0, none⟩) (Nat.le_refl _) (.int .i64 0)).setCell (p := ⟨w.heap.size, 1, none⟩) (Nat.le_refl _) (.int .i64 0)).setCell (p := ⟨w.heap.size + 1, 0, none⟩) (Nat.le_succ _) (.int .i64 0)).setCell (p := ⟨w.heap.size + 1, 1, none⟩) (Nat.le_succ _) (.int .i64 0))
      clear _ra _rb hbad
      by_cases hlt : (k : Int) < (n : Int)
      · go_wp2_with fail
        have r1 := R1.out
        have r2 := R2.out
        have a0 := r1.cell 0; have a1 := r1.cell 1; have b0 := r2.cell 0; have b1 := r2.cell 1
        simp only [List.set_cons_zero, List.set_cons_succ, List.getElem?_cons_zero, List.getElem?_cons_succ] at a0 a1 b0 b1
        exact bodyPost_ret (v := .tuple #[.agg #[.int .i64 0, .int .i64 0], .agg #[.int .i64 0, .int .i64 0], .int .i64 2]) (by simp [results, Tryd.results7, go_sem, a0, a1, b0, b1]) rfl ⟨by rw [PN.out], B4.out⟩
      · go_wp2_with fail
        have r1 := R1.out
        have r2 := R2.out
        have a0 := r1.cell 0; have a1 := r1.cell 1; have b0 := r2.cell 0; have b1 := r2.cell 1
        simp only [List.set_cons_zero, List.set_cons_succ, List.getElem?_cons_zero, List.getElem?_cons_succ] at a0 a1 b0 b1
        exact bodyPost_ret (v := .tuple #[.agg #[.int .i64 0, .int .i64 0], .agg #[.int .i64 0, .int .i64 0], .int .i64 2]) (by simp [results, Tryd.results7, go_sem, a0, a1, b0, b1]) rfl ⟨by rw [PN.out], B4.out⟩
end Go.Proofs.YtihadhbgkjbkeaaDoor
