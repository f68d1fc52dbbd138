/- The bounds of the numbers that explain all pairs: the program's, with its code. -/
import Derived.Test.YtihadhbgkjbkeaaDoorPbS
namespace Go.Proofs.YtihadhbgkjbkeaaDoor
open Go.RowKit
set_option linter.unusedVariables false
set_option maxRecDepth 100000 in
set_option maxHeartbeats 4000000 in
theorem implPortionBounds_any (b n cap : Nat) (js : List (Int × Int)) (w : World) (hS : Rst w b js) (hn : n = js.length) (hcap : n ≤ cap) (hg : GV w) :
    Calls Tryd.prog 6 #[.slice (some ⟨b, 0, none⟩) n cap] w (GivesB w (Pb3 (pbR js))) := by
  obtain ⟨U, hU⟩ : ∃ U, U = ((w.alloc (.cells #[.int .i64 0, .int .i64 0] 28)).alloc (.cells #[.int .i64 0, .int .i64 0] 28)) := ⟨_, rfl⟩
  obtain ⟨ra, rb, bU, sU⟩ := two_boxes2 w 28 28 (.int .i64 0) (.int .i64 0) (.int .i64 0) (.int .i64 0) U hU
  have RA := hid ra
  have RB := hid rb
  have BU := hid bU
  have SU := hid sU
  have HU := hid hU
  have HP := hid (portionBounds_any b n cap js U (hS.below bU hS.1) hn hcap)
  have HG := hid (hg.below bU hg.lt)
  have L0 := hid hg.lt
  obtain ⟨⟨⟨x, y, u, v⟩, c⟩, hR⟩ : ∃ r, pbR js = r := ⟨_, rfl⟩
  rw [hR] at HP ⊢
  unfold PbV at HP
  unfold Pb3
  simp only at HP ⊢
  obtain ⟨ev, hev⟩ : ∃ z, errV c = z := ⟨_, rfl⟩
  have HC := hid (fun w h => codeOf_any c w h)
  rw [hev] at HP HC
  clear hS hn hcap hg ra rb bU sU hU hR hev
  go_enter Tryd.func6, Tryd.ntmps6
  go_wp2_with fail
  rw [← HU.out]
  refine HP.out.mono ?_
  rintro e w1 ⟨rfl, hB1⟩
  obtain ⟨X, hX⟩ : ∃ X, X = w1.alloc (.cells #[.int .i64 x, .int .i64 y, .int .i64 u, .int .i64 v] 35) := ⟨_, rfl⟩
  have hz1 := hB1.size
  have bX : Below w1.heap.size w1 X := by rw [hX]; exact (Below.refl _ _).alloc (Nat.le_refl _) _
  have R5 := hid (show Row X w1.heap.size 35 [.int .i64 x, .int .i64 y, .int .i64 u, .int .i64 v] by rw [hX]; exact Row.new _ _ _)
  have TA := hid ((RA.out.below hB1 RA.out.lt).below bX (by have := SU.out; omega))
  have TB := hid ((RB.out.below hB1 RB.out.lt).below bX (by have := SU.out; omega))
  have BX := hid (BU.out.trans ((hB1.trans (bX.mono hz1)).mono BU.out.size))
  have GX := hid ((HG.out.below hB1 HG.out.lt).below bX (by have := HG.out.lt; omega))
  have LL := hid (show 0 < w.heap.size ∧ w.heap.size + 1 < w1.heap.size by have := SU.out; have := L0.out; omega)
  have HX := hid hX
  have hF0 : ∀ W, Sem.run Tryd.prog (Instr.field 35 (.agg #[.int .i64 x, .int .i64 y, .int .i64 u, .int .i64 v]) 0) W = .ok (.agg #[.int .i64 x, .int .i64 y]) W := fun _ => by kernel_rfl
  clear hB1 bX hX hF0
  go_upto_region 2 with fail
  rw [← HX.out]
  have r5 := R5.out
  have k0 := r5.cell 0; have k1 := r5.cell 1; have k2 := r5.cell 2; have k3 := r5.cell 3
  simp only [List.getElem?_cons_zero, List.getElem?_cons_succ] at k0 k1 k2 k3
  have l5 := r5.lt
  have hS0 := hid (show (fun w' => GV w' ∧ w'.cell? ⟨w1.heap.size, 0, none⟩ = some (.int .i64 x) ∧ w'.cell? ⟨w1.heap.size, 1, none⟩ = some (.int .i64 y) ∧ w'.cell? ⟨w1.heap.size, 2, none⟩ = some (.int .i64 u) ∧ w'.cell? ⟨w1.heap.size, 3, none⟩ = some (.int .i64 v)) X.drew from ⟨GX.out, k0, k1, k2, k3⟩)
  have HSA := hid (fun (W' : World) (h : (fun w' => GV w' ∧ w'.cell? ⟨w1.heap.size, 0, none⟩ = some (.int .i64 x) ∧ w'.cell? ⟨w1.heap.size, 1, none⟩ = some (.int .i64 y) ∧ w'.cell? ⟨w1.heap.size, 2, none⟩ = some (.int .i64 u) ∧ w'.cell? ⟨w1.heap.size, 3, none⟩ = some (.int .i64 v)) W') (i : Nat) (t : Value) => show (fun w' => GV w' ∧ w'.cell? ⟨w1.heap.size, 0, none⟩ = some (.int .i64 x) ∧ w'.cell? ⟨w1.heap.size, 1, none⟩ = some (.int .i64 y) ∧ w'.cell? ⟨w1.heap.size, 2, none⟩ = some (.int .i64 u) ∧ w'.cell? ⟨w1.heap.size, 3, none⟩ = some (.int .i64 v)) (W'.setCell ⟨w.heap.size, i, none⟩ t) from ⟨(show GV _ from (cell_apart2 (p := ⟨0, 0, none⟩) (a := ⟨w.heap.size, i, none⟩) (show (0 : Nat) ≠ w.heap.size by have := LL.out; omega)).trans h.1), (cell_apart2 (show w1.heap.size ≠ w.heap.size by have := LL.out; omega)).trans h.2.1, (cell_apart2 (show w1.heap.size ≠ w.heap.size by have := LL.out; omega)).trans h.2.2.1, (cell_apart2 (show w1.heap.size ≠ w.heap.size by have := LL.out; omega)).trans h.2.2.2.1, (cell_apart2 (show w1.heap.size ≠ w.heap.size by have := LL.out; omega)).trans h.2.2.2.2⟩)
  have HSB := hid (fun (W' : World) (h : (fun w' => GV w' ∧ w'.cell? ⟨w1.heap.size, 0, none⟩ = some (.int .i64 x) ∧ w'.cell? ⟨w1.heap.size, 1, none⟩ = some (.int .i64 y) ∧ w'.cell? ⟨w1.heap.size, 2, none⟩ = some (.int .i64 u) ∧ w'.cell? ⟨w1.heap.size, 3, none⟩ = some (.int .i64 v)) W') (i : Nat) (t : Value) => show (fun w' => GV w' ∧ w'.cell? ⟨w1.heap.size, 0, none⟩ = some (.int .i64 x) ∧ w'.cell? ⟨w1.heap.size, 1, none⟩ = some (.int .i64 y) ∧ w'.cell? ⟨w1.heap.size, 2, none⟩ = some (.int .i64 u) ∧ w'.cell? ⟨w1.heap.size, 3, none⟩ = some (.int .i64 v)) (W'.setCell ⟨(w.heap.size + 1), i, none⟩ t) from ⟨(show GV _ from (cell_apart2 (p := ⟨0, 0, none⟩) (a := ⟨(w.heap.size + 1), i, none⟩) (show (0 : Nat) ≠ (w.heap.size + 1) by have := LL.out; omega)).trans h.1), (cell_apart2 (show w1.heap.size ≠ (w.heap.size + 1) by have := LL.out; omega)).trans h.2.1, (cell_apart2 (show w1.heap.size ≠ (w.heap.size + 1) by have := LL.out; omega)).trans h.2.2.1, (cell_apart2 (show w1.heap.size ≠ (w.heap.size + 1) by have := LL.out; omega)).trans h.2.2.2.1, (cell_apart2 (show w1.heap.size ≠ (w.heap.size + 1) by have := LL.out; omega)).trans h.2.2.2.2⟩)
  have HSD := hid (fun (W' : World) (h : (fun w' => GV w' ∧ w'.cell? ⟨w1.heap.size, 0, none⟩ = some (.int .i64 x) ∧ w'.cell? ⟨w1.heap.size, 1, none⟩ = some (.int .i64 y) ∧ w'.cell? ⟨w1.heap.size, 2, none⟩ = some (.int .i64 u) ∧ w'.cell? ⟨w1.heap.size, 3, none⟩ = some (.int .i64 v)) W') => show (fun w' => GV w' ∧ w'.cell? ⟨w1.heap.size, 0, none⟩ = some (.int .i64 x) ∧ w'.cell? ⟨w1.heap.size, 1, none⟩ = some (.int .i64 y) ∧ w'.cell? ⟨w1.heap.size, 2, none⟩ = some (.int .i64 u) ∧ w'.cell? ⟨w1.heap.size, 3, none⟩ = some (.int .i64 v)) W'.drew from h)
  have HCX := hid (HC.out X.drew hS0.out.1)
  have SOF := hid (fun (W' : World) (h : Below X.drew.heap.size X.drew W') => show (fun w' => GV w' ∧ w'.cell? ⟨w1.heap.size, 0, none⟩ = some (.int .i64 x) ∧ w'.cell? ⟨w1.heap.size, 1, none⟩ = some (.int .i64 y) ∧ w'.cell? ⟨w1.heap.size, 2, none⟩ = some (.int .i64 u) ∧ w'.cell? ⟨w1.heap.size, 3, none⟩ = some (.int .i64 v)) W' from ⟨hS0.out.1.below h hS0.out.1.lt, (h.cell (p := ⟨w1.heap.size, 0, none⟩) l5).trans k0, (h.cell (p := ⟨w1.heap.size, 1, none⟩) l5).trans k1, (h.cell (p := ⟨w1.heap.size, 2, none⟩) l5).trans k2, (h.cell (p := ⟨w1.heap.size, 3, none⟩) l5).trans k3⟩)
  have TAd := hid (TA.out.below (Below.refl _ _).drew TA.out.lt)
  have TBd := hid (TB.out.below (Below.refl _ _).drew TB.out.lt)
  have BXd := hid BX.out.drew
  clear r5
  go_region_held3 (fun w' => GV w' ∧ w'.cell? ⟨w1.heap.size, 0, none⟩ = some (.int .i64 x) ∧ w'.cell? ⟨w1.heap.size, 1, none⟩ = some (.int .i64 y) ∧ w'.cell? ⟨w1.heap.size, 2, none⟩ = some (.int .i64 u) ∧ w'.cell? ⟨w1.heap.size, 3, none⟩ = some (.int .i64 v)) (repeat (first | exact hS0.out | exact hS1.out | with_reducible refine HSD.out _ ?_ | with_reducible refine HSA.out _ ?_ _ _ | with_reducible refine HSB.out _ ?_ _ _))
    ((go_at_call 12; with_reducible refine HCX.out.mono ?_; rintro e w2 ⟨rfl, hB2⟩; have hS1 := hid (SOF.out _ hB2); have VA := hid (TAd.out.below hB2 TAd.out.lt); have VB := hid (TBd.out.below hB2 TBd.out.lt); have BV := hid (BXd.out.trans (hB2.mono BXd.out.size)); obtain ⟨a0, a1, fa0, fa1⟩ := box2_at VA.out; obtain ⟨b0, b1, fb0, fb1⟩ := box2_at VB.out))
  go_wp2_with fail
  have _ra := VA.out
  have _rb := VB.out
  have R1 := (((_ra.set2 (.int .i64 x) (.int .i64 y)).other (a := ⟨w.heap.size + 1, 0, none⟩) (show w.heap.size + 1 ≠ w.heap.size by omega) (.int .i64 u)).other (a := ⟨w.heap.size + 1, 1, none⟩) (show w.heap.size + 1 ≠ w.heap.size by omega) (.int .i64 v))
  have R2 := (((_rb.other (a := ⟨w.heap.size, 0, none⟩) (show w.heap.size ≠ w.heap.size + 1 by omega) (.int .i64 x)).other (a := ⟨w.heap.size, 1, none⟩) (show w.heap.size ≠ w.heap.size + 1 by omega) (.int .i64 y)).set2 (.int .i64 u) (.int .i64 v))
  have B4 := ((((BV.out.setCell (p := ⟨w.heap.size, 0, none⟩) (Nat.le_refl _) (.int .i64 x)).setCell (p := ⟨w.heap.size, 1, none⟩) (Nat.le_refl _) (.int .i64 y)).setCell (p := ⟨w.heap.size + 1, 0, none⟩) (Nat.le_succ _) (.int .i64 u)).setCell (p := ⟨w.heap.size + 1, 1, none⟩) (Nat.le_succ _) (.int .i64 v))
  clear a0 a1 b0 b1
  have a0 := R1.cell 0; have a1 := R1.cell 1; have b0 := R2.cell 0; have b1 := R2.cell 1
  simp only [List.set_cons_zero, List.set_cons_succ, List.getElem?_cons_zero, List.getElem?_cons_succ] at a0 a1 b0 b1
  exact bodyPost_ret (v := .tuple #[.agg #[.int .i64 x, .int .i64 y], .agg #[.int .i64 u, .int .i64 v], .int .i64 c]) (by simp only [results, Tryd.results6]; simp [go_sem, a0, a1, b0, b1]) rfl ⟨rfl, B4⟩
end Go.Proofs.YtihadhbgkjbkeaaDoor
