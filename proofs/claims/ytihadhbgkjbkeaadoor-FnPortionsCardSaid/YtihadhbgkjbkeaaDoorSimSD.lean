/- SimplestPortion: the model's answer. -/
import Derived.Test.YtihadhbgkjbkeaaDoorSimD
import Derived.Deep.DeepCutAuto
namespace Go.Proofs.YtihadhbgkjbkeaaDoor
open Go.RowKit
set_option linter.unusedVariables false
set_option maxRecDepth 100000 in
set_option maxHeartbeats 4000000 in
theorem l06Simplest_any (p q u v : Int) (hp : 0 ≤ p ∧ p ≤ 1000000000) (hq : 1 ≤ q ∧ q ≤ 100000) (hu : 0 ≤ u ∧ u ≤ 1000000000) (hv : 1 ≤ v ∧ v ≤ 100000) (hlt : p * v < u * q) (w : World) :
    Calls Tryd.prog 16 #[.agg #[.int .i64 p, .int .i64 q], .agg #[.int .i64 u, .int .i64 v]] w (GivesB w (.agg #[.int .i64 (simGo p q u v q.toNat 1).1, .int .i64 (simGo p q u v q.toNat 1).2])) := by
  obtain ⟨W, hW⟩ : ∃ W, W = (((w.alloc (.cells #[.int .i64 p, .int .i64 q] 28)).alloc (.cells #[.int .i64 u, .int .i64 v] 28)).alloc (.cells #[.int .i64 0, .int .i64 0] 28)) := ⟨_, rfl⟩
  obtain ⟨q0, q1, q2, bW, sW⟩ := three_boxes2 w 28 28 28 (.int .i64 p) (.int .i64 q) (.int .i64 u) (.int .i64 v) (.int .i64 0) (.int .i64 0) W hW
  have Q0 := hid q0
  have Q1 := hid q1
  have Q2 := hid q2
  have BE := hid bW
  have HW := hid hW
  have L0 := hid q0.lt
  have L1 := hid q1.lt
  have L2 := hid q2.lt
  have SWW := hid sW
  have HLT := hid hlt
  have HP := hid hp
  have HU := hid hu
  have HV := hid hv
  obtain ⟨hq1, hq2⟩ := hq
  clear q0 q1 q2 bW hW sW hp hu hv hlt
  go_enter Tryd.func16, Tryd.ntmps16
  go_wp2_with fail
  rw [← HW.out]
  go_loopw [5, 6, 7] (fun i s6 s7 wr => ∃ k : Nat, 1 ≤ k ∧ (k : Int) ≤ q ∧ i = .int .i64 k ∧ simGo p q u v q.toNat 1 = simGo p q u v (q.toNat + 1 - k) k ∧ Below W.heap.size W wr) (fun i _ _ _ => q.toNat + 1 - (intOf i).toNat)
  case atStart => exact ⟨1, by omega, by omega, rfl, by rw [show q.toNat + 1 - 1 = q.toNat by omega]; rfl, Below.refl _ _⟩
  case round =>
    obtain ⟨k, hk1, hkq, rfl, hg, hB⟩ := hrel
    have r0 := Q0.out.below hB L0.out
    have r1 := Q1.out.below hB L1.out
    have c0 := r0.cell 0; have c1 := r0.cell 1; have d0 := r1.cell 0; have d1 := r1.cell 1
    simp only [List.getElem?_cons_zero, List.getElem?_cons_succ] at c0 c1 d0 d1
    obtain ⟨b1, b2, b3, b4⟩ := sp_bd (k := (k : Int)) HP.out.1 hq1 (by omega) hkq
    obtain ⟨_, b5⟩ := mul_le2 HP.out.1 HP.out.2 (show 0 ≤ q by omega) hq2
    obtain ⟨b6, b7⟩ := mul_le2 b1 (show sp p q k ≤ 1000000000 by have := HP.out; omega) (show 0 ≤ v by have := HV.out; omega) HV.out.2
    obtain ⟨b8, b9⟩ := mul_le2 HU.out.1 HU.out.2 (show 0 ≤ (k : Int) by omega) (show (k : Int) ≤ 100000 by omega)
    have HL := hid (fun w => l06Less_any (sp p q k) k u v b6 (by omega) b8 (by omega) w)
    have HAT := hid (fun h : (k : Int) = q => show sp p q k * v < u * k by rw [h, sp_at hq1]; exact HLT.out)
    have e1 : (p * (k : Int) + q - 1).tdiv q = sp p q k := Int.tdiv_eq_ediv_of_nonneg (by omega)
    have hk0 : (0 : Int) ≤ (k : Int) := by omega
    have HG := hid hg
    have HB := hid hB
    have nq : q ≠ 0 := by omega
    have pb := HP.out.2
    by_cases hc : sp p q k * v < u * (k : Int)
    · have HF := hid (hg.trans (simGo_yes hc))
      rw [decide_eq_true hc] at HL
      obtain ⟨X, hX⟩ : ∃ X, p * (k : Int) = X := ⟨_, rfl⟩
      rw [hX] at e1 b3 b4
      obtain ⟨s, hs⟩ : ∃ s, sp p q k = s := ⟨_, rfl⟩
      rw [hs] at e1 b1 b2 HL HF
      have tX : IntKind.i64.wrap X = X := IntWalk.i64_in _ (by omega)
      have tX2 : IntKind.i64.wrap (X + q) = X + q := IntWalk.i64_in _ (by omega)
      have tX3 : IntKind.i64.wrap (X + q - 1) = X + q - 1 := IntWalk.i64_in _ (by omega)
      have ts : IntKind.i64.wrap s = s := IntWalk.i64_in _ (by omega)
      rw [show simGo p q u v q.toNat 1 = (s, (k : Int)) from HF.out]
      have hsz := hB.size
      obtain ⟨Z, hZ⟩ : ∃ Z, Z = wr.alloc (.cells #[.int .i64 s, .int .i64 k] 28) := ⟨_, rfl⟩
      have bZ : Below wr.heap.size wr Z := by rw [hZ]; exact (Below.refl _ _).alloc (Nat.le_refl _) _
      have rZ : Row Z wr.heap.size 28 [.int .i64 s, .int .i64 k] := by rw [hZ]; exact Row.new _ _ _
      have BZ := hid (HB.out.trans (bZ.mono hsz))
      have RZ := hid rZ
      have HZ := hid hZ
      have z1' := Q1.out.below BZ.out L1.out
      have x0 := rZ.cell 0; have x1 := rZ.cell 1; have y0 := z1'.cell 0; have y1 := z1'.cell 1
      simp only [List.getElem?_cons_zero, List.getElem?_cons_succ] at x0 x1 y0 y1
      clear hg hB r0 r1 hc hs hZ bZ rZ z1'
      go_upto_region 4 with fail
      rw [← HZ.out]
      clear c0 c1 d0 d1
      go_wp2_with fail
      refine (HL.out _).mono ?_
      rintro e w1 ⟨rfl, hB1⟩
      clear x0 x1 y0 y1
      have rx := RZ.out.below hB1 RZ.out.lt
      have bw1 := BZ.out.trans (hB1.mono BZ.out.size)
      have r2 := Q2.out.below bw1 L2.out
      have bb : Below w.heap.size w w1 := BE.out.trans (bw1.mono BE.out.size)
      have x0 := rx.cell 0; have x1 := rx.cell 1; have y0 := r2.cell 0; have y1 := r2.cell 1; have f0 := r2.frozen 0; have f1 := r2.frozen 1
      simp only [List.getElem?_cons_zero, List.getElem?_cons_succ] at x0 x1 y0 y1
      have PA := hid (pair_again2 (.int .i64 s) (.int .i64 k) r2)
      clear rx r2 hB1 bw1
      go_wp2_with fail
      obtain ⟨Y, hY⟩ : ∃ Y, Y = (w1.setCell ⟨w.heap.size + 1 + 1, 0, none⟩ (.int .i64 s)).setCell ⟨w.heap.size + 1 + 1, 1, none⟩ (.int .i64 k) := ⟨_, rfl⟩
      obtain ⟨rY, bY, _⟩ := PA.out Y hY
      try rw [← hY]
      clear hY x0 x1 y0 y1 f0 f1
      have g0 := rY.cell 0; have g1 := rY.cell 1
      simp only [List.getElem?_cons_zero, List.getElem?_cons_succ] at g0 g1
      exact bodyPost_ret (v := .agg #[.int .i64 s, .int .i64 k]) (by simp [results, Tryd.results16, go_sem, g0, g1]) rfl ⟨rfl, bb.trans (bY _ (by omega))⟩
    · have hne : (k : Int) ≠ q := fun h => hc (HAT.out h)
      have HF := hid (show simGo p q u v q.toNat 1 = simGo p q u v (q.toNat + 1 - (k + 1)) ((k + 1 : Nat) : Int) by
        rw [hg, show q.toNat + 1 - k = (q.toNat + 1 - (k + 1)) + 1 by omega, simGo_no hc]; rfl)
      rw [decide_eq_false hc] at HL
      obtain ⟨X, hX⟩ : ∃ X, p * (k : Int) = X := ⟨_, rfl⟩
      rw [hX] at e1 b3 b4
      obtain ⟨s, hs⟩ : ∃ s, sp p q k = s := ⟨_, rfl⟩
      rw [hs] at e1 b1 b2 HL
      have tX : IntKind.i64.wrap X = X := IntWalk.i64_in _ (by omega)
      have tX2 : IntKind.i64.wrap (X + q) = X + q := IntWalk.i64_in _ (by omega)
      have tX3 : IntKind.i64.wrap (X + q - 1) = X + q - 1 := IntWalk.i64_in _ (by omega)
      have ts : IntKind.i64.wrap s = s := IntWalk.i64_in _ (by omega)
      have hsz := hB.size
      have hk2 : ((k + 1 : Nat) : Int) ≤ q := by omega
      have hk3 : k < q.toNat := by omega
      obtain ⟨Z, hZ⟩ : ∃ Z, Z = wr.alloc (.cells #[.int .i64 s, .int .i64 k] 28) := ⟨_, rfl⟩
      have bZ : Below wr.heap.size wr Z := by rw [hZ]; exact (Below.refl _ _).alloc (Nat.le_refl _) _
      have rZ : Row Z wr.heap.size 28 [.int .i64 s, .int .i64 k] := by rw [hZ]; exact Row.new _ _ _
      have BZ := hid (HB.out.trans (bZ.mono hsz))
      have RZ := hid rZ
      have HZ := hid hZ
      have z1' := Q1.out.below BZ.out L1.out
      have x0 := rZ.cell 0; have x1 := rZ.cell 1; have y0 := z1'.cell 0; have y1 := z1'.cell 1
      simp only [List.getElem?_cons_zero, List.getElem?_cons_succ] at x0 x1 y0 y1
      clear hg hB r0 r1 hc hs hZ bZ rZ z1'
      go_upto_region 4 with fail
      rw [← HZ.out]
      clear c0 c1 d0 d1
      go_wp2_with fail
      refine (HL.out _).mono ?_
      rintro e w1 ⟨rfl, hB1⟩
      clear x0 x1 y0 y1
      have bb := hid (BZ.out.trans (hB1.mono BZ.out.size))
      clear hB1
      go_wp2_with fail
      go_roundw
      case rel => exact ⟨k + 1, by omega, hk2, by go_num, HF.out, bb.out⟩
      case measure => simp [intOf]; omega
/-- the three boxes of SimplestPortion -/
def CoreP (w : World) (T : TypeId) (p q u v : Int) (w' : World) : Prop :=
  Below w.heap.size w w' ∧ Row w' w.heap.size T [.int .i64 p, .int .i64 q] ∧ Row w' (w.heap.size + 1) T [.int .i64 u, .int .i64 v] ∧ Row w' (w.heap.size + 1 + 1) T [.int .i64 0, .int .i64 0]
theorem CoreP.below {w : World} {T : TypeId} {p q u v : Int} {w' w'' : World} (h : CoreP w T p q u v w') (hB : Below w'.heap.size w' w'') : CoreP w T p q u v w'' := by
  obtain ⟨h1, h2, h3, h4⟩ := h
  exact ⟨h1.trans (hB.mono h1.size), h2.below hB h2.lt, h3.below hB h3.lt, h4.below hB h4.lt⟩
theorem CoreP.cells {w : World} {T : TypeId} {p q u v : Int} {w' : World} (h : CoreP w T p q u v w') :
    w'.cell? ⟨w.heap.size, 0, none⟩ = some (.int .i64 p) ∧ w'.cell? ⟨w.heap.size, 1, none⟩ = some (.int .i64 q) ∧ w'.cell? ⟨w.heap.size + 1, 0, none⟩ = some (.int .i64 u) ∧ w'.cell? ⟨w.heap.size + 1, 1, none⟩ = some (.int .i64 v) ∧ w'.cell? ⟨w.heap.size + 1 + 1, 0, none⟩ = some (.int .i64 0) ∧ w'.cell? ⟨w.heap.size + 1 + 1, 1, none⟩ = some (.int .i64 0) ∧ w'.frozen? ⟨w.heap.size + 1 + 1, 0, none⟩ = false ∧ w'.frozen? ⟨w.heap.size + 1 + 1, 1, none⟩ = false := by
  obtain ⟨_, h2, h3, h4⟩ := h
  exact ⟨h2.cell 0, h2.cell 1, h3.cell 0, h3.cell 1, h4.cell 0, h4.cell 1, h4.frozen 0, h4.frozen 1⟩
theorem CoreP.done {w : World} {T : TypeId} {p q u v : Int} {w' : World} (h : CoreP w T p q u v w') (x y : Value) : ∀ Y, Y = (w'.setCell ⟨w.heap.size + 1 + 1, 0, none⟩ x).setCell ⟨w.heap.size + 1 + 1, 1, none⟩ y →
    Y.cell? ⟨w.heap.size + 1 + 1, 0, none⟩ = some x ∧ Y.cell? ⟨w.heap.size + 1 + 1, 1, none⟩ = some y ∧ Below w.heap.size w Y := by
  obtain ⟨h1, _, _, h4⟩ := h
  intro Y hY
  obtain ⟨r, b, _⟩ := pair_again2 x y h4 Y hY
  exact ⟨r.cell 0, r.cell 1, h1.trans (b _ (by omega))⟩
end Go.Proofs.YtihadhbgkjbkeaaDoor
