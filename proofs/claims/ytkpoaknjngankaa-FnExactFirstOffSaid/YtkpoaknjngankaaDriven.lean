/- RatioOf and DrivenCount: the program's and the model's. -/
import Derived.Test.YtkpoaknjngankaaOfT
namespace Go.Proofs.Ytkpoaknjngankaa
open Go.RowKit
def ratR (js : List (Int × Int)) : (Int × Int) × Int := if okT js then ((redP (prD js js.length) (prN js js.length), redQ (prD js js.length) (prN js js.length)), 0) else ((0, 0), 1)
theorem ratR_yes {js : List (Int × Int)} (h : okT js = true) : ratR js = ((redP (prD js js.length) (prN js js.length), redQ (prD js js.length) (prN js js.length)), 0) := by simp [ratR, h]
theorem ratR_no {js : List (Int × Int)} (h : okT js = false) : ratR js = ((0, 0), 1) := by simp [ratR, h]
def turnsI (c P Q : Int) : Int := c * P / Q
theorem turns_bd {c P Q : Int} (h1 : 0 ≤ c) (h2 : c ≤ 1000000000) (h3 : 1 ≤ P) (h4 : P ≤ 1000000000) (h5 : 1 ≤ Q) : 0 ≤ c * P ∧ c * P ≤ 1000000000000000000 ∧ 0 ≤ turnsI c P Q ∧ turnsI c P Q ≤ 1000000000000000000 ∧ (c * P).tdiv Q = turnsI c P Q := by
  have a := Int.mul_nonneg h1 (show 0 ≤ P by omega)
  have b := Int.mul_le_mul h2 h4 (by omega) (by omega)
  have e := Int.ediv_nonneg a (show 0 ≤ Q by omega)
  have f := Int.ediv_le_self Q a
  unfold turnsI
  exact ⟨a, by omega, e, by omega, Int.tdiv_eq_ediv_of_nonneg a⟩
theorem turns_any (c P Q : Int) (h1 : 0 ≤ c) (h2 : c ≤ 1000000000) (h3 : 1 ≤ P) (h4 : P ≤ 1000000000) (h5 : 1 ≤ Q) (w : World) :
    Calls Try.prog 79 #[.agg #[.int .i64 P, .int .i64 Q], .int .i64 c] w (GivesB w (.int .i64 (turnsI c P Q))) := by
  obtain ⟨m1, m2, z1, z2, e1⟩ := turns_bd h1 h2 h3 h4 h5
  have e2 : c * P / Q = turnsI c P Q := rfl
  obtain ⟨m, hm⟩ : ∃ z, c * P = z := ⟨_, rfl⟩
  obtain ⟨z, hz⟩ : ∃ z, turnsI c P Q = z := ⟨_, rfl⟩
  rw [hm] at m1 m2 e1 e2
  rw [hz] at z1 z2 e1 e2 ⊢
  have t1 : IntKind.i64.wrap m = m := IntWalk.i64_in _ (by omega)
  have t2 : IntKind.i64.wrap z = z := IntWalk.i64_in _ (by omega)
  have n1 : Q ≠ 0 := by omega
  have bE := hid (box2_bel w 27 (.int .i64 P) (.int .i64 Q))
  clear hz
  go_enter Try.func79, Try.ntmps79
  go_wp2_with fail
  go_ret
  exact ⟨rfl, bE.out⟩
/-- what a valid train's ratio is -/
theorem rat_bd {js : List (Int × Int)} (h : okT js = true) : 1 ≤ redP (prD js js.length) (prN js js.length) ∧ redP (prD js js.length) (prN js js.length) ≤ 207360000 ∧ 1 ≤ redQ (prD js js.length) (prN js js.length) ∧ redQ (prD js js.length) (prN js js.length) ≤ 207360000 := by
  obtain ⟨p1, p2, p3, p4⟩ := pr_bd h js.length (Nat.le_refl _)
  obtain ⟨_, _, _, x1, x2, y1, y2, _, _⟩ := red_bd p1 p3
  omega
def drR (js : List (Int × Int)) (c : Int) : Int × Int := if okT js then (if 0 ≤ c ∧ c ≤ 1000000000 then (turnsI c (redP (prD js js.length) (prN js js.length)) (redQ (prD js js.length) (prN js js.length)), 0) else (0, 2)) else (0, 1)
theorem drR_no {js : List (Int × Int)} {c : Int} (h : okT js = false) : drR js c = (0, 1) := by simp [drR, h]
theorem drR_range {js : List (Int × Int)} {c : Int} (h : okT js = true) (hc : ¬ (0 ≤ c ∧ c ≤ 1000000000)) : drR js c = (0, 2) := by rw [drR, if_pos h, if_neg hc]
theorem drR_yes {js : List (Int × Int)} {c : Int} (h : okT js = true) (hc : 0 ≤ c ∧ c ≤ 1000000000) : drR js c = (turnsI c (redP (prD js js.length) (prN js js.length)) (redQ (prD js js.length) (prN js js.length)), 0) := by rw [drR, if_pos h, if_pos hc]
end Go.Proofs.Ytkpoaknjngankaa
