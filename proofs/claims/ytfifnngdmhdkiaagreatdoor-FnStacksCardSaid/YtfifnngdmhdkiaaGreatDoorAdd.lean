/- What AddTo is made of: the range of a count, the model's rounding down. -/
import Derived.Test.YtfifnngdmhdkiaaGreatDoorMgP
namespace Go.Proofs.YtfifnngdmhdkiaaGreatDoor
open Go.RowKit

theorem countInRange_any (c : Int) (w : World) : Calls Tryz.prog 78 #[.int .i64 c] w fun e w' => e = .returned (.bool (decide (-1000000000000 ≤ c) && decide (c ≤ 1000000000000))) ∧ w = w' := by
  by_cases h1 : -1000000000000 ≤ c
  · by_cases h2 : c ≤ 1000000000000
    · have d1 : decide (-1000000000000 ≤ c) = true := by simp; omega
      have d2 : decide (c ≤ 1000000000000) = true := by simp; omega
      rw [d1, d2]
      go_enter Tryz.func78, Tryz.ntmps78
      go_wp2_with fail
      go_ret
      exact ⟨rfl, rfl⟩
    · have d1 : decide (-1000000000000 ≤ c) = true := by simp; omega
      have d2 : decide (c ≤ 1000000000000) = false := by simp; omega
      have h3 : 1000000000000 < c := by omega
      rw [d1, d2]
      clear h2
      go_enter Tryz.func78, Tryz.ntmps78
      go_wp2_with fail
      go_ret
      exact ⟨rfl, rfl⟩
  · have d1 : decide (-1000000000000 ≤ c) = false := by simp; omega
    have h3 : c < -1000000000000 := by omega
    rw [d1, Bool.false_and]
    clear h1
    go_enter Tryz.func78, Tryz.ntmps78
    go_wp2_with fail
    go_ret
    exact ⟨rfl, rfl⟩
theorem l01Down_any (a c : Int) (ha : -1000000000000000000 ≤ a ∧ a ≤ 1000000000000000000) (hc : 1 ≤ c ∧ c ≤ 10000000000000000) (w : World) :
    Calls Tryz.prog 82 #[.int .i64 a, .int .i64 c] w fun e w' => e = .returned (.int .i64 (a / c)) ∧ w = w' := by
  have hc0 : c ≠ 0 := by omega
  by_cases h0 : 0 ≤ a
  · have e1 : a.tmod c = a % c := Int.tmod_eq_emod_of_nonneg h0
    have e2 : a.tdiv c = a / c := Int.tdiv_eq_ediv_of_nonneg h0
    have m0 := Int.emod_nonneg a hc0
    have m1 := Int.emod_lt_of_pos a (show 0 < c by omega)
    have q0 := Int.ediv_nonneg h0 (show 0 ≤ c by omega)
    have q1 := Int.ediv_le_self c h0
    obtain ⟨r, hr⟩ : ∃ r, r = a % c := ⟨_, rfl⟩
    obtain ⟨q, hq⟩ : ∃ q, q = a / c := ⟨_, rfl⟩
    rw [← hr] at e1 m0 m1
    rw [← hq] at e2 q0 q1
    rw [← hq]
    have d1 : decide (r < 0) = false := by simp; omega
    replace e1 := e1
    clear hr hq h0
    go_enter Tryz.func82, Tryz.ntmps82
    go_wp2_with fail
    go_ret
    exact ⟨rfl, rfl⟩
  · obtain ⟨m, rfl⟩ : ∃ m, a = -m := ⟨-a, by omega⟩
    have hm : 0 ≤ m := by omega
    have e1 : (-m).tmod c = -(m % c) := by rw [Int.neg_tmod, Int.tmod_eq_emod_of_nonneg hm]
    have e2 : (-m).tdiv c = -(m / c) := by rw [Int.neg_tdiv, Int.tdiv_eq_ediv_of_nonneg hm]
    have e3 := ediv_neg_of m c hc.1
    have m0 := Int.emod_nonneg m hc0
    have m1 := Int.emod_lt_of_pos m (show 0 < c by omega)
    have q0 := Int.ediv_nonneg hm (show 0 ≤ c by omega)
    have q1 := Int.ediv_le_self c hm
    obtain ⟨r, hr⟩ : ∃ r, r = m % c := ⟨_, rfl⟩
    obtain ⟨q, hq⟩ : ∃ q, q = m / c := ⟨_, rfl⟩
    rw [← hr] at e1 e3 m0 m1
    rw [← hq] at e2 e3 q0 q1
    obtain ⟨a, hA⟩ : ∃ a, a = -m := ⟨_, rfl⟩
    rw [← hA] at e1 e2 e3 ha
    rw [← hA, e3]
    by_cases hz : r = 0
    · subst hz
      simp only [if_true]
      simp only [Int.neg_zero] at e1
      have d1 : decide ((0 : Int) < 0) = false := rfl
      have q2 : -1000000000000000000 ≤ -q ∧ -q ≤ 0 := by omega
      clear e3 hr hq hA h0 q0 q1
      generalize -q = q' at e2 q2 ⊢
      go_enter Tryz.func82, Tryz.ntmps82
      go_wp2_with fail
      go_ret
      exact ⟨rfl, rfl⟩
    · rw [if_neg hz]
      have d0 : -10000000000000000 ≤ -r ∧ -r < 0 := by omega
      have q2 : -1000000000000000000 ≤ -q ∧ -q ≤ 0 := by omega
      clear e3 hr hq hA h0 hz q0 q1 m0 m1
      generalize -q = q' at e2 q2 ⊢
      generalize -r = r' at e1 d0
      have d1 : decide (r' < 0) = true := by simp; omega
      go_enter Tryz.func82, Tryz.ntmps82
      go_wp2_with fail
      go_ret
      exact ⟨rfl, rfl⟩

end Go.Proofs.YtfifnngdmhdkiaaGreatDoor
