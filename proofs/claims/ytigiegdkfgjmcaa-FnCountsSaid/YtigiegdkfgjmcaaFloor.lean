/- Division and what is left of it, both rounded down. -/
import Derived.Test.YtigiegdkfgjmcaaBase
namespace Go.Proofs.Ytigiegdkfgjmcaa
open Go.RowKit
theorem ediv_neg_of (m c : Int) (hc : 1 ≤ c) : (-m) / c = if m % c = 0 then -(m / c) else -(m / c) - 1 := by
  have hm := Int.emod_add_mul_ediv m c
  have h0 := Int.emod_nonneg m (show c ≠ 0 by omega)
  have h1 := Int.emod_lt_of_pos m (show 0 < c by omega)
  split
  · next h =>
    exact ((Int.ediv_emod_unique (r := 0) (show 0 < c by omega)).2 ⟨by rw [Int.mul_neg]; omega, Int.le_refl _, by omega⟩).1
  · next h =>
    exact ((Int.ediv_emod_unique (r := c - m % c) (show 0 < c by omega)).2 ⟨by rw [Int.mul_sub, Int.mul_neg]; omega, by omega, by omega⟩).1

theorem floorDiv_any (a c : Int) (ha : -1000000000000000000 ≤ a ∧ a ≤ 1000000000000000000) (hc : 1 ≤ c ∧ c ≤ 10000000000000000) (w : World) :
    Calls Try.prog 35 #[.int .i64 a, .int .i64 c] w fun e w' => e = .returned (.int .i64 (a / c)) ∧ w = w' := by
  have hc0 : c ≠ 0 := by omega
  by_cases h0 : 0 ≤ a
  · have e1 : a.tmod c = a % c := Int.tmod_eq_emod_of_nonneg h0
    have e2 : a.tdiv c = a / c := Int.tdiv_eq_ediv_of_nonneg h0
    have m0 := Int.emod_nonneg a hc0
    have m1 := Int.emod_lt_of_pos a (show 0 < c by omega)
    have q0 := Int.ediv_nonneg h0 (show 0 ≤ c by omega)
    have q1 := Int.ediv_le_self c h0
    obtain ⟨r, hr⟩ : ∃ r, r = a % c := ⟨_, rfl⟩
    obtain ⟨q, hq⟩ : ∃ q, q = a / c := ⟨_, rfl⟩
    rw [← hr] at e1 m0 m1
    rw [← hq] at e2 q0 q1
    rw [← hq]
    have d1 : decide (r < 0) = false := by simp; omega
    replace e1 := e1
    clear hr hq h0
    go_enter Try.func35, Try.ntmps35
    go_wp2_with fail
    go_ret
    exact ⟨rfl, rfl⟩
  · obtain ⟨m, rfl⟩ : ∃ m, a = -m := ⟨-a, by omega⟩
    have hm : 0 ≤ m := by omega
    have e1 : (-m).tmod c = -(m % c) := by rw [Int.neg_tmod, Int.tmod_eq_emod_of_nonneg hm]
    have e2 : (-m).tdiv c = -(m / c) := by rw [Int.neg_tdiv, Int.tdiv_eq_ediv_of_nonneg hm]
    have e3 := ediv_neg_of m c hc.1
    have m0 := Int.emod_nonneg m hc0
    have m1 := Int.emod_lt_of_pos m (show 0 < c by omega)
    have q0 := Int.ediv_nonneg hm (show 0 ≤ c by omega)
    have q1 := Int.ediv_le_self c hm
    obtain ⟨r, hr⟩ : ∃ r, r = m % c := ⟨_, rfl⟩
    obtain ⟨q, hq⟩ : ∃ q, q = m / c := ⟨_, rfl⟩
    rw [← hr] at e1 e3 m0 m1
    rw [← hq] at e2 e3 q0 q1
    obtain ⟨a, hA⟩ : ∃ a, a = -m := ⟨_, rfl⟩
    rw [← hA] at e1 e2 e3 ha
    rw [← hA, e3]
    by_cases hz : r = 0
    · subst hz
      simp only [if_true]
      simp only [Int.neg_zero] at e1
      have d1 : decide ((0 : Int) < 0) = false := rfl
      have q2 : -1000000000000000000 ≤ -q ∧ -q ≤ 0 := by omega
      clear e3 hr hq hA h0 q0 q1
      generalize -q = q' at e2 q2 ⊢
      go_enter Try.func35, Try.ntmps35
      go_wp2_with fail
      go_ret
      exact ⟨rfl, rfl⟩
    · rw [if_neg hz]
      have d0 : -10000000000000000 ≤ -r ∧ -r < 0 := by omega
      have q2 : -1000000000000000000 ≤ -q ∧ -q ≤ 0 := by omega
      clear e3 hr hq hA h0 hz q0 q1 m0 m1
      generalize -q = q' at e2 q2 ⊢
      generalize -r = r' at e1 d0
      have d1 : decide (r' < 0) = true := by simp; omega
      go_enter Try.func35, Try.ntmps35
      go_wp2_with fail
      go_ret
      exact ⟨rfl, rfl⟩

theorem floorMod_any (a c : Int) (ha : -1000000000000000000 ≤ a ∧ a ≤ 1000000000000000000) (hc : 1 ≤ c ∧ c ≤ 10000000000000000) (w : World) :
    Calls Try.prog 34 #[.int .i64 a, .int .i64 c] w fun e w' => e = .returned (.int .i64 (a % c)) ∧ w = w' := by
  have hX := hid (fun w => floorDiv_any a c ha hc w)
  have h0 := Int.emod_nonneg a (show c ≠ 0 by omega)
  have h1 := Int.emod_lt_of_pos a (show 0 < c by omega)
  have h2 := Int.emod_add_mul_ediv a c
  rw [Int.mul_comm] at h2
  obtain ⟨q, hq⟩ : ∃ q, q = a / c := ⟨_, rfl⟩
  obtain ⟨r, hr⟩ : ∃ r, r = a % c := ⟨_, rfl⟩
  rw [← hq] at hX h2
  rw [← hr] at h0 h1 h2
  rw [← hr]
  obtain ⟨g, hg⟩ : ∃ g, g = q * c := ⟨_, rfl⟩
  have hg2 : q * c = g := hg.symm
  rw [← hg] at h2
  have hg3 : -2000000000000000000 ≤ g ∧ g ≤ 1000000000000000000 := by omega
  have hg4 : a - g = r := by omega
  clear hq hr hg h2
  go_enter Try.func34, Try.ntmps34
  go_wp2_with (go_at_call 35; refine (hX.out _).mono ?_; rintro e w' ⟨rfl, rfl⟩)
  go_ret
  exact ⟨rfl, rfl⟩

end Go.Proofs.Ytigiegdkfgjmcaa
