/- Validity of stacks: the program's and the model's answers are okL of the bases. -/
import Derived.Test.YtdlcbfoghpoliaaBase
namespace Go.Proofs.Ytdlcbfoghpoliaa
open Go.RowKit
theorem inr_any (n lo hi : Int) (w : World) :
    Calls Try.prog 17 #[.int .i64 n, .int .i64 lo, .int .i64 hi] w fun e w' => e = .returned (.bool (decide (lo ≤ n) && decide (n ≤ hi))) ∧ w = w' := by
  by_cases h : lo ≤ n
  · have h1 : decide (lo ≤ n) = true := by simpa using h
    go_enter Try.func17, Try.ntmps17
    go_wp2
    go_ret
    exact ⟨by simp [h], rfl⟩
  · have h1 : decide (lo ≤ n) = false := by simpa using h
    go_enter Try.func17, Try.ntmps17
    go_wp2
    go_ret
    exact ⟨by simp, rfl⟩
/-- the two ways of l00In -/
theorem inr_yes (n lo hi : Int) (w : World) (h : lo ≤ n ∧ n ≤ hi) : Calls Try.prog 17 #[.int .i64 n, .int .i64 lo, .int .i64 hi] w fun e w' => e = .returned (.bool true) ∧ w = w' :=
  (inr_any n lo hi w).mono fun _ _ ⟨he, hw⟩ => ⟨by rw [he]; simp [h.1, h.2], hw⟩
theorem inr_no (n lo hi : Int) (w : World) (h : n < lo ∨ hi < n) : Calls Try.prog 17 #[.int .i64 n, .int .i64 lo, .int .i64 hi] w fun e w' => e = .returned (.bool false) ∧ w = w' :=
  (inr_any n lo hi w).mono fun _ _ ⟨he, hw⟩ => ⟨by
    rw [he]
    have : ¬ (lo ≤ n ∧ n ≤ hi) := by omega
    have h2 : (decide (lo ≤ n) && decide (n ≤ hi)) = false := by simpa using fun a => by omega
    rw [h2], hw⟩
theorem min_any (a b : Int) (w : World) :
    Calls Try.prog 19 #[.int .i64 a, .int .i64 b] w fun e w' => e = .returned (.int .i64 (min a b)) ∧ w = w' := by
  by_cases h : a < b
  · have hm := hid (show min a b = a from by omega)
    go_enter Try.func19, Try.ntmps19
    go_wp2
    go_ret
    exact ⟨by rw [hm.out]; rfl, rfl⟩
  · have hm := hid (show min a b = b from by omega)
    go_enter Try.func19, Try.ntmps19
    go_wp2
    go_ret
    exact ⟨by rw [hm.out]; rfl, rfl⟩

/-- spec.l01Size of the first n bases, each within its bounds: the product, or one more than MaxCount. -/
def szC (zs : List Int) : Int := min (szL zs) 1000000000001
theorem szC_take (zs : List Int) (k : Nat) (hk : k < zs.length) (h : inB zs (k + 1)) :
    min (szC (zs.take k) * (zs[k]?.getD 0)) 1000000000001 = szC (zs.take (k + 1)) := by
  unfold szC
  rw [szL_take zs k hk]
  have a := (szL_bd zs k (by omega) (fun j hj => h j (by omega))).1
  have hz := h k (by omega)
  obtain ⟨p, hp⟩ : ∃ p, p = szL (zs.take k) := ⟨_, rfl⟩
  obtain ⟨z, hz'⟩ : ∃ z, z = zs[k]?.getD 0 := ⟨_, rfl⟩
  rw [← hp] at a; rw [← hz'] at hz; rw [← hp, ← hz']
  by_cases c : p ≤ 1000000000001
  · rw [show min p 1000000000001 = p from by omega]
  · have h1 : 1000000000001 * 1 ≤ p * z := Int.mul_le_mul (by omega) (by omega) (by omega) (by omega)
    have h2 : 1000000000001 * 2 ≤ 1000000000001 * z := Int.mul_le_mul_of_nonneg_left hz.1 (by omega)
    rw [show min p 1000000000001 = 1000000000001 from by omega]
    omega
theorem szC_zero (zs : List Int) : szC (zs.take 0) = 1 := by
  show min (szL []) 1000000000001 = 1
  rw [szL_nil]; omega
theorem szC_bd (zs : List Int) (k : Nat) (hk : k ≤ zs.length) (h : inB zs k) : 1 ≤ szC (zs.take k) ∧ szC (zs.take k) ≤ 1000000000001 := by
  have a := (szL_bd zs k hk h).1
  unfold szC
  omega
theorem szC_ok (zs : List Int) : decide (szC zs ≤ 1000000000000) = decide (szL zs ≤ 1000000000000) := by
  by_cases c : szL zs ≤ 1000000000000
  · simp [c, show szC zs ≤ 1000000000000 from by unfold szC; omega]
  · simp [c, show ¬ szC zs ≤ 1000000000000 from by unfold szC; omega]
end Go.Proofs.Ytdlcbfoghpoliaa
