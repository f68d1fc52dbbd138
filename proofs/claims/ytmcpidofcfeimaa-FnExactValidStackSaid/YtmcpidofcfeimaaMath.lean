/- Plain mathematics of stacks of wheels: sizes, places, values, digits. No program in it. -/
import Derived.Below
namespace Go.Proofs.Ytmcpidofcfeimaa
open Go.RowKit

theorem hid {p : Prop} (h : p) : Hid p := h

/-- the product of all bases -/
def szL (zs : List Int) : Int := zs.foldl (· * ·) 1
def okL (zs : List Int) : Bool := decide (1 ≤ zs.length ∧ zs.length ≤ 8 ∧ (∀ z ∈ zs, 2 ≤ z ∧ z ≤ 100) ∧ szL zs ≤ 1000000000000)

theorem szL_nil : szL [] = 1 := rfl
theorem szL_snoc (zs : List Int) (z : Int) : szL (zs ++ [z]) = szL zs * z := by simp [szL]
theorem take_snoc' (zs : List Int) (k : Nat) (h : k < zs.length) : zs.take (k + 1) = zs.take k ++ [zs[k]?.getD 0] := by
  rw [List.take_succ_eq_append_getElem h]; simp [h]
theorem szL_take (zs : List Int) (k : Nat) (h : k < zs.length) : szL (zs.take (k + 1)) = szL (zs.take k) * (zs[k]?.getD 0) := by
  rw [take_snoc' zs k h, szL_snoc]
/-- each of the first k bases lies within its bounds -/
def inB (zs : List Int) (k : Nat) : Prop := ∀ j, j < k → 2 ≤ zs[j]?.getD 0 ∧ zs[j]?.getD 0 ≤ 100
theorem inB_zero (zs : List Int) : inB zs 0 := fun j h => by omega
theorem inB_succ {zs : List Int} {k : Nat} (h : inB zs k) (h2 : 2 ≤ zs[k]?.getD 0) (h3 : zs[k]?.getD 0 ≤ 100) : inB zs (k + 1) := fun j hj => by
  by_cases e : j = k
  · subst e; exact ⟨h2, h3⟩
  · exact h j (by omega)
theorem inB_mem {zs : List Int} (h : inB zs zs.length) : ∀ z ∈ zs, 2 ≤ z ∧ z ≤ 100 := fun z hz => by
  obtain ⟨j, hj, rfl⟩ := List.mem_iff_getElem.1 hz
  have := h j hj
  simpa [hj] using this
theorem mem_inB {zs : List Int} (h : ∀ z ∈ zs, 2 ≤ z ∧ z ≤ 100) (k : Nat) (hk : k ≤ zs.length) : inB zs k := fun j hj => by
  have hj' : j < zs.length := by omega
  have := h zs[j] (List.getElem_mem hj')
  simpa [hj'] using this
theorem pow_bd : ∀ (k : Nat), k ≤ 8 → (100 : Int) ^ k ≤ 10000000000000000
  | 0, _ => by decide
  | 1, _ => by decide
  | 2, _ => by decide
  | 3, _ => by decide
  | 4, _ => by decide
  | 5, _ => by decide
  | 6, _ => by decide
  | 7, _ => by decide
  | 8, _ => by decide
  | n + 9, h => by omega
theorem szL_bd (zs : List Int) : ∀ (k : Nat), k ≤ zs.length → inB zs k → 1 ≤ szL (zs.take k) ∧ szL (zs.take k) ≤ 100 ^ k
  | 0, _, _ => by simp [szL]
  | k + 1, hk, h => by
    have ih := szL_bd zs k (by omega) (fun j hj => h j (by omega))
    have hz := h k (by omega)
    rw [szL_take zs k (by omega)]
    obtain ⟨p, hp⟩ : ∃ p, p = szL (zs.take k) := ⟨_, rfl⟩
    obtain ⟨z, hz'⟩ : ∃ z, z = zs[k]?.getD 0 := ⟨_, rfl⟩
    rw [← hp] at ih; rw [← hz'] at hz; rw [← hp, ← hz']
    refine ⟨?_, ?_⟩
    · have : 1 * 1 ≤ p * z := Int.mul_le_mul ih.1 (by omega) (by omega) (by omega)
      omega
    · rw [Int.pow_succ]
      exact Int.mul_le_mul ih.2 hz.2 (by omega) (by have := ih.1; omega)
theorem szL_mono (zs : List Int) (k : Nat) (hk : k < zs.length) (h : inB zs (k + 1)) : 2 * szL (zs.take k) ≤ szL (zs.take (k + 1)) := by
  have ih := szL_bd zs k (by omega) (fun j hj => h j (by omega))
  rw [szL_take zs k hk]
  have hz := h k (by omega)
  have : szL (zs.take k) * 2 ≤ szL (zs.take k) * zs[k]?.getD 0 := Int.mul_le_mul_of_nonneg_left hz.1 (by omega)
  omega
/-- the bounds of a product that the walk wants -/
theorem szL_step (zs : List Int) (k : Nat) (hk : k < zs.length) (h8 : zs.length ≤ 8) (h : inB zs (k + 1)) :
    1 ≤ szL (zs.take k) ∧ szL (zs.take k) ≤ 10000000000000000 ∧ 1 ≤ szL (zs.take k) * zs[k]?.getD 0 ∧ szL (zs.take k) * zs[k]?.getD 0 ≤ 10000000000000000 := by
  have a := szL_bd zs k (by omega) (fun j hj => h j (by omega))
  have b := szL_bd zs (k + 1) (by omega) h
  rw [szL_take zs k hk] at b
  have p1 := pow_bd k (by omega)
  have p2 := pow_bd (k + 1) (by omega)
  exact ⟨a.1, Int.le_trans a.2 p1, b.1, Int.le_trans b.2 p2⟩
theorem okL_len0 (zs : List Int) (h : zs.length < 1) : okL zs = false := by simp [okL]; omega
theorem okL_len9 (zs : List Int) (h : 8 < zs.length) : okL zs = false := by simp [okL]; omega
theorem okL_low (zs : List Int) (k : Nat) (hk : k < zs.length) (h : zs[k]?.getD 0 < 2) : okL zs = false := by
  simp only [okL, decide_eq_false_iff_not, not_and]
  intro _ _ hall
  have := hall zs[k] (List.getElem_mem hk)
  simp [hk] at h
  omega
theorem okL_high (zs : List Int) (k : Nat) (hk : k < zs.length) (h : 100 < zs[k]?.getD 0) : okL zs = false := by
  simp only [okL, decide_eq_false_iff_not, not_and]
  intro _ _ hall
  have := hall zs[k] (List.getElem_mem hk)
  simp [hk] at h
  omega
theorem okL_end (zs : List Int) (h1 : 1 ≤ zs.length) (h8 : zs.length ≤ 8) (h : inB zs zs.length) : okL zs = decide (szL zs ≤ 1000000000000) := by
  simp only [okL]
  have := inB_mem h
  by_cases hs : szL zs ≤ 1000000000000
  · simp only [hs, decide_true, decide_eq_true_eq]; exact ⟨h1, h8, this, trivial⟩
  · simp [hs]
/-- what okL says -/
theorem okL_out {zs : List Int} (h : okL zs = true) : 1 ≤ zs.length ∧ zs.length ≤ 8 ∧ inB zs zs.length ∧ 1 ≤ szL zs ∧ szL zs ≤ 1000000000000 := by
  simp only [okL, decide_eq_true_eq] at h
  obtain ⟨h1, h8, hall, hs⟩ := h
  have hi := mem_inB hall zs.length (Nat.le_refl _)
  have := szL_bd zs zs.length (Nat.le_refl _) hi
  rw [List.take_length] at this
  exact ⟨h1, h8, hi, this.1, hs⟩
end Go.Proofs.Ytmcpidofcfeimaa
