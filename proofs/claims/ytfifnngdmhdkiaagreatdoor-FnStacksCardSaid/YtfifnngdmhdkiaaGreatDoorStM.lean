/- FnStacks: steps, complements and places as numbers. -/
import Derived.Test.YtfifnngdmhdkiaaGreatDoorCuA
import Derived.Test.YtfifnngdmhdkiaaGreatDoorStep
import Derived.Test.YtfifnngdmhdkiaaGreatDoorComp
namespace Go.Proofs.YtfifnngdmhdkiaaGreatDoor
open Go.RowKit
set_option linter.unusedVariables false
set_option linter.unusedSimpArgs false
theorem movN_comm (es ds : List Int) : ∀ k, movN es ds k = movN ds es k
  | 0 => rfl
  | k + 1 => by
    show movN es ds k + (if es[k]?.getD 0 = ds[k]?.getD 0 then 0 else 1) = movN ds es k + (if ds[k]?.getD 0 = es[k]?.getD 0 then 0 else 1)
    rw [movN_comm es ds k]
    by_cases h : es[k]?.getD 0 = ds[k]?.getD 0
    · rw [if_pos h, if_pos h.symm]
    · rw [if_neg h, if_neg (fun e => h e.symm)]
theorem step_of {Z : List Int} {v c : Int} (h : okL Z = true) (hv : 0 ≤ v ∧ v < szL Z) (hc : -1 ≤ c ∧ c ≤ 1) : stepR Z (dgL Z v) c = (dgL Z ((v + c) % szL Z), movN (dgL Z ((v + c) % szL Z)) (dgL Z v) Z.length, 0) :=
  stepR_yes (addR_of h hv (by omega))
theorem step_back {Z : List Int} {v : Int} (hv : 0 ≤ v ∧ v < szL Z) : ((v + 1) % szL Z + -1) % szL Z = v := by
  rw [Int.emod_add_emod, show v + 1 + -1 = v by omega, Int.emod_eq_of_lt hv.1 hv.2]
/-- the complement of a value's digits -/
theorem cmp_dig {P z R g d low : Int} (hP : 1 ≤ P) (hz : 2 ≤ z) (hd : 0 ≤ d ∧ d < z) (hl : 0 ≤ low ∧ low < P) {v : Int} (hv : v = P * (z * g + d) + low) : (P * z * R - 1 - v) / P % z = z - 1 - d := by
  have e : P * z * R - 1 - v = (P - 1 - low) + P * ((z - 1 - d) + z * (R - g - 1)) := by
    have a1 : P * (z * g + d) = P * z * g + P * d := by rw [Int.mul_add, Int.mul_assoc]
    have a2 : P * ((z - 1 - d) + z * (R - g - 1)) = P * z * (R - g - 1) + P * (z - 1 - d) := by rw [Int.mul_add, Int.mul_assoc]; omega
    have a3 : P * z * (R - g - 1) = P * z * R - P * z * g - P * z := by rw [Int.mul_sub, Int.mul_sub, Int.mul_one]
    have a4 : P * (z - 1 - d) = P * z - P - P * d := by rw [Int.mul_sub, Int.mul_sub, Int.mul_one]
    omega
  rw [e, Int.add_mul_ediv_left _ _ (by omega), Int.ediv_eq_zero_of_lt (by omega) (by omega), Int.zero_add, Int.add_mul_emod_self_left, Int.emod_eq_of_lt (by omega) (by omega)]
theorem cmpL_of {Z : List Int} {v : Int} (h : okL Z = true) (hv : 0 ≤ v ∧ v < szL Z) : cmpL Z (dgL Z v) = dgL Z (szL Z - 1 - v) := by
  obtain ⟨_, h8, hi, _, _⟩ := okL_out h
  unfold cmpL
  rw [show dgL Z (szL Z - 1 - v) = (List.range 8).map fun k => if k < Z.length then (szL Z - 1 - v) / szL (Z.take k) % Z[k]?.getD 0 else 0 from rfl]
  apply List.map_congr_left
  intro k hk
  have hk8 := List.mem_range.1 hk
  by_cases hkz : k < Z.length
  · rw [if_pos hkz, if_pos hkz, dgL_get Z v k hk8, if_pos hkz]
    obtain ⟨R, hR⟩ := szL_rest Z (k + 1) (Z.length - (k + 1)) (by omega)
    rw [show k + 1 + (Z.length - (k + 1)) = Z.length by omega, List.take_length, szL_take Z k hkz] at hR
    have hp := szL_pos Z k (by omega) hi
    have hz := hi k hkz
    rw [hR]
    obtain ⟨P, hP⟩ : ∃ P, szL (Z.take k) = P := ⟨_, rfl⟩
    obtain ⟨z, hz'⟩ : ∃ z, Z[k]?.getD 0 = z := ⟨_, rfl⟩
    rw [hP] at hp ⊢
    rw [hz'] at hz ⊢
    have e1 := Int.mul_ediv_add_emod v P
    have e2 := Int.mul_ediv_add_emod (v / P) z
    rw [cmp_dig (g := v / P / z) (d := v / P % z) (low := v % P) hp (by omega) ⟨Int.emod_nonneg _ (by omega), Int.emod_lt_of_pos _ (by omega)⟩ ⟨Int.emod_nonneg _ (by omega), Int.emod_lt_of_pos _ (by omega)⟩ (by rw [e2]; omega)]
  · rw [if_neg hkz, if_neg hkz]
theorem cmpR_of {Z : List Int} {v : Int} (h : okL Z = true) (hv : 0 ≤ v ∧ v < szL Z) : cmpR Z (dgL Z v) = (dgL Z (szL Z - 1 - v), 0) := by
  rw [cmpR_yes (okV_dgL Z v h), cmpL_of h hv]
theorem last_of {Z : List Int} {v : Int} (h : okL Z = true) (k : Nat) (hk : k ≤ Z.length) : valL Z (dgL Z v) k = v % szL (Z.take k) := by
  obtain ⟨_, h8, hi, _, _⟩ := okL_out h
  exact valL_dgL Z v h8 hi k hk
/-- one place more -/
theorem last_succ {Z : List Int} {v : Int} (h : okL Z = true) (k : Nat) (hk : k < Z.length) : v % szL (Z.take (k + 1)) = v % szL (Z.take k) + dg (dgL Z v) k * szL (Z.take k) := by
  rw [← last_of h (k + 1) hk, ← last_of h k (by omega)]
  rfl
end Go.Proofs.YtfifnngdmhdkiaaGreatDoor
