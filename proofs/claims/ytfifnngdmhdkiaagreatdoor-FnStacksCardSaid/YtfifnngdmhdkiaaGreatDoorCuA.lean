/- Digits of values that go round. -/
import Derived.Test.YtfifnngdmhdkiaaGreatDoorMgP
import Derived.Test.YtfifnngdmhdkiaaGreatDoorAddC
namespace Go.Proofs.YtfifnngdmhdkiaaGreatDoor
open Go.RowKit
set_option linter.unusedVariables false
set_option linter.unusedSimpArgs false
theorem szL_rest (zs : List Int) (k : Nat) : ∀ m, k + m ≤ zs.length → ∃ R, szL (zs.take (k + m)) = szL (zs.take k) * R
  | 0, _ => ⟨1, by rw [Nat.add_zero, Int.mul_one]⟩
  | m + 1, h => by
    obtain ⟨R, hR⟩ := szL_rest zs k m (by omega)
    refine ⟨R * zs[k + m]?.getD 0, ?_⟩
    rw [← Nat.add_assoc, szL_take zs (k + m) (by omega), hR, Int.mul_assoc]
/-- a digit of a value that has gone round -/
theorem dig_mod {zs : List Int} (hi : inB zs zs.length) {k : Nat} (hk : k < zs.length) (t : Int) : (t % szL zs) / szL (zs.take k) % zs[k]?.getD 0 = t / szL (zs.take k) % zs[k]?.getD 0 := by
  have hp := szL_pos zs k (by omega) hi
  obtain ⟨R, hR⟩ := szL_rest zs (k + 1) (zs.length - (k + 1)) (by omega)
  rw [show k + 1 + (zs.length - (k + 1)) = zs.length by omega, List.take_length, szL_take zs k hk] at hR
  rw [hR]
  obtain ⟨P, hP⟩ : ∃ P, szL (zs.take k) = P := ⟨_, rfl⟩
  obtain ⟨z, hz⟩ : ∃ z, zs[k]?.getD 0 = z := ⟨_, rfl⟩
  rw [hP] at hp ⊢
  rw [hz]
  have e := Int.mul_ediv_add_emod t (P * z * R)
  obtain ⟨q, hq⟩ : ∃ q, t / (P * z * R) = q := ⟨_, rfl⟩
  rw [hq] at e
  have e2 : t % (P * z * R) = t + P * (z * (-(R * q))) := by
    have : P * (z * (-(R * q))) = -(P * z * R * q) := by rw [Int.mul_neg, Int.mul_neg, Int.mul_assoc, Int.mul_assoc]
    omega
  rw [e2, Int.add_mul_ediv_left _ _ (by omega), Int.add_mul_emod_self_left]
theorem dgs_listC (zs : List Int) (v : Int) : [dg (dgL zs v) 0, dg (dgL zs v) 1, dg (dgL zs v) 2, dg (dgL zs v) 3, dg (dgL zs v) 4, dg (dgL zs v) 5, dg (dgL zs v) 6, dg (dgL zs v) 7] = dgL zs v := by
  have hl := dgL_len zs v
  obtain ⟨l, hv⟩ : ∃ l, dgL zs v = l := ⟨_, rfl⟩
  rw [hv] at hl ⊢
  match l, hl with
  | [a, b, c, d, e, f, g, h], _ => rfl
theorem addR_of {zs : List Int} {v c : Int} (h : okL zs = true) (hv : 0 ≤ v ∧ v < szL zs) (hc : -1000000000000 ≤ c ∧ c ≤ 1000000000000) : addR zs (dgL zs v) c = (dgL zs ((v + c) % szL zs), (v + c) / szL zs, 0) := by
  rw [addR_yes c (okV_dgL zs v h) hc, valL_of zs v h hv]
theorem octL (Z : List Int) (v : Int) (h : okL Z = true) : Oct (dg (dgL Z v) 0) (dg (dgL Z v) 1) (dg (dgL Z v) 2) (dg (dgL Z v) 3) (dg (dgL Z v) 4) (dg (dgL Z v) 5) (dg (dgL Z v) 6) (dg (dgL Z v) 7) := by
  obtain ⟨_, _, hz, _, _⟩ := okL_out h
  have b := fun k hk => dgL_bd Z v hz k hk
  exact ⟨by have := b 0 (by omega); unfold dg; omega, by have := b 1 (by omega); unfold dg; omega, by have := b 2 (by omega); unfold dg; omega, by have := b 3 (by omega); unfold dg; omega, by have := b 4 (by omega); unfold dg; omega, by have := b 5 (by omega); unfold dg; omega, by have := b 6 (by omega); unfold dg; omega, by have := b 7 (by omega); unfold dg; omega⟩
end Go.Proofs.YtfifnngdmhdkiaaGreatDoor
