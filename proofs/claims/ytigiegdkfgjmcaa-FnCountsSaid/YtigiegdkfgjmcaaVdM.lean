/- Values of digits and digits of values: there and back (XDgV over the mathematics alone). -/
import Derived.Test.YtigiegdkfgjmcaaMath
namespace Go.Proofs.Ytigiegdkfgjmcaa
open Go.RowKit
set_option linter.unusedVariables false
set_option linter.unusedSimpArgs false
theorem szL_pos (zs : List Int) (k : Nat) (hk : k ≤ zs.length) (h : inB zs zs.length) : 1 ≤ szL (zs.take k) := (szL_bd zs k hk (fun j hj => h j (by omega))).1
theorem valL_lt' (zs ds : List Int) (h8 : zs.length ≤ 8) (hi : inB zs zs.length) (hl : ltTo zs ds zs.length) : ∀ k, k ≤ zs.length → 0 ≤ valL zs ds k ∧ valL zs ds k < szL (zs.take k)
  | 0, _ => ⟨Int.le_refl _, by rw [List.take_zero]; show (0 : Int) < 1; omega⟩
  | k + 1, hk => by
    have ih := valL_lt' zs ds h8 hi hl k (by omega)
    have a := hl k (by omega)
    have p := szL_pos zs k (by omega) hi
    rw [szL_take zs k (by omega)]
    show 0 ≤ valL zs ds k + ds[k]?.getD 0 * szL (zs.take k) ∧ valL zs ds k + ds[k]?.getD 0 * szL (zs.take k) < _
    obtain ⟨P, hP⟩ : ∃ P, szL (zs.take k) = P := ⟨_, rfl⟩
    obtain ⟨d, hd⟩ : ∃ d, ds[k]?.getD 0 = d := ⟨_, rfl⟩
    obtain ⟨z, hz⟩ : ∃ z, zs[k]?.getD 0 = z := ⟨_, rfl⟩
    rw [hP] at ih p ⊢
    rw [hd, hz] at a
    rw [hd, hz]
    have m1 : 0 ≤ d * P := Int.mul_nonneg a.1 (by omega)
    have m2 : (d + 1) * P ≤ z * P := Int.mul_le_mul_of_nonneg_right (by omega) (by omega)
    rw [Int.add_mul, Int.one_mul] at m2
    rw [Int.mul_comm P z]
    omega
theorem valL_digit (zs ds : List Int) (h8 : zs.length ≤ 8) (hi : inB zs zs.length) (hl : ltTo zs ds zs.length) (k : Nat) (hk : k < zs.length) : ∀ m, k + 1 ≤ m → m ≤ zs.length → valL zs ds m / szL (zs.take k) % zs[k]?.getD 0 = ds[k]?.getD 0 ∧ ∃ R, szL (zs.take m) = szL (zs.take k) * (zs[k]?.getD 0 * R) := by
  intro m
  induction m with
  | zero => intro h; omega
  | succ m ih =>
    intro h1 h2
    have p := szL_pos zs k (by omega) hi
    have z2 := hi k hk
    by_cases e : m = k
    · subst e
      have b := valL_lt' zs ds h8 hi hl m (by omega)
      have a := hl m hk
      refine ⟨?_, 1, by rw [szL_take zs m hk, Int.mul_one]⟩
      show (valL zs ds m + ds[m]?.getD 0 * szL (zs.take m)) / szL (zs.take m) % zs[m]?.getD 0 = ds[m]?.getD 0
      rw [Int.add_mul_ediv_right _ _ (by omega), Int.ediv_eq_zero_of_lt b.1 b.2, Int.zero_add, Int.emod_eq_of_lt a.1 a.2]
    · obtain ⟨e1, R, e2⟩ := ih (by omega) (by omega)
      refine ⟨?_, R * zs[m]?.getD 0, by rw [szL_take zs m (by omega), e2, Int.mul_assoc, Int.mul_assoc]⟩
      show (valL zs ds m + ds[m]?.getD 0 * szL (zs.take m)) / szL (zs.take k) % zs[k]?.getD 0 = ds[k]?.getD 0
      rw [e2, show ds[m]?.getD 0 * (szL (zs.take k) * (zs[k]?.getD 0 * R)) = (zs[k]?.getD 0 * (R * ds[m]?.getD 0)) * szL (zs.take k) by
        rw [Int.mul_comm (ds[m]?.getD 0), Int.mul_assoc, Int.mul_comm (szL (zs.take k)), Int.mul_assoc (zs[k]?.getD 0) R]]
      rw [Int.add_mul_ediv_right _ _ (by omega), Int.add_mul_emod_self_left]
      exact e1
/-- valid digits are those of their value -/
theorem dgL_val (zs ds : List Int) (h : okV zs ds = true) (h0 : ∀ j, j < 8 → 0 ≤ ds[j]?.getD 0) (hl : ds.length = 8) : dgL zs (valL zs ds zs.length) = ds := by
  obtain ⟨h1, h2⟩ := okV_out h
  obtain ⟨_, h8, hi, _, _⟩ := okL_out h1
  apply List.ext_getElem?
  intro j
  by_cases hj : j < 8
  · have e1 : (dgL zs (valL zs ds zs.length))[j]? = some ((dgL zs (valL zs ds zs.length))[j]?.getD 0) := by rw [List.getElem?_eq_getElem (by rw [dgL_len]; exact hj)]; rfl
    have e2 : ds[j]? = some (ds[j]?.getD 0) := by rw [List.getElem?_eq_getElem (by omega)]; rfl
    rw [e1, e2, dgL_get zs _ j hj]
    split
    · rw [(valL_digit zs ds h8 hi (okD_lt h2 h8 h0) j (by assumption) zs.length (by omega) (Nat.le_refl _)).1]
    · rw [(okD_out h2 j hj).2 (by omega)]
  · rw [List.getElem?_eq_none (by rw [dgL_len]; omega), List.getElem?_eq_none (by omega)]
theorem emod_step (v P z : Int) (hP : 1 ≤ P) (hz : 1 ≤ z) : v % P + v / P % z * P = v % (P * z) := by
  have e1 := Int.emod_add_mul_ediv v P
  have e2 := Int.emod_add_mul_ediv (v / P) z
  have a1 := Int.emod_nonneg v (show P ≠ 0 by omega)
  have a2 := Int.emod_lt_of_pos v (show 0 < P by omega)
  have b1 := Int.emod_nonneg (v / P) (show z ≠ 0 by omega)
  have b2 := Int.emod_lt_of_pos (v / P) (show 0 < z by omega)
  obtain ⟨r, hr⟩ : ∃ r, v % P = r := ⟨_, rfl⟩
  obtain ⟨q, hq⟩ : ∃ q, v / P = q := ⟨_, rfl⟩
  rw [hr, hq] at e1
  rw [hr] at a1 a2
  rw [hq] at e2 b1 b2
  rw [hr, hq]
  obtain ⟨s, hs⟩ : ∃ s, q % z = s := ⟨_, rfl⟩
  obtain ⟨t, ht⟩ : ∃ t, q / z = t := ⟨_, rfl⟩
  rw [hs, ht] at e2
  rw [hs] at b1 b2
  rw [hs]
  have e3 : v = (r + s * P) + P * z * t := by
    rw [← e1, ← e2, Int.mul_add, Int.mul_comm P s, Int.mul_assoc, Int.add_assoc]
  have m1 : 0 ≤ s * P := Int.mul_nonneg b1 (by omega)
  have m2 : (s + 1) * P ≤ z * P := Int.mul_le_mul_of_nonneg_right (by omega) (by omega)
  rw [Int.add_mul, Int.one_mul, Int.mul_comm z P] at m2
  rw [e3, Int.add_mul_emod_self_left, Int.emod_eq_of_lt (by omega) (by omega)]
theorem valL_dgL (zs : List Int) (v : Int) (h8 : zs.length ≤ 8) (hi : inB zs zs.length) : ∀ k, k ≤ zs.length → valL zs (dgL zs v) k = v % szL (zs.take k)
  | 0, _ => by
    rw [List.take_zero]
    show (0 : Int) = v % 1
    omega
  | k + 1, hk => by
    have ih := valL_dgL zs v h8 hi k (by omega)
    show valL zs (dgL zs v) k + (dgL zs v)[k]?.getD 0 * szL (zs.take k) = _
    rw [ih, dgL_get zs v k (by omega), if_pos (by omega), szL_take zs k (by omega)]
    exact emod_step v _ _ (szL_pos zs k (by omega) hi) (by have := hi k (by omega); omega)
theorem valL_of (zs : List Int) (v : Int) (h : okL zs = true) (hv : 0 ≤ v ∧ v < szL zs) : valL zs (dgL zs v) zs.length = v := by
  obtain ⟨_, h8, hi, _, _⟩ := okL_out h
  rw [valL_dgL zs v h8 hi zs.length (Nat.le_refl _), List.take_length, Int.emod_eq_of_lt hv.1 hv.2]
theorem okV_dgL (zs : List Int) (v : Int) (h : okL zs = true) : okV zs (dgL zs v) = true := by
  obtain ⟨_, h8, hi, _, _⟩ := okL_out h
  rw [okV, h, dgL_okD zs v hi]; rfl
end Go.Proofs.Ytigiegdkfgjmcaa
