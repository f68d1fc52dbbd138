/- NextWith: rounding down, and the answers of the program and of the model. -/
import Derived.Test.YtjpiobcilpjfeaaCount
import Derived.Test.YtjpiobcilpjfeaaVals
import Derived.Test.YtjpiobcilpjfeaaLawsD
namespace Go.Proofs.Ytjpiobcilpjfeaa
open Go.RowKit

theorem ediv_neg_of (m c : Int) (hc : 1 ≤ c) : (-m) / c = if m % c = 0 then -(m / c) else -(m / c) - 1 := by
  have hm := Int.emod_add_mul_ediv m c
  have h0 := Int.emod_nonneg m (show c ≠ 0 by omega)
  have h1 := Int.emod_lt_of_pos m (show 0 < c by omega)
  split
  · next h =>
    exact ((Int.ediv_emod_unique (r := 0) (show 0 < c by omega)).2 ⟨by rw [Int.mul_neg]; omega, Int.le_refl _, by omega⟩).1
  · next h =>
    exact ((Int.ediv_emod_unique (r := c - m % c) (show 0 < c by omega)).2 ⟨by rw [Int.mul_sub, Int.mul_neg]; omega, by omega, by omega⟩).1

theorem floorDiv_any (a c : Int) (ha : -1000000000000000000 ≤ a ∧ a ≤ 1000000000000000000) (hc : 1 ≤ c ∧ c ≤ 10000000000000000) (w : World) :
    Calls Try.prog 64 #[.int .i64 a, .int .i64 c] w fun e w' => e = .returned (.int .i64 (a / c)) ∧ w = w' := by
  have hc0 : c ≠ 0 := by omega
  by_cases h0 : 0 ≤ a
  · have e1 : a.tmod c = a % c := Int.tmod_eq_emod_of_nonneg h0
    have e2 : a.tdiv c = a / c := Int.tdiv_eq_ediv_of_nonneg h0
    have m0 := Int.emod_nonneg a hc0
    have m1 := Int.emod_lt_of_pos a (show 0 < c by omega)
    have q0 := Int.ediv_nonneg h0 (show 0 ≤ c by omega)
    have q1 := Int.ediv_le_self c h0
    obtain ⟨r, hr⟩ : ∃ r, r = a % c := ⟨_, rfl⟩
    obtain ⟨q, hq⟩ : ∃ q, q = a / c := ⟨_, rfl⟩
    rw [← hr] at e1 m0 m1
    rw [← hq] at e2 q0 q1
    rw [← hq]
    have d1 : decide (r < 0) = false := by simp; omega
    replace e1 := e1
    clear hr hq h0
    go_enter Try.func64, Try.ntmps64
    go_wp2_with fail
    go_ret
    exact ⟨rfl, rfl⟩
  · obtain ⟨m, rfl⟩ : ∃ m, a = -m := ⟨-a, by omega⟩
    have hm : 0 ≤ m := by omega
    have e1 : (-m).tmod c = -(m % c) := by rw [Int.neg_tmod, Int.tmod_eq_emod_of_nonneg hm]
    have e2 : (-m).tdiv c = -(m / c) := by rw [Int.neg_tdiv, Int.tdiv_eq_ediv_of_nonneg hm]
    have e3 := ediv_neg_of m c hc.1
    have m0 := Int.emod_nonneg m hc0
    have m1 := Int.emod_lt_of_pos m (show 0 < c by omega)
    have q0 := Int.ediv_nonneg hm (show 0 ≤ c by omega)
    have q1 := Int.ediv_le_self c hm
    obtain ⟨r, hr⟩ : ∃ r, r = m % c := ⟨_, rfl⟩
    obtain ⟨q, hq⟩ : ∃ q, q = m / c := ⟨_, rfl⟩
    rw [← hr] at e1 e3 m0 m1
    rw [← hq] at e2 e3 q0 q1
    obtain ⟨a, hA⟩ : ∃ a, a = -m := ⟨_, rfl⟩
    rw [← hA] at e1 e2 e3 ha
    rw [← hA, e3]
    by_cases hz : r = 0
    · subst hz
      simp only [if_true]
      simp only [Int.neg_zero] at e1
      have d1 : decide ((0 : Int) < 0) = false := rfl
      have q2 : -1000000000000000000 ≤ -q ∧ -q ≤ 0 := by omega
      clear e3 hr hq hA h0 q0 q1
      generalize -q = q' at e2 q2 ⊢
      go_enter Try.func64, Try.ntmps64
      go_wp2_with fail
      go_ret
      exact ⟨rfl, rfl⟩
    · rw [if_neg hz]
      have d0 : -10000000000000000 ≤ -r ∧ -r < 0 := by omega
      have q2 : -1000000000000000000 ≤ -q ∧ -q ≤ 0 := by omega
      clear e3 hr hq hA h0 hz q0 q1 m0 m1
      generalize -q = q' at e2 q2 ⊢
      generalize -r = r' at e1 d0
      have d1 : decide (r' < 0) = true := by simp; omega
      go_enter Try.func64, Try.ntmps64
      go_wp2_with fail
      go_ret
      exact ⟨rfl, rfl⟩

theorem floorMod_any (a c : Int) (ha : -1000000000000000000 ≤ a ∧ a ≤ 1000000000000000000) (hc : 1 ≤ c ∧ c ≤ 10000000000000000) (w : World) :
    Calls Try.prog 63 #[.int .i64 a, .int .i64 c] w fun e w' => e = .returned (.int .i64 (a % c)) ∧ w = w' := by
  have hX := hid (fun w => floorDiv_any a c ha hc w)
  have h0 := Int.emod_nonneg a (show c ≠ 0 by omega)
  have h1 := Int.emod_lt_of_pos a (show 0 < c by omega)
  have h2 := Int.emod_add_mul_ediv a c
  rw [Int.mul_comm] at h2
  obtain ⟨q, hq⟩ : ∃ q, q = a / c := ⟨_, rfl⟩
  obtain ⟨r, hr⟩ : ∃ r, r = a % c := ⟨_, rfl⟩
  rw [← hq] at hX h2
  rw [← hr] at h0 h1 h2
  rw [← hr]
  obtain ⟨g, hg⟩ : ∃ g, g = q * c := ⟨_, rfl⟩
  have hg2 : q * c = g := hg.symm
  rw [← hg] at h2
  have hg3 : -2000000000000000000 ≤ g ∧ g ≤ 1000000000000000000 := by omega
  have hg4 : a - g = r := by omega
  clear hq hr hg h2
  go_enter Try.func63, Try.ntmps63
  go_wp2_with (go_at_call 64; refine (hX.out _).mono ?_; rintro e w' ⟨rfl, rfl⟩)
  go_ret
  exact ⟨rfl, rfl⟩

open Classical in
noncomputable def nxtR (zs ds : List Int) (k x : Int) : Int × Int :=
  if okV zs ds then (if hdB zs k x then (if ds[k.toNat]?.getD 0 = x then (0, 0) else
    ((if x - ds[k.toNat]?.getD 0 < 0 then x - ds[k.toNat]?.getD 0 + zs[k.toNat]?.getD 0 else x - ds[k.toNat]?.getD 0) * szL (zs.take k.toNat) - valL zs ds k.toNat, 0)) else (0, 2)) else (0, 1)
theorem nxtR_no {zs ds : List Int} (k x : Int) (h : okV zs ds = false) : nxtR zs ds k x = (0, 1) := by simp [nxtR, h]
theorem nxtR_out {zs ds : List Int} (k x : Int) (h : okV zs ds = true) (hk : ¬ hdB zs k x) : nxtR zs ds k x = (0, 2) := by simp only [nxtR, h, if_true, if_neg hk]
theorem nxtR_same {zs ds : List Int} (k : Nat) (x : Int) (h : okV zs ds = true) (hk : hdB zs k x) (hx : ds[k]?.getD 0 = x) : nxtR zs ds k x = (0, 0) := by simp only [nxtR, h, if_true, if_pos hk, Int.toNat_natCast, if_pos hx]
theorem nxtR_yes {zs ds : List Int} (k : Nat) (x : Int) (h : okV zs ds = true) (hk : hdB zs k x) (hx : ¬ ds[k]?.getD 0 = x) :
    nxtR zs ds k x = ((if x - ds[k]?.getD 0 < 0 then x - ds[k]?.getD 0 + zs[k]?.getD 0 else x - ds[k]?.getD 0) * szL (zs.take k) - valL zs ds k, 0) := by simp only [nxtR, h, if_true, if_pos hk, Int.toNat_natCast, if_neg hx]

theorem horn_any {zs ds : List Int} {n : Nat} (hn : n ≤ zs.length) (hi : inB zs n) (hl : ltTo zs ds n) : ∀ j k, k + j = n → ∃ g, horn zs ds n k g
  | 0, k, hk => ⟨0, Int.le_refl _, by obtain rfl : k = n := by omega
                                      omega⟩
  | j + 1, k, hk => by
    obtain ⟨g, hg⟩ := horn_any hn hi hl j (k + 1) (by omega)
    exact ⟨_, horn_step hg (by omega) hn hi hl⟩
theorem nxt_mod (g p z x d low : Int) (hp : 1 ≤ p) (hz : 2 ≤ z) (hx : 0 ≤ x ∧ x < z) (hd : 0 ≤ d ∧ d < z) (hl : 0 ≤ low ∧ low < p) (hxd : ¬ d = x) :
    (x * p - (g * (p * z) + (low + d * p))) % (p * z) = (if x - d < 0 then x - d + z else x - d) * p - low := by
  have hc : 0 < p * z := Int.mul_pos (by omega) (by omega)
  by_cases h : x - d < 0
  · rw [if_pos h]
    have a1 : 1 * p ≤ (x - d + z) * p := Int.mul_le_mul_of_nonneg_right (by omega) (by omega)
    have a2 : (x - d + z) * p ≤ (z - 1) * p := Int.mul_le_mul_of_nonneg_right (by omega) (by omega)
    have a3 : (z - 1) * p = p * z - p := by rw [Int.sub_mul, Int.mul_comm z p]; omega
    refine ((Int.ediv_emod_unique (q := -g - 1) hc).2 ⟨?_, by omega, by omega⟩).2
    rw [Int.mul_sub, Int.mul_neg, Int.add_mul, Int.sub_mul, Int.mul_comm z p, Int.mul_comm (p * z) g]
    omega
  · rw [if_neg h]
    have a1 : 1 * p ≤ (x - d) * p := Int.mul_le_mul_of_nonneg_right (by omega) (by omega)
    have a2 : (x - d) * p ≤ (z - 1) * p := Int.mul_le_mul_of_nonneg_right (by omega) (by omega)
    have a3 : (z - 1) * p = p * z - p := by rw [Int.sub_mul, Int.mul_comm z p]; omega
    refine ((Int.ediv_emod_unique (q := -g) hc).2 ⟨?_, by omega, by omega⟩).2
    rw [Int.mul_neg, Int.sub_mul, Int.mul_comm (p * z) g]
    omega
/-- the numbers that NextWith reckons with, and their bounds -/
theorem nxt_facts {zs ds : List Int} (k : Nat) (x : Int) (hv : okL zs = true) (hl : ltTo zs ds zs.length) (hk : k < zs.length) (hx : 0 ≤ x ∧ x < zs[k]?.getD 0) :
    ∃ p z d low V c : Int, p = szL (zs.take k) ∧ z = zs[k]?.getD 0 ∧ d = ds[k]?.getD 0 ∧ low = valL zs ds k ∧ V = valL zs ds zs.length ∧ c = szL (zs.take (k + 1)) ∧ c = p * z ∧
      (1 ≤ p ∧ p ≤ 10000000000000000) ∧ (2 ≤ z ∧ z ≤ 100) ∧ (0 ≤ d ∧ d < z) ∧ (0 ≤ low ∧ low < p) ∧ (0 ≤ V ∧ V ≤ 1000000000000) ∧ (1 ≤ c ∧ c ≤ 10000000000000000) ∧
      (0 ≤ x * p ∧ x * p ≤ 1000000000000000000) ∧
      (¬ d = x → (x * p - V) % c = (if x - d < 0 then x - d + z else x - d) * p - low) := by
  obtain ⟨_, h8, hin, _, hs⟩ := okL_out hv
  obtain ⟨s1, s2, s3, s4⟩ := szL_step zs k hk h8 (fun j hj => hin j (by omega))
  have hzb := hin k hk
  have b1 := valL_bd zs ds k (by omega) (fun j hj => hin j (by omega)) (fun j hj => hl j (by omega))
  have b2 := valL_bd zs ds zs.length (Nat.le_refl _) hin hl
  rw [List.take_length] at b2
  obtain ⟨g, hg⟩ := horn_any (Nat.le_refl _) hin hl (zs.length - (k + 1)) (k + 1) (by omega)
  have hg2 := hg.2
  have hT := szL_take zs k hk
  have hdl := hl k hk
  have m2 : 0 ≤ x * szL (zs.take k) := Int.mul_nonneg hx.1 (by omega)
  have m3 : x * szL (zs.take k) ≤ 100 * 10000000000000000 := Int.mul_le_mul (by omega) s2 (by omega) (by omega)
  refine ⟨_, _, _, _, _, _, rfl, rfl, rfl, rfl, rfl, rfl, hT, ⟨s1, s2⟩, hzb, hdl, b1, by omega, by rw [hT]; exact ⟨s3, s4⟩, ⟨m2, by omega⟩, fun hne => ?_⟩
  have := nxt_mod g (szL (zs.take k)) (zs[k]?.getD 0) x (ds[k]?.getD 0) (valL zs ds k) s1 hzb.1 hx hdl b1 hne
  rw [hT, hg2, hT]
  exact this
theorem Oc.cell {w : World} {g : Nat} {d0 d1 d2 d3 d4 d5 d6 d7 : Int} (h : Oc w g d0 d1 d2 d3 d4 d5 d6 d7) (k : Nat) (hk : k < 8) : w.cell? ⟨g, k, none⟩ = some (.int .u8 (([d0, d1, d2, d3, d4, d5, d6, d7] : List Int)[k]?.getD 0)) := by
  obtain ⟨f0, f1, f2, f3, f4, f5, f6, f7⟩ := h
  have q : k = 0 ∨ k = 1 ∨ k = 2 ∨ k = 3 ∨ k = 4 ∨ k = 5 ∨ k = 6 ∨ k = 7 := by omega
  rcases q with rfl | rfl | rfl | rfl | rfl | rfl | rfl | rfl <;> assumption

end Go.Proofs.Ytjpiobcilpjfeaa
