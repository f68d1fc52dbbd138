/- FnOff: the nearest of small ratios has no common divisor. -/
import Derived.Test.YtdlcbfoghpoliaaNear
namespace Go.Proofs.Ytdlcbfoghpoliaa
open Go.RowKit
set_option linter.unusedVariables false
set_option linter.unusedSimpArgs false
/-- a candidate with the divisor b -/
def cnd (p q most b k : Int) : Int := max 1 (min most (p * b / q + k))
theorem cnd_bd {p q most b k : Int} (hm : 1 ≤ most) : 1 ≤ cnd p q most b k ∧ cnd p q most b k ≤ most := by unfold cnd; omega
/-- among the two candidates one is as near as any integer -/
theorem near_int {p q b most x : Int} (hp : 1 ≤ p) (hq : 1 ≤ q) (hb : 1 ≤ b) (hm : 1 ≤ most) (hx : 1 ≤ x ∧ x ≤ most) : ∃ k : Int, (k = 0 ∨ k = 1) ∧ sizeI (p * b - cnd p q most b k * q) ≤ sizeI (p * b - x * q) := by
  have e := Int.mul_ediv_add_emod (p * b) q
  have r0 := Int.emod_nonneg (p * b) (show q ≠ 0 by omega)
  have r1 := Int.emod_lt_of_pos (p * b) (show 0 < q by omega)
  have hpb : 0 ≤ p * b := Int.mul_nonneg (by omega) (by omega)
  have f0 := Int.ediv_nonneg hpb (show 0 ≤ q by omega)
  unfold cnd
  obtain ⟨N, hN⟩ : ∃ y, p * b = y := ⟨_, rfl⟩
  rw [hN] at e r0 r1 f0 ⊢
  obtain ⟨f, hf⟩ : ∃ y, N / q = y := ⟨_, rfl⟩
  rw [hf] at e f0 ⊢
  obtain ⟨r, hr⟩ : ∃ y, N % q = y := ⟨_, rfl⟩
  rw [hr] at e r0 r1
  by_cases h : x ≤ f
  · refine ⟨0, .inl rfl, ?_⟩
    obtain ⟨c, hc⟩ : ∃ c, max 1 (min most (f + 0)) = c := ⟨_, rfl⟩
    rw [hc]
    have c1 : x ≤ c ∧ c ≤ f := by omega
    have m1 : x * q ≤ c * q := Int.mul_le_mul_of_nonneg_right c1.1 (by omega)
    have m2 : c * q ≤ f * q := Int.mul_le_mul_of_nonneg_right c1.2 (by omega)
    rw [Int.mul_comm f q] at m2
    rw [sizeI_pos (by omega), sizeI_pos (by omega)]
    omega
  · refine ⟨1, .inr rfl, ?_⟩
    obtain ⟨c, hc⟩ : ∃ c, max 1 (min most (f + 1)) = c := ⟨_, rfl⟩
    rw [hc]
    have c1 : c = f + 1 := by omega
    have m1 : (f + 1) * q ≤ x * q := Int.mul_le_mul_of_nonneg_right (by omega) (by omega)
    have m2 : (f + 1) * q = q * f + q := by rw [Int.add_mul, Int.one_mul, Int.mul_comm]
    rw [c1, sizeI_neg (by omega), sizeI_neg (by omega)]
    omega
/-- a / b is as near as c / d -/
def leD (p q a b c d : Int) : Prop := sizeI (p * b - a * q) * d ≤ sizeI (p * d - c * q) * b
theorem sizeI_nn (n : Int) : 0 ≤ sizeI n := by unfold sizeI; split <;> omega
theorem leD_refl (p q a b : Int) : leD p q a b a b := Int.le_refl _
theorem leD_trans {p q a b c d e f : Int} (hb : 0 ≤ b) (hd : 1 ≤ d) (hf : 0 ≤ f) (h : leD p q a b c d) (k : leD p q c d e f) : leD p q a b e f := by
  unfold leD at *
  obtain ⟨x, hx⟩ : ∃ y, sizeI (p * b - a * q) = y := ⟨_, rfl⟩
  obtain ⟨y, hy⟩ : ∃ y, sizeI (p * d - c * q) = y := ⟨_, rfl⟩
  obtain ⟨z, hz⟩ : ∃ y, sizeI (p * f - e * q) = y := ⟨_, rfl⟩
  rw [hx, hy] at h; rw [hy, hz] at k; rw [hx, hz]
  have h1 : x * d * f ≤ y * b * f := Int.mul_le_mul_of_nonneg_right h hf
  have h2 : y * f * b ≤ z * d * b := Int.mul_le_mul_of_nonneg_right k hb
  have e1 : x * d * f = x * f * d := by rw [Int.mul_assoc, Int.mul_comm d f, ← Int.mul_assoc]
  have e2 : y * b * f = y * f * b := by rw [Int.mul_assoc, Int.mul_comm b f, ← Int.mul_assoc]
  have e3 : z * d * b = z * b * d := by rw [Int.mul_assoc, Int.mul_comm d b, ← Int.mul_assoc]
  exact Int.le_of_mul_le_mul_right (show x * f * d ≤ z * b * d by omega) (by omega)
/-- a ratio with a common divisor is as near as the one without -/
theorem sizeI_mul {g n : Int} (hg : 0 ≤ g) : sizeI (g * n) = g * sizeI n := by
  unfold sizeI
  by_cases h : n < 0
  · rw [if_pos h]
    by_cases h2 : g * n < 0
    · rw [if_pos h2, Int.mul_neg]
    · have : g * n ≤ 0 := Int.mul_nonpos_of_nonneg_of_nonpos hg (by omega)
      rw [if_neg h2, Int.mul_neg]; omega
  · have : 0 ≤ g * n := Int.mul_nonneg hg (by omega)
    rw [if_neg h, if_neg (by omega)]
theorem leD_red {p q a b g : Int} (hg : 1 ≤ g) : leD p q a b (g * a) (g * b) ∧ leD p q (g * a) (g * b) a b := by
  unfold leD
  have e : p * (g * b) - g * a * q = g * (p * b - a * q) := by
    rw [Int.mul_sub, ← Int.mul_assoc p g b, Int.mul_comm p g, Int.mul_assoc g p b, Int.mul_assoc g a q]
  rw [e, sizeI_mul (by omega)]
  have e2 : g * sizeI (p * b - a * q) * b = sizeI (p * b - a * q) * (g * b) := by
    rw [Int.mul_comm g, Int.mul_assoc]
  rw [e2]
  exact ⟨Int.le_refl _, Int.le_refl _⟩
/-- what the search knows when it comes to the divisor Q and the candidate K -/
structure NrI (p q most Q K P B : Int) : Prop where
  p1 : 1 ≤ P ∧ P ≤ most
  b1 : 1 ≤ B ∧ B ≤ Q
  low : B ≤ most
  one : gcdI P B = 1
  all : ∀ b k, 1 ≤ b → (k = 0 ∨ k = 1) → (b < Q ∨ b = Q ∧ k < K) → leD p q P B (cnd p q most b k) b
theorem gcdI_one (a : Int) (h : 1 ≤ a) : gcdI a 1 = 1 := by
  obtain ⟨m, rfl, _⟩ := toI a h
  show ((Nat.gcd m 1 : Nat) : Int) = 1
  simp
theorem NrI.first {p q most : Int} (hm : 1 ≤ most) : NrI p q most 1 1 (cnd p q most 1 0) 1 :=
  ⟨cnd_bd hm, by omega, hm, gcdI_one _ (cnd_bd hm).1, fun b k hb hk h => by
    obtain ⟨rfl, rfl⟩ : b = 1 ∧ k = 0 := by omega
    exact leD_refl _ _ _ _⟩
theorem NrI.keep {p q most Q K P B : Int} (hQ : 1 ≤ Q) (h : NrI p q most Q K P B) (hK : K = 0 ∨ K = 1) (hn : ¬ sizeI (p * Q - cnd p q most Q K * q) * B < sizeI (p * B - P * q) * Q) : NrI p q most Q (K + 1) P B :=
  ⟨h.p1, h.b1, h.low, h.one, fun b k hb hk hh => by
    by_cases c : b = Q ∧ k = K
    · rw [c.1, c.2]; unfold leD; omega
    · exact h.all b k hb hk (by omega)⟩
theorem NrI.take {p q most Q K P B : Int} (hp : 1 ≤ p) (hq : 1 ≤ q) (hm : 1 ≤ most) (hQ : 1 ≤ Q ∧ Q ≤ most) (h : NrI p q most Q K P B) (hK : K = 0 ∨ K = 1) (hn : sizeI (p * Q - cnd p q most Q K * q) * B < sizeI (p * B - P * q) * Q) : NrI p q most Q (K + 1) (cnd p q most Q K) Q := by
  have cb := cnd_bd (p := p) (q := q) (most := most) (b := Q) (k := K) hm
  obtain ⟨a, ha⟩ : ∃ a, cnd p q most Q K = a := ⟨_, rfl⟩
  rw [ha] at hn cb ⊢
  have le : leD p q a Q P B := by unfold leD; omega
  have hQ2 := hQ.2
  have hQ := hQ.1
  refine ⟨cb, by omega, hQ2, ?_, fun b k hb hk hh => ?_⟩
  · obtain ⟨g1, g2, g3, g4, g5, g6, g7, g8, _⟩ := red_bd cb.1 hQ
    have ea : gcdI a Q * redP a Q = a := by
      obtain ⟨m, rfl, hm0⟩ := toI a cb.1
      obtain ⟨n, rfl, hn0⟩ := toI Q hQ
      have := (nat_red m n hm0).2.2.1
      rw [redP_nat, gcdI_nat, Int.mul_comm]
      exact_mod_cast this
    have eb : gcdI a Q * redQ a Q = Q := by
      obtain ⟨m, rfl, hm0⟩ := toI a cb.1
      obtain ⟨n, rfl, hn0⟩ := toI Q hQ
      have := (nat_red m n hm0).2.2.2.1
      rw [redQ_nat, gcdI_nat, Int.mul_comm]
      exact_mod_cast this
    obtain ⟨g, hg⟩ : ∃ g, gcdI a Q = g := ⟨_, rfl⟩
    obtain ⟨a', ha'⟩ : ∃ g, redP a Q = g := ⟨_, rfl⟩
    obtain ⟨b', hb'⟩ : ∃ g, redQ a Q = g := ⟨_, rfl⟩
    rw [hg] at g1 ea eb ⊢
    rw [ha'] at ea g4 g5
    rw [hb'] at eb g6 g7
    by_cases c : g = 1
    · exact c
    · exfalso
      have lt : b' < Q := by
        have : 2 * b' ≤ g * b' := Int.mul_le_mul_of_nonneg_right (by omega) (by omega)
        omega
      obtain ⟨k, hk, hs⟩ := near_int hp hq g6 hm (show 1 ≤ a' ∧ a' ≤ most by omega)
      have l1 := h.all b' k g6 hk (.inl lt)
      have l2 : leD p q (cnd p q most b' k) b' a' b' := by
        unfold leD
        exact Int.mul_le_mul_of_nonneg_right hs (by omega)
      have l3 : leD p q a' b' a Q := by
        have := (leD_red (p := p) (q := q) (a := a') (b := b') g1).1
        rw [ea, eb] at this; exact this
      have l4 := leD_trans (by have := h.b1; omega) g6 (by omega) (leD_trans (by have := h.b1; omega) g6 (by omega) l1 l2) l3
      unfold leD at l4
      omega
  · by_cases c : b = Q ∧ k = K
    · rw [c.1, c.2, ha]; exact leD_refl _ _ _ _
    · exact leD_trans (by omega) h.b1.1 (by omega) le (h.all b k hb hk (by omega))
theorem NrI.next {p q most Q P B : Int} (h : NrI p q most Q 2 P B) : NrI p q most (Q + 1) 0 P B :=
  ⟨h.p1, by have := h.b1; omega, h.low, h.one, fun b k hb hk hh => h.all b k hb hk (by omega)⟩
theorem NrI.ok {p q most Q K P B : Int} (h : NrI p q most Q K P B) (hm : most ≤ 1000) (hQ : Q ≤ 1001) : okR P B = true := by
  unfold okR
  exact decide_eq_true ⟨h.p1.1, by have := h.p1; omega, h.b1.1, by have := h.b1; omega, h.one⟩
end Go.Proofs.Ytdlcbfoghpoliaa
