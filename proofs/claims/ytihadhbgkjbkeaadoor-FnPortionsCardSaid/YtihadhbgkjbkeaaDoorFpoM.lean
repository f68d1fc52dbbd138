/- Portions that explain pairs: mathematics. -/
import Derived.Test.YtihadhbgkjbkeaaDoorFp
namespace Go.Proofs.YtihadhbgkjbkeaaDoor
open Go.RowKit
set_option linter.unusedVariables false
theorem cancel_le {a b c : Int} (h : a * c ≤ b * c) (hc : 1 ≤ c) : a ≤ b := Int.le_of_mul_le_mul_right h (by omega)
theorem cancel_lt {a b c : Int} (h : a * c < b * c) (hc : 1 ≤ c) : a < b := Int.lt_of_mul_lt_mul_right h (by omega)
/-- fractions in order -/
theorem fr_le {p1 q1 p2 q2 p3 q3 : Int} (h1 : p1 * q2 ≤ p2 * q1) (h2 : p2 * q3 ≤ p3 * q2) (z1 : 0 ≤ q1) (z2 : 1 ≤ q2) (z3 : 0 ≤ q3) : p1 * q3 ≤ p3 * q1 := by
  refine cancel_le (c := q2) ?_ z2
  have a := Int.mul_le_mul_of_nonneg_right h1 z3
  have b := Int.mul_le_mul_of_nonneg_right h2 z1
  have e1 : p1 * q3 * q2 = p1 * q2 * q3 := by rw [Int.mul_assoc, Int.mul_comm q3, ← Int.mul_assoc]
  have e2 : p2 * q1 * q3 = p2 * q3 * q1 := by rw [Int.mul_assoc, Int.mul_comm q1, ← Int.mul_assoc]
  have e3 : p3 * q2 * q1 = p3 * q1 * q2 := by rw [Int.mul_assoc, Int.mul_comm q2, ← Int.mul_assoc]
  omega
theorem fr_lt1 {p1 q1 p2 q2 p3 q3 : Int} (h1 : p1 * q2 < p2 * q1) (h2 : p2 * q3 ≤ p3 * q2) (z1 : 0 ≤ q1) (z2 : 1 ≤ q2) (z3 : 1 ≤ q3) : p1 * q3 < p3 * q1 := by
  refine cancel_lt (c := q2) ?_ z2
  have a := Int.mul_lt_mul_of_pos_right h1 (show 0 < q3 by omega)
  have b := Int.mul_le_mul_of_nonneg_right h2 z1
  have e1 : p1 * q3 * q2 = p1 * q2 * q3 := by rw [Int.mul_assoc, Int.mul_comm q3, ← Int.mul_assoc]
  have e2 : p2 * q1 * q3 = p2 * q3 * q1 := by rw [Int.mul_assoc, Int.mul_comm q1, ← Int.mul_assoc]
  have e3 : p3 * q2 * q1 = p3 * q1 * q2 := by rw [Int.mul_assoc, Int.mul_comm q2, ← Int.mul_assoc]
  omega
theorem fr_lt2 {p1 q1 p2 q2 p3 q3 : Int} (h1 : p1 * q2 ≤ p2 * q1) (h2 : p2 * q3 < p3 * q2) (z1 : 1 ≤ q1) (z2 : 1 ≤ q2) (z3 : 0 ≤ q3) : p1 * q3 < p3 * q1 := by
  refine cancel_lt (c := q2) ?_ z2
  have a := Int.mul_le_mul_of_nonneg_right h1 z3
  have b := Int.mul_lt_mul_of_pos_right h2 (show 0 < q1 by omega)
  have e1 : p1 * q3 * q2 = p1 * q2 * q3 := by rw [Int.mul_assoc, Int.mul_comm q3, ← Int.mul_assoc]
  have e2 : p2 * q1 * q3 = p2 * q3 * q1 := by rw [Int.mul_assoc, Int.mul_comm q1, ← Int.mul_assoc]
  have e3 : p3 * q2 * q1 = p3 * q1 * q2 := by rw [Int.mul_assoc, Int.mul_comm q2, ← Int.mul_assoc]
  omega
theorem red_mul {p q : Int} (hp : 0 ≤ p) (hq : 0 ≤ q) : redP p q * gcdI p q = p ∧ redQ p q * gcdI p q = q := by
  obtain ⟨m, rfl⟩ := Int.eq_ofNat_of_zero_le hp
  obtain ⟨n, rfl⟩ := Int.eq_ofNat_of_zero_le hq
  unfold redP redQ
  rw [gcdI_nat]
  exact ⟨Int.ediv_mul_cancel (Int.natCast_dvd_natCast.2 (Nat.gcd_dvd_left m n)), Int.ediv_mul_cancel (Int.natCast_dvd_natCast.2 (Nat.gcd_dvd_right m n))⟩
/-- the ratio without common divisors is the ratio -/
theorem red_eq {p q : Int} (hp : 0 ≤ p) (hq : 1 ≤ q) : p * redQ p q = redP p q * q := by
  obtain ⟨a, b⟩ := red_mul hp (show 0 ≤ q by omega)
  have e : redP p q * gcdI p q * redQ p q = redP p q * (redQ p q * gcdI p q) := by rw [Int.mul_assoc, Int.mul_comm (gcdI p q)]
  rw [a, b] at e
  exact e
/-- these bounds are around p / q, and explain the pairs up to the k-th -/
def Around (js : List (Int × Int)) (p q : Int) (k : Nat) (B : Int × Int × Int × Int) : Prop :=
  ((1 ≤ B.2.1 ∧ 1 ≤ B.2.2.2) ∧ (B.1 * q ≤ p * B.2.1 ∧ p * B.2.2.2 < B.2.2.1 * q)) ∧ ∀ j, j ≤ k → rv js j * B.2.1 ≤ B.1 * rd js j ∧ B.2.2.1 * rd js j ≤ (rv js j + 1) * B.2.2.2
/-- the pairs come of p / q -/
def FromP (js : List (Int × Int)) (p q : Int) (k : Nat) : Prop := ∀ j, j < k → 1 ≤ rd js j ∧ 0 ≤ rv js j ∧ rv js j * q ≤ p * rd js j ∧ p * rd js j < (rv js j + 1) * q
theorem exP_around {x y p q : Int} (hx : 1 ≤ x) (hy : 0 ≤ y) (h1 : y * q ≤ p * x) (h2 : p * x < (y + 1) * q) (hq : 1 ≤ q) :
    ((1 ≤ (exP x y).2.1 ∧ 1 ≤ (exP x y).2.2.2) ∧ ((exP x y).1 * q ≤ p * (exP x y).2.1 ∧ p * (exP x y).2.2.2 < (exP x y).2.2.1 * q)) ∧ y * (exP x y).2.1 = (exP x y).1 * x ∧ (exP x y).2.2.1 * x = (y + 1) * (exP x y).2.2.2 := by
  have r1 := red0_bd (p := y) (q := x) hy hx
  have r2 := red0_bd (p := y + 1) (q := x) (by omega) hx
  have e1 := red_eq (p := y) (q := x) hy hx
  have e2 := red_eq (p := y + 1) (q := x) (by omega) hx
  show ((1 ≤ redQ y x ∧ 1 ≤ redQ (y + 1) x) ∧ (redP y x * q ≤ p * redQ y x ∧ p * redQ (y + 1) x < redP (y + 1) x * q)) ∧ y * redQ y x = redP y x * x ∧ redP (y + 1) x * x = (y + 1) * redQ (y + 1) x
  refine ⟨⟨⟨by omega, by omega⟩, ?_, ?_⟩, e1, e2.symm⟩
  · exact fr_le (p1 := redP y x) (q1 := redQ y x) (p2 := y) (q2 := x) (p3 := p) (q3 := q) (by omega) h1 (by omega) hx (by omega)
  · exact fr_lt1 (p1 := p) (q1 := q) (p2 := y + 1) (q2 := x) (p3 := redP (y + 1) x) (q3 := redQ (y + 1) x) h2 (by omega) (by omega) hx (by omega)
theorem bnd_around {js : List (Int × Int)} {p q : Int} (hq : 1 ≤ q) : ∀ k, FromP js p q (k + 1) → Around js p q k (bnd js k)
  | 0, h => by
    obtain ⟨a, b, c, d⟩ := h 0 (by omega)
    obtain ⟨e1, e2, e3⟩ := exP_around a b c d hq
    refine ⟨e1, fun j hj => ?_⟩
    obtain rfl : j = 0 := by omega
    show rv js 0 * (exP (rd js 0) (rv js 0)).2.1 ≤ _ ∧ _
    exact ⟨by rw [e2]; exact Int.le_refl _, by show (exP (rd js 0) (rv js 0)).2.2.1 * rd js 0 ≤ _; rw [e3]; exact Int.le_refl _⟩
  | k + 1, h => by
    obtain ⟨⟨⟨z1, z2⟩, i1, i2⟩, ih⟩ := bnd_around hq k (fun j hj => h j (by omega))
    obtain ⟨a, b, c, d⟩ := h (k + 1) (by omega)
    obtain ⟨⟨⟨y1, y2⟩, e1, e4⟩, e2, e3⟩ := exP_around a b c d hq
    have hj0 : ∀ j, j ≤ k → 1 ≤ rd js j := fun j hj => (h j (by omega)).1
    show Around js p q (k + 1) (mtP (bnd js k) (exP (rd js (k + 1)) (rv js (k + 1))))
    obtain ⟨⟨A, Bq, C, Dq⟩, hB⟩ : ∃ B, bnd js k = B := ⟨_, rfl⟩
    obtain ⟨⟨A', B', C', D'⟩, hE⟩ : ∃ B, exP (rd js (k + 1)) (rv js (k + 1)) = B := ⟨_, rfl⟩
    rw [hB] at z1 z2 i1 i2 ih ⊢
    rw [hE] at y1 y2 e1 e2 e3 e4 ⊢
    simp only at z1 z2 i1 i2 ih y1 y2 e1 e2 e3 e4
    obtain ⟨x, hx⟩ : ∃ x, rd js (k + 1) = x := ⟨_, rfl⟩
    obtain ⟨y, hy⟩ : ∃ x, rv js (k + 1) = x := ⟨_, rfl⟩
    rw [hx] at a e2 e3
    rw [hy] at e2 e3
    have low : ((1 ≤ (mtL A Bq A' B').2 ∧ (mtL A Bq A' B').1 * q ≤ p * (mtL A Bq A' B').2) ∧ (∀ j, j ≤ k → rv js j * (mtL A Bq A' B').2 ≤ (mtL A Bq A' B').1 * rd js j) ∧ y * (mtL A Bq A' B').2 ≤ (mtL A Bq A' B').1 * x) := by
      unfold mtL
      split
      · rename_i hc
        refine ⟨⟨y1, e1⟩, fun j hj => ?_, by show y * B' ≤ A' * x; omega⟩
        show rv js j * B' ≤ A' * rd js j
        exact fr_le (p2 := A) (q2 := Bq) (ih j hj).1 (by omega) (by have := hj0 j hj; omega) z1 (by omega)
      · rename_i hc
        refine ⟨⟨z1, i1⟩, fun j hj => (ih j hj).1, ?_⟩
        show y * Bq ≤ A * x
        exact fr_le (p1 := y) (q1 := x) (p2 := A') (q2 := B') (p3 := A) (q3 := Bq) (by omega) (by omega) (by omega) y1 (by omega)
    have high : ((1 ≤ (mtH C Dq C' D').2 ∧ p * (mtH C Dq C' D').2 < (mtH C Dq C' D').1 * q) ∧ (∀ j, j ≤ k → (mtH C Dq C' D').1 * rd js j ≤ (rv js j + 1) * (mtH C Dq C' D').2) ∧ (mtH C Dq C' D').1 * x ≤ (y + 1) * (mtH C Dq C' D').2) := by
      unfold mtH
      split
      · rename_i hc
        refine ⟨⟨y2, e4⟩, fun j hj => ?_, by show C' * x ≤ (y + 1) * D'; omega⟩
        show C' * rd js j ≤ (rv js j + 1) * D'
        exact fr_le (p1 := C') (q1 := D') (p2 := C) (q2 := Dq) (p3 := rv js j + 1) (q3 := rd js j) (by omega) (ih j hj).2 (by omega) z2 (by have := hj0 j hj; omega)
      · rename_i hc
        refine ⟨⟨z2, i2⟩, fun j hj => (ih j hj).2, ?_⟩
        show C * x ≤ (y + 1) * Dq
        exact fr_le (p1 := C) (q1 := Dq) (p2 := C') (q2 := D') (p3 := y + 1) (q3 := x) (by omega) (by omega) (by omega) y2 (by omega)
    refine ⟨⟨⟨low.1.1, high.1.1⟩, low.1.2, high.1.2⟩, fun j hj => ?_⟩
    by_cases e : j = k + 1
    · subst e
      rw [hx, hy]
      exact ⟨low.2.2, high.2.2⟩
    · exact ⟨low.2.1 j (by omega), high.2.1 j (by omega)⟩
/-- the least denominator -/
theorem simGo_least {a b c d : Int} : ∀ (n : Nat) (k K0 : Int), k ≤ K0 → K0 ≤ k + n → sp a b K0 * d < c * K0 →
    ∃ K, simGo a b c d n k = (sp a b K, K) ∧ k ≤ K ∧ K ≤ K0 ∧ sp a b K * d < c * K ∧ ∀ t, k ≤ t → t < K → ¬ sp a b t * d < c * t
  | 0, k, K0, h1, h2, h => by
    obtain rfl : K0 = k := by omega
    exact ⟨K0, rfl, Int.le_refl _, Int.le_refl _, h, fun t h1 h2 => by omega⟩
  | n + 1, k, K0, h1, h2, h => by
    by_cases hk : sp a b k * d < c * k
    · exact ⟨k, simGo_yes hk, Int.le_refl _, h1, hk, fun t h1 h2 => by omega⟩
    · have hne : k ≠ K0 := fun e => by subst e; exact hk h
      obtain ⟨K, e, e1, e2, e3, e4⟩ := simGo_least n (k + 1) K0 (by omega) (by omega) h
      refine ⟨K, by rw [simGo_no hk]; exact e, by omega, e2, e3, fun t t1 t2 => ?_⟩
      by_cases et : t = k
      · subst et; exact hk
      · exact e4 t (by omega) t2
/-- all that the law asks of pairs that come of p / q -/
theorem portion_facts {js : List (Int × Int)} {p q : Int} (hp : 0 ≤ p) (hq : 1 ≤ q) (hl : 1 ≤ js.length ∧ js.length ≤ 60) (hx : ∀ j, j < js.length → rd js j ≤ 100000 ∧ rv js j ≤ 100000) (h : FromP js p q js.length) :
    ∃ a b c d P K : Int, pbR js = ((a, b, c, d), 0) ∧ fpR js = ((P, K), 0) ∧ simR a b c d = ((P, K), 0) ∧ simR c d a b = ((0, 0), 4) ∧ (0 ≤ a ∧ a ≤ 100001) ∧ (1 ≤ b ∧ b ≤ 100000) ∧ (0 ≤ c ∧ c ≤ 100001) ∧ (1 ≤ d ∧ d ≤ 100000) ∧
      a * q ≤ p * b ∧ p * d < c * q ∧ 1 ≤ K ∧ K ≤ q ∧ K ≤ b ∧ (0 ≤ P ∧ P ≤ a) ∧ (K = q → P ≤ p) ∧ (∀ j, j < js.length → rv js j * K ≤ rd js j * P ∧ rd js j * P < (rv js j + 1) * K) ∧ (∀ t, 1 ≤ t → t < K → ¬ (a * t + b - 1) / b * d < c * t) := by
  obtain ⟨n, hn⟩ : ∃ n, js.length = n + 1 := ⟨js.length - 1, by omega⟩
  have htp : okTp js js.length := fun j hj => by
    have := h j hj; have := hx j hj; omega
  have hok := okPs_yes hl htp
  have har := bnd_around hq n (by rw [← hn]; exact h)
  have hin := bnd_in n (by rw [← hn]; exact htp)
  obtain ⟨⟨a, b, c, d⟩, hB⟩ : ∃ B, bnd js n = B := ⟨_, rfl⟩
  rw [hB] at har hin
  obtain ⟨⟨⟨z1, z2⟩, i1, i2⟩, cov⟩ := har
  obtain ⟨⟨ha, hb⟩, hc, hd⟩ := hin
  simp only at z1 z2 i1 i2 cov ha hb hc hd
  have hlt : a * d < c * b := fr_lt2 (p2 := p) (q2 := q) i1 i2 hb.1 hq (by omega)
  have hpb : pbR js = ((a, b, c, d), 0) := by
    unfold pbR
    rw [if_pos hok, hn, Nat.add_sub_cancel, hB]
    simp only
    rw [if_pos hlt]
  have o1 : okPo a b = true := okPo_yes ⟨ha.1, by omega, hb.1, by omega⟩
  have o2 : okPo c d = true := okPo_yes ⟨hc.1, by omega, hd.1, by omega⟩
  have hsq : sp a b q ≤ p := by
    unfold sp
    have : a * q + b - 1 < (p + 1) * b := by rw [Int.add_mul, Int.one_mul]; omega
    have := (Int.ediv_lt_iff_lt_mul (show 0 < b by omega)).2 this
    omega
  have hgq : sp a b q * d < c * q := by
    have := Int.mul_le_mul_of_nonneg_right hsq (show 0 ≤ d by omega)
    omega
  have hgb : sp a b b * d < c * b := by rw [sp_at hb.1]; exact hlt
  obtain ⟨K0, k1, k2, k3, k4⟩ : ∃ K0, 1 ≤ K0 ∧ K0 ≤ 1 + (b.toNat : Int) ∧ (K0 ≤ q ∧ K0 ≤ b) ∧ sp a b K0 * d < c * K0 := by
    by_cases c1 : q ≤ b
    · exact ⟨q, hq, by omega, ⟨Int.le_refl _, c1⟩, hgq⟩
    · exact ⟨b, hb.1, by omega, ⟨by omega, Int.le_refl _⟩, hgb⟩
  obtain ⟨K, e, e1, e2, e3, e4⟩ := simGo_least b.toNat 1 K0 k1 k2 k4
  have hs : simR a b c d = ((sp a b K, K), 0) := by rw [simR_yes o1 o2 (by omega) hlt, e]
  have bd := sp_bd (p := a) (q := b) (k := K) ha.1 hb.1 e1 (by omega)
  have h2 : simR c d a b = ((0, 0), 4) := simR_state o2 o1 (by omega) (by omega)
  have hf : fpR js = ((sp a b K, K), 0) := by unfold fpR; rw [hpb]; simp only; rw [if_pos trivial]; exact hs
  have hlow : a * K ≤ sp a b K * b := by
    unfold sp
    have := Int.lt_ediv_add_one_mul_self (a * K + b - 1) (show 0 < b by omega)
    rw [Int.add_mul, Int.one_mul] at this
    omega
  refine ⟨a, b, c, d, sp a b K, K, hpb, hf, hs, h2, ha, hb, hc, hd, i1, i2, e1, by omega, by omega, ⟨bd.1, bd.2.1⟩, fun e => by rw [e]; exact hsq, fun j hj => ?_, fun t t1 t2 => e4 t t1 t2⟩
  obtain ⟨v1, v2⟩ := cov j (by omega)
  have hxj := (h j hj).1
  constructor
  · have := fr_le (p1 := rv js j) (q1 := rd js j) (p2 := a) (q2 := b) (p3 := sp a b K) (q3 := K) v1 hlow (by omega) hb.1 (by omega)
    rw [Int.mul_comm (rd js j)]
    exact this
  · have := fr_lt1 (p1 := sp a b K) (q1 := K) (p2 := c) (q2 := d) (p3 := rv js j + 1) (q3 := rd js j) e3 v2 (by omega) hd.1 hxj
    rw [Int.mul_comm (rd js j)]
    exact this
end Go.Proofs.YtihadhbgkjbkeaaDoor
