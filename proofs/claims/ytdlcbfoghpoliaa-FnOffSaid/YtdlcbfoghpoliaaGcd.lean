/- Plain mathematics of ratios: common divisors, ratios without them, products. No program in it. -/
import Derived.Below
import Derived.IntWalk
namespace Go.Proofs.Ytdlcbfoghpoliaa
open Go.RowKit

theorem gcdFlip (a b : Nat) : Nat.gcd b (a % b) = Nat.gcd a b := by rw [Nat.gcd_comm a b, Nat.gcd_rec b a]; exact Nat.gcd_comm _ _
/-- the greatest common divisor of two numbers of at least 0 -/
def gcdI (a b : Int) : Int := (Nat.gcd a.toNat b.toNat : Nat)
theorem gcdI_nat (m n : Nat) : gcdI (m : Int) (n : Int) = ((Nat.gcd m n : Nat) : Int) := rfl
theorem gcdI_flip (a b : Int) (ha : 0 ≤ a) (hb : 0 ≤ b) : gcdI b (a % b) = gcdI a b := by
  obtain ⟨m, rfl⟩ := Int.eq_ofNat_of_zero_le ha
  obtain ⟨n, rfl⟩ := Int.eq_ofNat_of_zero_le hb
  rw [show ((m : Int) % (n : Int)) = ((m % n : Nat) : Int) from rfl, gcdI_nat, gcdI_nat, gcdFlip]
theorem gcdI_zero (a : Int) (ha : 0 ≤ a) : gcdI a 0 = a := by
  obtain ⟨m, rfl⟩ := Int.eq_ofNat_of_zero_le ha
  have : gcdI (m : Int) ((0 : Nat) : Int) = (m : Int) := by rw [gcdI_nat, Nat.gcd_zero_right]
  exact this
def okR (p q : Int) : Bool := decide (1 ≤ p ∧ p ≤ 1000000000 ∧ 1 ≤ q ∧ q ≤ 1000000000 ∧ gcdI p q = 1)
theorem okR_out {p q : Int} (h : okR p q = true) : 1 ≤ p ∧ p ≤ 1000000000 ∧ 1 ≤ q ∧ q ≤ 1000000000 ∧ gcdI p q = 1 := by simpa [okR] using h
theorem okR_pl {p q : Int} (h : p < 1) : okR p q = false := by simp only [okR, decide_eq_false_iff_not]; omega
theorem okR_ql {p q : Int} (h : q < 1) : okR p q = false := by simp only [okR, decide_eq_false_iff_not]; omega
theorem okR_ph {p q : Int} (h : 1000000000 < p) : okR p q = false := by simp only [okR, decide_eq_false_iff_not]; omega
theorem okR_qh {p q : Int} (h : 1000000000 < q) : okR p q = false := by simp only [okR, decide_eq_false_iff_not]; omega
theorem okR_mid {p q : Int} (h1 : 1 ≤ p) (h2 : p ≤ 1000000000) (h3 : 1 ≤ q) (h4 : q ≤ 1000000000) : okR p q = decide (gcdI p q = 1) := by simp [okR, h1, h2, h3, h4]
def redP (p q : Int) : Int := p / gcdI p q
def redQ (p q : Int) : Int := q / gcdI p q

/-- the facts on a ratio without common divisors, in whole numbers of at least 0 -/
theorem nat_red (m n : Nat) (hm : 0 < m) : 0 < Nat.gcd m n ∧ Nat.gcd m n ≤ m ∧ m / Nat.gcd m n * Nat.gcd m n = m ∧ n / Nat.gcd m n * Nat.gcd m n = n ∧ 0 < m / Nat.gcd m n ∧ (m / Nat.gcd m n).gcd (n / Nat.gcd m n) = 1 := by
  have g0 : 0 < Nat.gcd m n := Nat.gcd_pos_of_pos_left n hm
  have h1 := Nat.div_mul_cancel (Nat.gcd_dvd_left m n)
  have h2 := Nat.div_mul_cancel (Nat.gcd_dvd_right m n)
  have h3 := Nat.coprime_div_gcd_div_gcd g0
  have h4 := Nat.gcd_le_left n hm
  refine ⟨g0, h4, h1, h2, ?_, h3⟩
  exact Nat.div_pos h4 g0
theorem toI (p : Int) (h : 1 ≤ p) : ∃ m : Nat, p = (m : Int) ∧ 0 < m := by
  obtain ⟨m, rfl⟩ := Int.eq_ofNat_of_zero_le (show 0 ≤ p by omega)
  exact ⟨m, rfl, by omega⟩
theorem redP_nat (m n : Nat) : redP (m : Int) (n : Int) = ((m / Nat.gcd m n : Nat) : Int) := rfl
theorem redQ_nat (m n : Nat) : redQ (m : Int) (n : Int) = ((n / Nat.gcd m n : Nat) : Int) := rfl
theorem red_bd {p q : Int} (hp : 1 ≤ p) (hq : 1 ≤ q) : 1 ≤ gcdI p q ∧ gcdI p q ≤ p ∧ gcdI p q ≤ q ∧ 1 ≤ redP p q ∧ redP p q ≤ p ∧ 1 ≤ redQ p q ∧ redQ p q ≤ q ∧ gcdI (redP p q) (redQ p q) = 1 ∧ redP p q * q = redQ p q * p := by
  obtain ⟨m, rfl, hm⟩ := toI p hp
  obtain ⟨n, rfl, hn⟩ := toI q hq
  rw [redP_nat, redQ_nat, gcdI_nat, gcdI_nat]
  obtain ⟨g0, g1, e1, e2, p1, c⟩ := nat_red m n hm
  have q1 : 0 < n / Nat.gcd m n := Nat.div_pos (Nat.le_of_dvd hn (Nat.gcd_dvd_right m n)) g0
  have g2 : Nat.gcd m n ≤ n := Nat.le_of_dvd hn (Nat.gcd_dvd_right m n)
  have d1 := Nat.div_le_self m (Nat.gcd m n)
  have d2 := Nat.div_le_self n (Nat.gcd m n)
  refine ⟨by omega, by omega, by omega, by omega, by omega, by omega, by omega, by rw [c]; rfl, ?_⟩
  have : m / Nat.gcd m n * n = n / Nat.gcd m n * m := by
    obtain ⟨G, hG⟩ : ∃ G, G = Nat.gcd m n := ⟨_, rfl⟩
    obtain ⟨X, hX⟩ : ∃ X, X = m / G := ⟨_, rfl⟩
    obtain ⟨Y, hY⟩ : ∃ Y, Y = n / G := ⟨_, rfl⟩
    rw [← hG, ← hX] at e1
    rw [← hG, ← hY] at e2
    rw [← hG, ← hX, ← hY, ← e1, ← e2]
    ac_rfl
  exact_mod_cast this
/-- a ratio has one form without common divisors -/
theorem red_one {x y P Q : Int} (hx : 1 ≤ x) (hy : 1 ≤ y) (hP : 1 ≤ P) (hQ : 1 ≤ Q) (c : gcdI x y = 1) (e : x * Q = y * P) : redP P Q = x ∧ redQ P Q = y := by
  obtain ⟨x, rfl, hx'⟩ := toI x hx
  obtain ⟨y, rfl, hy'⟩ := toI y hy
  obtain ⟨P, rfl, hP'⟩ := toI P hP
  obtain ⟨Q, rfl, hQ'⟩ := toI Q hQ
  rw [redP_nat, redQ_nat]
  rw [gcdI_nat] at c
  have c' : Nat.Coprime x y := by have : ((Nat.gcd x y : Nat) : Int) = ((1 : Nat) : Int) := c; exact Int.ofNat_inj.1 this
  have e' : x * Q = y * P := by exact_mod_cast e
  have dx : x ∣ P := by
    have : x ∣ P * y := ⟨Q, by rw [Nat.mul_comm P y]; exact e'.symm⟩
    exact Nat.Coprime.dvd_of_dvd_mul_right c' this
  obtain ⟨k, rfl⟩ := dx
  have : Q = y * k := by
    have : x * Q = x * (y * k) := by rw [e']; simp only [Nat.mul_left_comm]
    exact Nat.eq_of_mul_eq_mul_left hx' this
  subst this
  have hk : 0 < k := by
    cases k with
    | zero => simp at hP'
    | succ k => omega
  have g : Nat.gcd (x * k) (y * k) = k := by rw [Nat.gcd_mul_right, c'.gcd_eq_one, Nat.one_mul]
  rw [g, Nat.mul_div_cancel _ hk, Nat.mul_div_cancel _ hk]
  exact ⟨rfl, rfl⟩
theorem red_self {p q : Int} (hp : 1 ≤ p) (hq : 1 ≤ q) (c : gcdI p q = 1) : redP p q = p ∧ redQ p q = q := red_one hp hq hp hq c (Int.mul_comm p q)
/-- common divisors across two ratios without any are all that the product has -/
theorem cross_one {p q u v : Int} (hp : 1 ≤ p) (hq : 1 ≤ q) (hu : 1 ≤ u) (hv : 1 ≤ v) (c1 : gcdI p q = 1) (c2 : gcdI u v = 1) :
    gcdI (redP p v * redP u q) (redQ u q * redQ p v) = 1 := by
  obtain ⟨p, rfl, hp'⟩ := toI p hp
  obtain ⟨q, rfl, hq'⟩ := toI q hq
  obtain ⟨u, rfl, hu'⟩ := toI u hu
  obtain ⟨v, rfl, hv'⟩ := toI v hv
  rw [gcdI_nat] at c1 c2
  have k1 : Nat.Coprime p q := Int.ofNat_inj.1 (show ((Nat.gcd p q : Nat) : Int) = ((1 : Nat) : Int) from c1)
  have k2 : Nat.Coprime u v := Int.ofNat_inj.1 (show ((Nat.gcd u v : Nat) : Int) = ((1 : Nat) : Int) from c2)
  rw [redP_nat, redP_nat, redQ_nat, redQ_nat]
  have a1 := (nat_red p v hp').2.2.2.2.2
  have a2 := (nat_red u q hu').2.2.2.2.2
  have b1 : Nat.Coprime (p / Nat.gcd p v) (q / Nat.gcd u q) := (k1.coprime_dvd_left (Nat.div_dvd_of_dvd (Nat.gcd_dvd_left p v))).coprime_dvd_right (Nat.div_dvd_of_dvd (Nat.gcd_dvd_right u q))
  have b2 : Nat.Coprime (u / Nat.gcd u q) (v / Nat.gcd p v) := (k2.coprime_dvd_left (Nat.div_dvd_of_dvd (Nat.gcd_dvd_left u q))).coprime_dvd_right (Nat.div_dvd_of_dvd (Nat.gcd_dvd_right p v))
  have : Nat.Coprime (p / Nat.gcd p v * (u / Nat.gcd u q)) (q / Nat.gcd u q * (v / Nat.gcd p v)) :=
    Nat.Coprime.mul_left (Nat.Coprime.mul_right b1 a1) (Nat.Coprime.mul_right a2 b2)
  rw [← Int.natCast_mul, ← Int.natCast_mul, gcdI_nat, this.gcd_eq_one]
  rfl
theorem mul_bd {a b A B : Int} (h1 : 1 ≤ a) (h2 : a ≤ A) (h3 : 1 ≤ b) (h4 : b ≤ B) : 1 ≤ a * b ∧ a * b ≤ A * B := by
  have x := Int.mul_le_mul h1 h3 (by omega) (by omega)
  have y := Int.mul_le_mul h2 h4 (by omega) (by omega)
  omega
theorem cross_eq {p q a b x x' y y' s s' t t' : Int} (h1 : 1 ≤ x') (h2 : 1 ≤ y') (se : s * y' = s' * x) (te : t * x' = t' * y) (xe : x * q = x' * p) (ye : y * b = y' * a) : (s * t) * (q * b) = (t' * s') * (p * a) := by
  have hz : (0 : Int) < x' * y' := Int.mul_pos (by omega) (by omega)
  apply Int.eq_of_mul_eq_mul_left (Int.ne_of_gt hz)
  calc (x' * y') * ((s * t) * (q * b)) = (s * y') * (t * x') * (q * b) := by ac_rfl
    _ = (s' * x) * (t' * y) * (q * b) := by rw [se, te]
    _ = (s' * t') * (x * q) * (y * b) := by ac_rfl
    _ = (s' * t') * (x' * p) * (y' * a) := by rw [xe, ye]
    _ = (x' * y') * ((t' * s') * (p * a)) := by ac_rfl
/-- the product of a ratio without common divisors and one more, by their numbers -/
theorem times_red {p q a b : Int} (hp : 1 ≤ p) (hq : 1 ≤ q) (ha : 1 ≤ a) (hb : 1 ≤ b) :
    redP (redP p q) (redQ a b) * redP (redP a b) (redQ p q) = redP (p * a) (q * b) ∧ redQ (redP a b) (redQ p q) * redQ (redP p q) (redQ a b) = redQ (p * a) (q * b) := by
  obtain ⟨_, _, _, x1, _, x2, _, xc, xe⟩ := red_bd hp hq
  obtain ⟨_, _, _, y1, _, y2, _, yc, ye⟩ := red_bd ha hb
  have C := cross_one x1 x2 y1 y2 xc yc
  obtain ⟨_, _, _, s1, _, s2, _, _, se⟩ := red_bd x1 y2
  obtain ⟨_, _, _, t1, _, t2, _, _, te⟩ := red_bd y1 x2
  have b1 := mul_bd s1 (Int.le_refl _) t1 (Int.le_refl _)
  have b2 := mul_bd t2 (Int.le_refl _) s2 (Int.le_refl _)
  have b3 := mul_bd hp (Int.le_refl _) ha (Int.le_refl _)
  have b4 := mul_bd hq (Int.le_refl _) hb (Int.le_refl _)
  have R := red_one b1.1 b2.1 b3.1 b4.1 C (cross_eq x2 y2 se te xe ye)
  exact ⟨R.1.symm, R.2.symm⟩
end Go.Proofs.Ytdlcbfoghpoliaa
