/- Plain mathematics of the terms of a ratio. No program in it. -/
import Derived.Below
import Derived.IntWalk
namespace Go.Proofs.Ytdlcbfoghpoliaa
open Go.RowKit
def termsF : Nat → Int → Int → List Int
  | 0, _, _ => []
  | n + 1, p, q => if q = 0 then [] else (p / q) :: termsF n q (p % q)
theorem termsF_more : ∀ (n m : Nat) (p q : Int), 0 ≤ q → q.toNat < n → q.toNat < m → termsF n p q = termsF m p q
  | 0, _, _, _, _, h, _ => by omega
  | n + 1, 0, _, _, _, _, h => by omega
  | n + 1, m + 1, p, q, hq, h1, h2 => by
    simp only [termsF]
    by_cases h0 : q = 0
    · rw [if_pos h0, if_pos h0]
    · rw [if_neg h0, if_neg h0]
      have a := Int.emod_nonneg p h0
      have b := Int.emod_lt_of_pos p (show 0 < q by omega)
      rw [termsF_more n m q (p % q) a (by omega) (by omega)]
/-- the terms of p / q, for q of at least 0; none for q = 0 -/
def termsL (p q : Int) : List Int := termsF (q.toNat + 1) p q
theorem termsL_zero (p : Int) : termsL p 0 = [] := rfl
theorem termsL_step (p q : Int) (hq : 1 ≤ q) : termsL p q = (p / q) :: termsL q (p % q) := by
  have h0 : q ≠ 0 := by omega
  have a := Int.emod_nonneg p h0
  have b := Int.emod_lt_of_pos p (show 0 < q by omega)
  unfold termsL
  rw [show termsF (q.toNat + 1) p q = (if q = 0 then [] else (p / q) :: termsF q.toNat q (p % q)) from rfl, if_neg h0]
  rw [termsF_more q.toNat ((p % q).toNat + 1) q (p % q) a (by omega) (by omega)]
theorem termsF_len : ∀ (n : Nat) (p q : Int), 0 ≤ q → (termsF n p q).length ≤ q.toNat
  | 0, _, _, _ => by simp [termsF]
  | n + 1, p, q, hq => by
    simp only [termsF]
    by_cases h0 : q = 0
    · rw [if_pos h0]; simp
    · rw [if_neg h0]
      have a := Int.emod_nonneg p h0
      have b := Int.emod_lt_of_pos p (show 0 < q by omega)
      have := termsF_len n q (p % q) a
      simp only [List.length_cons]
      omega
theorem termsL_len (p q : Int) (hq : 0 ≤ q) : (termsL p q).length ≤ q.toNat := termsF_len _ _ _ hq
end Go.Proofs.Ytdlcbfoghpoliaa
