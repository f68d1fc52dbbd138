/- ConvergentsOf: mathematics. -/
import Derived.Test.YtgkinoibidkicaaFromM
import Derived.Test.YtgkinoibidkicaaTermsM
import Derived.Test.YtgkinoibidkicaaTvR
import Derived.Test.YtgkinoibidkicaaGcd
namespace Go.Proofs.Ytgkinoibidkicaa
open Go.RowKit
theorem tvals_snoc (l : List (Int × Int)) (a b : Int) : tvals (l ++ [(a, b)]) = tvals l ++ [.int .i64 a, .int .i64 b] := by
  have e : numrs (l ++ [(a, b)]) (l.length * 2) = numrs l (l.length * 2) := by
    unfold numrs
    apply List.map_congr_left
    intro i hi
    have hi' : i / 2 < l.length := by have := List.mem_range.1 hi; omega
    simp only [numr, rd, rv, List.getElem?_append_left hi']
  have p1 : rd (l ++ [(a, b)]) l.length = a := by simp [rd]
  have p2 : rv (l ++ [(a, b)]) l.length = b := by simp [rv]
  unfold tvals
  rw [show (l ++ [(a, b)]).length * 2 = l.length * 2 + 1 + 1 by simp; omega, numrs_succ, numrs_succ, e, numr_even, numr_odd, p1, p2]
  simp
theorem tvals_cons (a b : Int) (l : List (Int × Int)) : tvals ((a, b) :: l) = .int .i64 a :: .int .i64 b :: tvals l := by
  unfold tvals
  rw [show ((a, b) :: l).length * 2 = l.length * 2 + 2 by simp; omega]
  apply List.ext_getElem?
  intro i
  match i with
  | 0 => simp [numrs, numr, rd]
  | 1 => simp [numrs, numr, rv]
  | i + 2 =>
    simp only [List.getElem?_cons_succ, List.getElem?_map]
    by_cases h : i < l.length * 2
    · rw [numrs_get _ _ _ (by omega), numrs_get _ _ _ h]
      have e1 : (i + 2) % 2 = i % 2 := by omega
      have e2 : (i + 2) / 2 = i / 2 + 1 := by omega
      simp [numr, rd, rv, e1, e2]
    · rw [List.getElem?_eq_none (by rw [numrs_len]; omega), List.getElem?_eq_none (by rw [numrs_len]; omega)]
/-- the ratios of the first one, two, ... k terms -/
def convL (zs : List Int) (k : Nat) : List (Int × Int) := (List.range k).map fun j => ((fP zs (j + 1)).2, (fQ zs (j + 1)).2)
theorem convL_len (zs : List Int) (k : Nat) : (convL zs k).length = k := by simp [convL]
theorem convL_succ (zs : List Int) (k : Nat) : convL zs (k + 1) = convL zs k ++ [((fP zs (k + 1)).2, (fQ zs (k + 1)).2)] := by simp [convL, List.range_succ]
theorem tvals_conv (zs : List Int) (k : Nat) : tvals (convL zs (k + 1)) = tvals (convL zs k) ++ [.int .i64 (fP zs (k + 1)).2, .int .i64 (fQ zs (k + 1)).2] := by rw [convL_succ, tvals_snoc]
theorem convL_cons (zs : List Int) (k : Nat) : convL zs (k + 1) = ((fP zs 1).2, (fQ zs 1).2) :: (convL zs (k + 1)).drop 1 := by
  simp [convL, List.range_succ_eq_map]
/-- what is left of p / q behind the first terms -/
def remL (p q : Int) : Nat → Int × Int
  | 0 => (p, q)
  | k + 1 => remL q (p % q) k
theorem remL_step (p q : Int) (k : Nat) : remL p q (k + 1) = ((remL p q k).2, (remL p q k).1 % (remL p q k).2) := by
  induction k generalizing p q with
  | zero => rfl
  | succ k ih => exact ih q (p % q)
theorem remL_pos (k : Nat) : ∀ (p q : Int), 0 ≤ p → 0 ≤ q → k < (termsL p q).length → (0 ≤ (remL p q k).1 ∧ 1 ≤ (remL p q k).2) ∧ zA (termsL p q) k = (remL p q k).1 / (remL p q k).2 := by
  induction k with
  | zero =>
    intro p q hp hq hk
    by_cases h0 : q = 0
    · subst h0; rw [termsL_zero] at hk; simp at hk
    · rw [termsL_step p q (by omega)]
      exact ⟨⟨hp, by show (1 : Int) ≤ q; omega⟩, by simp [zA, remL]⟩
  | succ k ih =>
    intro p q hp hq hk
    by_cases h0 : q = 0
    · subst h0; rw [termsL_zero] at hk; simp at hk
    · have hm := Int.emod_nonneg p h0
      rw [termsL_step p q (by omega)] at hk ⊢
      have := ih q (p % q) hq hm (by simpa using hk)
      exact ⟨this.1, by show zA (p / q :: termsL q (p % q)) (k + 1) = (remL q (p % q) k).1 / (remL q (p % q) k).2; rw [← this.2]; simp [zA]⟩
theorem fP_pos (zs : List Int) : ∀ k, (∀ j, j < k → 0 ≤ zA zs j) → (0 ≤ (fP zs k).1 ∧ 0 ≤ (fP zs k).2) ∧ (0 ≤ (fQ zs k).1 ∧ 0 ≤ (fQ zs k).2)
  | 0, _ => by simp [fP, fQ]
  | k + 1, h => by
    have ih := fP_pos zs k (fun j hj => h j (by omega))
    have z := h k (by omega)
    have a := Int.mul_nonneg z ih.1.2
    have b := Int.mul_nonneg z ih.2.2
    exact ⟨⟨ih.1.2, by show 0 ≤ zA zs k * (fP zs k).2 + (fP zs k).1; omega⟩, ⟨ih.2.2, by show 0 ≤ zA zs k * (fQ zs k).2 + (fQ zs k).1; omega⟩⟩
theorem sum_step (A B a b z m : Int) (h : b * z + m = a) : (z * A + B) * b + A * m = A * a + B * b := by
  subst h
  rw [Int.add_mul, Int.mul_add, Int.mul_comm z A, Int.mul_assoc, Int.mul_comm b z]
  omega
theorem conv_sum (p q : Int) (hp : 0 ≤ p) (hq : 0 ≤ q) : ∀ k, k ≤ (termsL p q).length → p = (fP (termsL p q) k).2 * (remL p q k).1 + (fP (termsL p q) k).1 * (remL p q k).2 ∧ q = (fQ (termsL p q) k).2 * (remL p q k).1 + (fQ (termsL p q) k).1 * (remL p q k).2
  | 0, _ => by simp [fP, fQ, remL]
  | k + 1, h => by
    have ih := conv_sum p q hp hq k (by omega)
    obtain ⟨⟨r1, r2⟩, hz⟩ := remL_pos k p q hp hq (by omega)
    rw [remL_step]
    have hd := Int.mul_ediv_add_emod (remL p q k).1 (remL p q k).2
    rw [← hz] at hd
    have e1 := sum_step (fP (termsL p q) k).2 (fP (termsL p q) k).1 (remL p q k).1 (remL p q k).2 (zA (termsL p q) k) ((remL p q k).1 % (remL p q k).2) hd
    have e2 := sum_step (fQ (termsL p q) k).2 (fQ (termsL p q) k).1 (remL p q k).1 (remL p q k).2 (zA (termsL p q) k) ((remL p q k).1 % (remL p q k).2) hd
    exact ⟨ih.1.trans e1.symm, ih.2.trans e2.symm⟩
theorem le_sum {A B a b p : Int} (h : p = A * a + B * b) (hA : 0 ≤ A) (hB : 0 ≤ B) (ha : 1 ≤ a) (hb : 0 ≤ b) : A ≤ p := by
  have h1 := Int.mul_le_mul_of_nonneg_left ha hA
  have h2 := Int.mul_nonneg hB hb
  rw [Int.mul_one] at h1
  omega
theorem remL_two (p q : Int) (hp : 1 ≤ p) (hq : 0 ≤ q) (k : Nat) (hk : k ≤ (termsL p q).length) : 1 ≤ (remL p q k).1 ∧ 0 ≤ (remL p q k).2 := by
  cases k with
  | zero => exact ⟨hp, hq⟩
  | succ k =>
    obtain ⟨⟨r1, r2⟩, _⟩ := remL_pos k p q (by omega) hq (by omega)
    rw [remL_step]
    exact ⟨r2, Int.emod_nonneg _ (by omega)⟩
/-- the terms of a ratio, and the ratios of the first of them -/
theorem conv_facts {p q : Int} (h : okR p q = true) : (1 ≤ (termsL p q).length ∧ (termsL p q).length ≤ 1000000000) ∧ zTo (termsL p q) (termsL p q).length ∧ inTo (termsL p q) (termsL p q).length ∧ zA (termsL p q) 0 = p / q ∧ (p / q = 0 → 2 ≤ (termsL p q).length) := by
  obtain ⟨a1, a2, a3, a4, _⟩ := okR_out h
  have hl := termsL_len p q (by omega)
  have hs := termsL_step p q a3
  have h1 : 1 ≤ (termsL p q).length := by rw [hs]; simp
  have hz0 : ∀ j, j < (termsL p q).length → 0 ≤ zA (termsL p q) j := fun j hj => by
    obtain ⟨⟨r1, r2⟩, hz⟩ := remL_pos j p q (by omega) (by omega) hj
    rw [hz]; exact Int.ediv_nonneg r1 (by omega)
  have hbd : ∀ k, k ≤ (termsL p q).length → (fP (termsL p q) k).2 ≤ p ∧ (fQ (termsL p q) k).2 ≤ q := fun k hk => by
    obtain ⟨s1, s2⟩ := conv_sum p q (by omega) (by omega) k hk
    obtain ⟨n1, n2⟩ := fP_pos (termsL p q) k (fun j hj => hz0 j (by omega))
    obtain ⟨r1, r2⟩ := remL_two p q a1 (by omega) k hk
    exact ⟨le_sum s1 n1.2 n1.1 r1 r2, le_sum s2 n2.2 n2.1 r1 r2⟩
  refine ⟨⟨h1, by omega⟩, fun j hj => ⟨hz0 j hj, ?_⟩, fun j hj => ?_, by rw [hs]; rfl, fun h0 => ?_⟩
  · obtain ⟨⟨r1, r2⟩, hz⟩ := remL_pos j p q (by omega) (by omega) hj
    have hle := Int.ediv_le_self (remL p q j).2 r1
    rw [← hz] at hle
    have hr : (remL p q j).1 ≤ 1000000000 := by
      clear hle hz
      induction j with
      | zero => exact a2
      | succ j ih =>
        obtain ⟨⟨s1, s2⟩, _⟩ := remL_pos j p q (by omega) (by omega) (by omega)
        rw [remL_step]
        cases j with
        | zero => exact a4
        | succ j =>
          obtain ⟨⟨t1, t2⟩, _⟩ := remL_pos j p q (by omega) (by omega) (by omega)
          have hr1 := ih (by omega) s1 s2
          have hm := Int.emod_lt_of_pos (remL p q j).1 (show 0 < (remL p q j).2 by omega)
          rw [remL_step] at hr1 ⊢
          simp only at hr1 ⊢
          omega
    omega
  · have := hbd (j + 1) (by omega)
    omega
  · rw [hs]
    have hm : p % q = p := by have := Int.mul_ediv_add_emod p q; rw [h0] at this; omega
    rw [hm, termsL_step q p a1]
    simp
/-- what ConvergentsOf returns -/
def convR (p q : Int) : List (Int × Int) × Int := if okR p q then (if p / q = 0 then ((convL (termsL p q) (termsL p q).length).drop 1, 0) else (convL (termsL p q) (termsL p q).length, 0)) else ([], 1)
theorem convR_no {p q : Int} (h : okR p q = false) : convR p q = ([], 1) := by simp [convR, h]
theorem convR_zero {p q : Int} (h : okR p q = true) (k : p / q = 0) : convR p q = ((convL (termsL p q) (termsL p q).length).drop 1, 0) := by simp [convR, h, k]
theorem convR_more {p q : Int} (h : okR p q = true) (k : p / q ≠ 0) : convR p q = (convL (termsL p q) (termsL p q).length, 0) := by simp [convR, h, k]
theorem fP_one (zs : List Int) : (fP zs 1).2 = zA zs 0 := by simp [fP]
end Go.Proofs.Ytgkinoibidkicaa
