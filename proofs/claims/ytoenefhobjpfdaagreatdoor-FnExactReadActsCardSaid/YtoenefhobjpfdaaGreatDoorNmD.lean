/- Numbers of up to thirteen digits, and lines of two of them: what is read of what is written. -/
import Derived.Test.YtoenefhobjpfdaaGreatDoorLnM
import Derived.Test.YtoenefhobjpfdaaGreatDoorSpB
import Derived.Lib.ParseIntB
import Derived.Lib.ParseIntBTie
namespace Go.Proofs.YtoenefhobjpfdaaGreatDoor
open Go.RowKit
set_option linter.unusedVariables false
set_option linter.unusedSimpArgs false
def canD (l : List UInt8) : Bool := decide (1 ≤ l.length) && decide (l.length ≤ 13) && (decide (l.length = 1) || decide (l[0]? ≠ some 48)) && l.all digB
theorem canD_of (n : Nat) (h : n < 10000000000000) : canD (Lib.decDigits n) = true ∧ numV (Lib.decDigits n) = n := by
  obtain ⟨h1, h2, h3, h4, h5⟩ := can_dec 13 n (by simpa using h) (by omega)
  refine ⟨?_, h4⟩
  unfold canD
  simp only [Bool.and_eq_true, Bool.or_eq_true, decide_eq_true_eq]
  exact ⟨⟨⟨h2, h1⟩, h5⟩, h3⟩
theorem canD_dec {l : List UInt8} (h : canD l = true) : Lib.decDigits (numV l) = l := by
  unfold canD at h
  simp only [Bool.and_eq_true, Bool.or_eq_true, decide_eq_true_eq] at h
  exact dec_numV l (by intro e; subst e; simp at h) h.1.2 h.2
theorem canD_digs {l : List UInt8} (h : canD l = true) : l.all digB = true := by
  unfold canD at h
  simp only [Bool.and_eq_true] at h
  exact h.2
theorem canD_lt {l : List UInt8} (h : canD l = true) : numV l < 10000000000000 := by
  unfold canD at h
  simp only [Bool.and_eq_true, decide_eq_true_eq] at h
  have h2 := numV_lt l h.2
  have h3 : 10 ^ l.length ≤ 10 ^ 13 := Nat.pow_le_pow_right (by omega) h.1.1.2
  omega
theorem canD_ne {l : List UInt8} (h : canD l = true) : l ≠ [] := by
  rintro rfl
  cases h
theorem digs_no {p : List UInt8} {c : UInt8} (hc : digB c = false) (h : p.all digB = true) : c ∉ p := fun hm => by
  have := List.all_eq_true.1 h c hm
  rw [hc] at this; cases this
theorem parseM_D (M K : Nat) (hKM : K ≤ M) (hK : K < 1844674407370955162) : ∀ (l : List UInt8) (acc : Nat), acc ≤ K → l.all digB = true → l.foldl (fun n x => 10 * n + (x.toNat - 48)) acc ≤ K → Lib.parseUintM M acc l = .ok (l.foldl (fun n x => 10 * n + (x.toNat - 48)) acc)
  | [], acc, _, _, _ => rfl
  | x :: r, acc, ha, hd, hle => by
    simp only [List.all_cons, Bool.and_eq_true] at hd
    have hx := hd.1
    simp [digB] at hx
    have mono : ∀ (r : List UInt8) (a : Nat), a ≤ r.foldl (fun n x => 10 * n + (x.toNat - 48)) a := by
      intro r
      induction r with
      | nil => intro a; exact Nat.le_refl _
      | cons y r ih => intro a; exact Nat.le_trans (by omega) (ih (10 * a + (y.toNat - 48)))
    have h2 := mono r (10 * acc + (x.toNat - 48))
    simp only [List.foldl_cons] at hle ⊢
    rw [Lib.parseUintM, if_pos (by omega), if_neg (by omega), if_neg (by omega), show acc * 10 + (x.toNat - 48) = 10 * acc + (x.toNat - 48) by omega]
    exact parseM_D M K hKM hK r _ (by omega) hd.2 hle
theorem parse64_D {l : List UInt8} (h : canD l = true) : Lib.parseIntB 64 l = .ok (numV l : Int) := by
  have hd := canD_digs h
  have hle := canD_lt h
  match l, canD_ne h with
  | c :: r, _ =>
    have hc : 48 ≤ c.toNat ∧ c.toNat ≤ 57 := by
      simp only [List.all_cons, Bool.and_eq_true] at hd
      have := hd.1
      simpa [digB] using this
    have e : Lib.parseUintB 64 (c :: r) = .ok (numV (c :: r)) := by
      unfold Lib.parseUintB
      rw [if_neg (by simp)]
      exact parseM_D _ 10000000000000 (by decide) (by decide) (c :: r) 0 (by omega) hd (by show numV (c :: r) ≤ _; omega)
    unfold Lib.parseIntB
    simp only
    rw [if_neg (by omega), e]
    simp only
    rw [if_neg (by omega), if_neg (by omega), if_neg (by omega)]
/-- a line of two numbers, as the model reads it -/
def twoW (p : List UInt8) : Option (Int × Int) := match spl 32 p with
  | [a, b] => if canD a && canD b then some ((numV a : Int), (numV b : Int)) else none
  | _ => none
def twoT (a b : Int) : List UInt8 := Lib.itoa a ++ [32] ++ Lib.itoa b
theorem spl_twoT (m n : Nat) (hm : m < 10000000000000) (hn : n < 10000000000000) : spl 32 (twoT m n) = [Lib.decDigits m, Lib.decDigits n] := by
  unfold twoT
  rw [itoa_nat, itoa_nat, List.append_assoc, List.singleton_append, spl_app 32 _ _ (digs_no (by decide) (canD_digs (canD_of m hm).1)), spl_one 32 _ (digs_no (by decide) (canD_digs (canD_of n hn).1))]
theorem twoW_of (m n : Nat) (hm : m < 10000000000000) (hn : n < 10000000000000) : twoW (twoT m n) = some ((m : Int), (n : Int)) := by
  unfold twoW
  rw [spl_twoT m n hm hn]
  simp only
  have a := canD_of m hm; have b := canD_of n hn
  rw [a.1, b.1, a.2, b.2]
  rfl
theorem twoW_out {p : List UInt8} {a b : Int} (h : twoW p = some (a, b)) : (0 ≤ a ∧ a < 10000000000000) ∧ (0 ≤ b ∧ b < 10000000000000) ∧ p = twoT a b := by
  unfold twoW at h
  split at h
  · rename_i x y hs
    split at h
    · rename_i hc
      simp only [Bool.and_eq_true] at hc
      injection h with h
      injection h with h1 h2
      subst h1; subst h2
      have lx := canD_lt hc.1; have ly := canD_lt hc.2
      refine ⟨by omega, by omega, ?_⟩
      unfold twoT
      rw [itoa_nat, itoa_nat, canD_dec hc.1, canD_dec hc.2, ← join_spl 32 p, hs, join_two, Lib.join_one]
      simp
    · cases h
  · cases h
/-- no newline in a line of two numbers -/
theorem twoT_line (m n : Nat) (hm : m < 10000000000000) (hn : n < 10000000000000) : (10 : UInt8) ∉ twoT m n := by
  unfold twoT
  rw [itoa_nat, itoa_nat]
  simp only [List.mem_append, List.mem_singleton, not_or]
  exact ⟨⟨digs_no (by decide) (canD_digs (canD_of m hm).1), by decide⟩, digs_no (by decide) (canD_digs (canD_of n hn).1)⟩
end Go.Proofs.YtoenefhobjpfdaaGreatDoor
