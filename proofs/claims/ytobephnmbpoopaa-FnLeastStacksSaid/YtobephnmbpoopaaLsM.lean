/- The least stack: the numbers. -/
import Derived.Test.YtobephnmbpoopaaMath
namespace Go.Proofs.Ytobephnmbpoopaa
set_option linter.unusedVariables false
set_option linter.unusedSimpArgs false
/-- b is the base that both searches end at -/
def baseIs (size : Int) (w : Nat) (b : Int) : Prop := 2 ≤ b ∧ (∀ c : Int, 2 ≤ c → c < b → c ≤ 100 ∧ c ^ w < size) ∧ (100 < b ∨ size ≤ b ^ w)
theorem base_first (size : Int) (w : Nat) : ∀ c : Int, 2 ≤ c → c < 2 → c ≤ 100 ∧ c ^ w < size := fun c h h2 => by omega
theorem base_next {size : Int} {w : Nat} {b : Int} (h : ∀ c : Int, 2 ≤ c → c < b → c ≤ 100 ∧ c ^ w < size) (h1 : b ≤ 100) (h2 : b ^ w < size) : ∀ c : Int, 2 ≤ c → c < b + 1 → c ≤ 100 ∧ c ^ w < size := fun c hc hb => by
  by_cases e : c = b
  · subst e; exact ⟨h1, h2⟩
  · exact h c hc (by omega)
theorem base_uniq {size : Int} {w : Nat} {b b' : Int} (h : baseIs size w b) (h' : baseIs size w b') : b = b' := by
  rcases Int.lt_trichotomy b b' with c | c | c
  · have := h'.2.1 b h.1 c
    rcases h.2.2 with d | d <;> omega
  · exact c
  · have := h.2.1 b' h'.1 c
    rcases h'.2.2 with d | d <;> omega
theorem szL_rep (b : Int) : ∀ n : Nat, szL (List.replicate n b) = b ^ n
  | 0 => by simp [szL]
  | n + 1 => by rw [List.replicate_succ', szL_snoc, szL_rep b n, Int.pow_succ]
/-- the least last wheel -/
def lastW (size o : Int) : Int := max 2 ((size + o - 1) / o)
theorem last_is {size o t : Int} (ho : 1 ≤ o) (ht : 2 ≤ t) (hs : size ≤ o * t) (he : t = 2 ∨ o * (t - 1) < size) : t = lastW size o := by
  unfold lastW
  have e1 : o * (t - 1) = o * t - o := by rw [Int.mul_sub, Int.mul_one]
  rcases he with rfl | he
  · have h : (size + o - 1) / o < 3 := Int.ediv_lt_of_lt_mul (by omega) (by omega)
    omega
  · have h1 : (size + o - 1) / o < t + 1 := Int.ediv_lt_of_lt_mul (by omega) (by rw [Int.add_mul, Int.one_mul, Int.mul_comm t o]; omega)
    have h2 : t ≤ (size + o - 1) / o := Int.le_ediv_of_mul_le (by omega) (by rw [Int.mul_comm t o]; omega)
    omega
theorem lastW_le {size o b : Int} (ho : 1 ≤ o) (hb : 2 ≤ b) (hs : size ≤ o * b) : 2 ≤ lastW size o ∧ lastW size o ≤ b := by
  unfold lastW
  have h1 : (size + o - 1) / o < b + 1 := Int.ediv_lt_of_lt_mul (by omega) (by rw [Int.add_mul, Int.one_mul, Int.mul_comm b o]; omega)
  omega
/-- all wheels alike but the last -/
def lsL (b : Int) (w : Nat) (t : Int) : List Int := List.replicate (w - 1) b ++ [t]
theorem lsL_set (b : Int) (w : Nat) (t : Int) (hw : 1 ≤ w) : (List.replicate w b).set (w - 1) t = lsL b w t := by
  obtain ⟨n, rfl⟩ : ∃ n, w = n + 1 := ⟨w - 1, by omega⟩
  unfold lsL
  rw [Nat.add_sub_cancel, List.replicate_succ', List.set_append_right _ _ (by simp)]
  simp
theorem lsL_len (b : Int) (w : Nat) (t : Int) (hw : 1 ≤ w) : (lsL b w t).length = w := by unfold lsL; simp; omega
theorem lsL_ok (b : Int) (w : Nat) (t : Int) (hw : 1 ≤ w) (h8 : w ≤ 8) (hb : 2 ≤ b ∧ b ≤ 100) (ht : 2 ≤ t ∧ t ≤ 100) : okL (lsL b w t) = decide (b ^ (w - 1) * t ≤ 1000000000000) := by
  have hl := lsL_len b w t hw
  rw [okL_end (lsL b w t) (by omega) (by omega) (mem_inB (fun z hz => by
    unfold lsL at hz
    simp at hz
    rcases hz with ⟨_, rfl⟩ | rfl
    · exact hb
    · exact ht) _ (Nat.le_refl _))]
  unfold lsL
  rw [szL_snoc, szL_rep]
end Go.Proofs.Ytobephnmbpoopaa
