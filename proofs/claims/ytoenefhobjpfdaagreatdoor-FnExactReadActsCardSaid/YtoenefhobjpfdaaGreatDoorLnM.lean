/- Lines, each with its newline: what is split of what is written. -/
import Derived.Test.YtoenefhobjpfdaaGreatDoorSpC
import Derived.Test.YtoenefhobjpfdaaGreatDoorRdM
namespace Go.Proofs.YtoenefhobjpfdaaGreatDoor
open Go.RowKit
set_option linter.unusedVariables false
set_option linter.unusedSimpArgs false
/-- lines, each with its newline -/
def lnT (ls : List (List UInt8)) : List UInt8 := (ls.map fun p => p ++ [10]).flatten
theorem lnT_join : ∀ ls : List (List UInt8), lnT ls = Lib.join (ls ++ [[]]) [10]
  | [] => by simp [lnT, Lib.join_one]
  | p :: r => by
    have ih := lnT_join r
    obtain ⟨q, qs, e⟩ : ∃ q qs, r ++ [[]] = q :: qs := by
      cases r with
      | nil => exact ⟨[], [], rfl⟩
      | cons a b => exact ⟨a, b ++ [[]], rfl⟩
    rw [List.cons_append, e, join_two, ← e, ← ih]
    simp [lnT]
theorem lnT_spl {ls : List (List UInt8)} (h : ∀ p ∈ ls, (10 : UInt8) ∉ p) : spl 10 (lnT ls) = ls ++ [[]] := by
  rw [lnT_join]
  refine spl_join 10 _ (by simp) (fun p hp => ?_)
  rcases List.mem_append.1 hp with hp | hp
  · exact h p hp
  · simp at hp; subst hp; simp
theorem lnT_of {ls : List (List UInt8)} {l : List UInt8} (h : spl 10 l = ls ++ [[]]) : lnT ls = l := by
  rw [lnT_join, ← h, join_spl]
/-- the program's lines: what is split into enough of them -/
theorem lnT_split {ls : List (List UInt8)} (k : Nat) (h : ∀ p ∈ ls, (10 : UInt8) ∉ p) (hk : ls.length ≤ k) : Lib.splitK [10] 0 k (lnT ls) = ls ++ [[]] := by
  rw [lnT_join]
  refine splitK_join 10 k _ (by simp) (fun p hp => ?_) (by simp; omega)
  rcases List.mem_append.1 hp with hp | hp
  · exact h p hp
  · simp at hp; subst hp; simp
/-- a text whose last line is not empty, or that has no lines of this kind -/
theorem spl_lines {l : List UInt8} (h : (spl 10 l).getLast? = some []) : ∃ ls, spl 10 l = ls ++ [[]] ∧ lnT ls = l := by
  obtain ⟨ls, e⟩ : ∃ ls, spl 10 l = ls ++ [[]] := by
    rw [List.getLast?_eq_some_iff] at h
    exact h
  exact ⟨ls, e, lnT_of e⟩
theorem lnT_inj {ls ms : List (List UInt8)} (h : ∀ p ∈ ls, (10 : UInt8) ∉ p) (k : ∀ p ∈ ms, (10 : UInt8) ∉ p) (e : lnT ls = lnT ms) : ls = ms := by
  have a := lnT_spl h
  rw [e, lnT_spl k] at a
  exact (List.append_cancel_right a).symm
theorem lnT_len : ∀ ls : List (List UInt8), ls.length ≤ (lnT ls).length
  | [] => by simp [lnT]
  | p :: r => by
    have := lnT_len r
    simp [lnT] at this ⊢
    omega
theorem lines_of {t : ByteArray} {ls : List (List UInt8)} {k : Nat} (h : ∀ p ∈ ls, (10 : UInt8) ∉ p) (hk : ls.length < k) (e : t.data.toList = lnT ls) : (Lib.splitB ⟨#[10]⟩ 0 (min k (t.size + 1) - 1) t).map (·.data.toList) = ls ++ [[]] := by
  have hsz : t.data.toList.length = t.size := by rw [Array.length_toList]; rfl
  have hl := lnT_len ls
  rw [← e, hsz] at hl
  rw [Lib.splitB_data, e]
  exact lnT_split _ h (by omega)
end Go.Proofs.YtoenefhobjpfdaaGreatDoor
