/- SameLog: the program's and the model's, and the law's walk. -/
import Derived.Test.YtkdndejfdlbcbaaDoorReads
import Derived.Test.YtkdndejfdlbcbaaDoorRatio
import Derived.Deep.QuietTactic
import Derived.OwnWalk
import Derived.Laws.StructEq
namespace Go.Proofs.YtkdndejfdlbcbaaDoor
open Go.RowKit
def samG (js ks : List (Int × Int)) : Bool := decide (js.length = ks.length) && (List.range js.length).all fun j => decide (rd js j = rd ks j ∧ rv js j = rv ks j)
def samGo (js ks : List (Int × Int)) (k : Nat) : Prop := ∀ j, j < k → rd js j = rd ks j ∧ rv js j = rv ks j
theorem samG_len {js ks : List (Int × Int)} (h : js.length ≠ ks.length) : samG js ks = false := by simp [samG, h]
theorem samG_yes {js ks : List (Int × Int)} (h : js.length = ks.length) (k : samGo js ks js.length) : samG js ks = true := by
  simp only [samG, Bool.and_eq_true, decide_eq_true_eq, List.all_eq_true, List.mem_range]
  exact ⟨h, fun j hj => k j hj⟩
theorem samG_bad {js ks : List (Int × Int)} (k : Nat) (hk : k < js.length) (h : ¬ (rd js k = rd ks k ∧ rv js k = rv ks k)) : samG js ks = false := by
  cases e : samG js ks with
  | false => rfl
  | true =>
    simp only [samG, Bool.and_eq_true, decide_eq_true_eq, List.all_eq_true, List.mem_range] at e
    exact absurd (e.2 k hk) h
theorem samGo_succ {js ks : List (Int × Int)} {k : Nat} (h : samGo js ks k) (e : rd js k = rd ks k ∧ rv js k = rv ks k) : samGo js ks (k + 1) := fun j hj => by
  by_cases he : j = k
  · subst he; exact e
  · exact h j (by omega)
end Go.Proofs.YtkdndejfdlbcbaaDoor
