/- Two stacks held against each other. -/
import Derived.Test.YtilbpgcgjbblaaaBase
namespace Go.Proofs.Ytilbpgcgjbblaaa
open Go.RowKit
/-! two stacks held against each other -/
def sameL (xs ys : List Int) : Bool := decide (xs = ys)
theorem sameL_len {xs ys : List Int} (h : xs.length ≠ ys.length) : sameL xs ys = false := by
  simp only [sameL, decide_eq_false_iff_not]; intro e; exact h (by rw [e])
theorem sameL_at {xs ys : List Int} (k : Nat) (h : xs[k]?.getD 0 ≠ ys[k]?.getD 0) : sameL xs ys = false := by
  simp only [sameL, decide_eq_false_iff_not]; intro e; exact h (by rw [e])
theorem sameL_all {xs ys : List Int} (hl : xs.length = ys.length) (h : ∀ j, j < xs.length → xs[j]?.getD 0 = ys[j]?.getD 0) : sameL xs ys = true := by
  simp only [sameL, decide_eq_true_eq]
  apply List.ext_getElem hl
  intro i h1 h2
  have := h i h1
  simpa [h1, h2] using this
def sameTo (xs ys : List Int) (k : Nat) : Prop := ∀ j, j < k → xs[j]?.getD 0 = ys[j]?.getD 0
theorem sameTo_succ {xs ys : List Int} {k : Nat} (h : sameTo xs ys k) (e : xs[k]?.getD 0 = ys[k]?.getD 0) : sameTo xs ys (k + 1) := fun j hj => by
  by_cases h' : j = k
  · rw [h']; exact e
  · exact h j (by omega)
end Go.Proofs.Ytilbpgcgjbblaaa
