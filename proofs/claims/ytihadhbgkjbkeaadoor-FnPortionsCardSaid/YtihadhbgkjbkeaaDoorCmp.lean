/- A comparison that is not less, or not greater. -/
import Derived.Test.YtihadhbgkjbkeaaDoorCompare
namespace Go.Proofs.YtihadhbgkjbkeaaDoor
open Go.RowKit
theorem cmp3_ge {a b : Int} (h : ¬ a < b) : 0 ≤ cmp3 a b := by
  unfold cmp3
  rw [if_neg h]
  split <;> omega
theorem cmp3_le {a b : Int} (h : ¬ b < a) : cmp3 a b ≤ 0 := by
  unfold cmp3
  rw [if_neg h]
  split <;> omega
end Go.Proofs.YtihadhbgkjbkeaaDoor
