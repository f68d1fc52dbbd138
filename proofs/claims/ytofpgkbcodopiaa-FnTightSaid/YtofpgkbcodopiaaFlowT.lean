/- Counts between two readings, their rounds, and by how much a stack has been set back; the model's. -/
import Derived.Test.YtofpgkbcodopiaaFlowS
namespace Go.Proofs.Ytofpgkbcodopiaa
open Go.RowKit
theorem cnt3_yes {z way low high : Int} (hz : 1 ≤ z) (h : posI z way low high = true) : cnt3 z way low high = .tuple #[.int .i64 (lstI z way low), .int .i64 (gstI z way high), .bool true] := by
  rw [pos_iff z way low high hz] at h
  unfold cnt3
  rw [if_pos (of_decide_eq_true h)]
theorem cnt3_no {z way low high : Int} (hz : 1 ≤ z) (h : posI z way low high = false) : cnt3 z way low high = .tuple #[.int .i64 0, .int .i64 0, .bool false] := by
  rw [pos_iff z way low high hz] at h
  unfold cnt3
  rw [if_neg (of_decide_eq_false h)]
end Go.Proofs.Ytofpgkbcodopiaa
