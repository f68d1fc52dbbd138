/- MovingWheels: the model's. -/
import Derived.Test.YtomhmkdfhhmenaaMwI
namespace Go.Proofs.Ytomhmkdfhhmenaa
open Go.RowKit
set_option linter.unusedVariables false
set_option linter.unusedSimpArgs false
theorem map_dg (es : List Int) (k : Nat) (hk : k < es.length) : (es.map (Value.int .i64))[k]? = some (.int .i64 (dg es k)) := by simp [dg, hk]
end Go.Proofs.Ytomhmkdfhhmenaa
