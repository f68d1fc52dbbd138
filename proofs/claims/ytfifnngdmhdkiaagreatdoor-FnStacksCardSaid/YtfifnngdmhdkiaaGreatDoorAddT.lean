/- AddTo: the model's answers, whole. -/
import Derived.Test.YtfifnngdmhdkiaaGreatDoorAddS
import Derived.Test.YtfifnngdmhdkiaaGreatDoorMgP
namespace Go.Proofs.YtfifnngdmhdkiaaGreatDoor
open Go.RowKit
end Go.Proofs.YtfifnngdmhdkiaaGreatDoor
