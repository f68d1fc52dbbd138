/- Numbers of other types as texts. -/
import Derived.Test.YtfifnngdmhdkiaaGreatDoorTxA
import Derived.WalkSmall
namespace Go.Proofs.YtfifnngdmhdkiaaGreatDoor
open Go.RowKit
end Go.Proofs.YtfifnngdmhdkiaaGreatDoor
