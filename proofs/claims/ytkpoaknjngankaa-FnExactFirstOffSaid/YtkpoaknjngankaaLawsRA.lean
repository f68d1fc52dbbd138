/- The walks of laws over a train: RatioOf, DrivenCount. -/
import Derived.Test.YtkpoaknjngankaaDriven
import Derived.Test.YtkpoaknjngankaaLawsTO
namespace Go.Proofs.Ytkpoaknjngankaa
open Go.RowKit
end Go.Proofs.Ytkpoaknjngankaa
