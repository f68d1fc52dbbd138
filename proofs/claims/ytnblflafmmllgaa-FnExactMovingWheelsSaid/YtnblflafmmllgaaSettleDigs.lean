/- settle at impl.Digits. -/
import Derived.Test.YtnblflafmmllgaaTeeth
namespace Go.Proofs.Ytnblflafmmllgaa
open Go.RowKit
end Go.Proofs.Ytnblflafmmllgaa
