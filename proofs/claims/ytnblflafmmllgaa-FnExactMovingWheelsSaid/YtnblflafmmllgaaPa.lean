/- PartsAt: the program's. -/
import Derived.Test.YtnblflafmmllgaaPartsS
import Derived.Test.YtnblflafmmllgaaSettleParts
import Derived.Test.YtnblflafmmllgaaOfS
import Derived.OrdersHeld
namespace Go.Proofs.Ytnblflafmmllgaa
open Go.RowKit
end Go.Proofs.Ytnblflafmmllgaa
