/- PartsAt: the program's. -/
import Derived.Test.YtomhmkdfhhmenaaPartsS
import Derived.Test.YtomhmkdfhhmenaaSettleParts
import Derived.Test.YtomhmkdfhhmenaaOfS
import Derived.OrdersHeld
namespace Go.Proofs.Ytomhmkdfhhmenaa
open Go.RowKit
end Go.Proofs.Ytomhmkdfhhmenaa
