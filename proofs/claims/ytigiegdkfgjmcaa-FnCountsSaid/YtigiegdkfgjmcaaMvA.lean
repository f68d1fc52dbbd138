/- What AddTo is made of: the range of a count, the model's rounding down. -/
import Derived.Test.YtigiegdkfgjmcaaAdd
import Derived.Test.YtigiegdkfgjmcaaFloor
import Derived.Test.YtigiegdkfgjmcaaValid
namespace Go.Proofs.Ytigiegdkfgjmcaa
open Go.RowKit

end Go.Proofs.Ytigiegdkfgjmcaa
