/- The readings that a suspect step leads to; the model's. -/
import Derived.Test.YtofpgkbcodopiaaEndsI
namespace Go.Proofs.Ytofpgkbcodopiaa
open Go.RowKit
set_option linter.unusedSimpArgs false
def askG (zs : List Int) (js : List (Int × Int)) (ok : Bool) : Int := if okG zs js && ok then 0 else 1
end Go.Proofs.Ytofpgkbcodopiaa
