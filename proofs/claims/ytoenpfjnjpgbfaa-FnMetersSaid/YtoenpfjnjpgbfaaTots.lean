/- Totals: slices of structs of two numbers, copied, compared. -/
import Derived.Test.YtoenpfjnjpgbfaaReads
namespace Go.Proofs.Ytoenpfjnjpgbfaa
open Go.RowKit Go.ChangeShapes Go.WideShapes Go.ChangeAt
end Go.Proofs.Ytoenpfjnjpgbfaa
