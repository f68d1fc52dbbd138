/- What a result box holds, whenever it was laid. -/
import Derived.Test.YtemgfbpjhidaeaaSet
import Derived.Test.YtemgfbpjhidaeaaLawsD
import Derived.Deep.DeepCutAuto
import Derived.Deep.RegionHeld3
namespace Go.Proofs.Ytemgfbpjhidaeaa
open Go.RowKit
theorem Row.oc {w : World} {g : Nat} {e : TypeId} {d0 d1 d2 d3 d4 d5 d6 d7 : Int} (h : Row w g e [.int .u8 d0, .int .u8 d1, .int .u8 d2, .int .u8 d3, .int .u8 d4, .int .u8 d5, .int .u8 d6, .int .u8 d7]) : Oc w g d0 d1 d2 d3 d4 d5 d6 d7 :=
  ⟨h.cell 0, h.cell 1, h.cell 2, h.cell 3, h.cell 4, h.cell 5, h.cell 6, h.cell 7⟩
end Go.Proofs.Ytemgfbpjhidaeaa
