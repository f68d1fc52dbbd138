/- Intervals and flows, the program's: days, the way, the least and the greatest count, what is possible, which readings and flows are valid. -/
import Derived.Test.YtocaogkbnlicjaaDoorFlowM
import Derived.Test.YtocaogkbnlicjaaDoorValue
import Derived.Test.YtocaogkbnlicjaaDoorFloor
import Derived.Test.YtocaogkbnlicjaaDoorOpenR
import Derived.Deep.RegionHeld3
namespace Go.Proofs.YtocaogkbnlicjaaDoor
open Go.RowKit

/-- an interval: a reading and a later one -/
def ivV (a u b v : Int) : Value := .agg #[.int .i64 a, .int .i64 u, .int .i64 b, .int .i64 v]
theorem box4_bel (w : World) (T : TypeId) (x y z u : Value) : Below w.heap.size w (w.alloc (.cells #[x, y, z, u] T)) := (Below.refl _ w).alloc (Nat.le_refl _) _
theorem days_any (a u b v : Int) (h : -9000000000000000000 ≤ b - a ∧ b - a ≤ 9000000000000000000) (w : World) :
    Calls Tryd.prog 77 #[.agg #[.int .i64 a, .int .i64 u, .int .i64 b, .int .i64 v]] w (GivesB w (.int .i64 (b - a))) := by
  have bel := hid (box4_bel w 134 (.int .i64 a) (.int .i64 u) (.int .i64 b) (.int .i64 v))
  go_enter Tryd.func77, Tryd.ntmps77
  go_wp2
  go_ret
  exact ⟨rfl, bel.out⟩
end Go.Proofs.YtocaogkbnlicjaaDoor
