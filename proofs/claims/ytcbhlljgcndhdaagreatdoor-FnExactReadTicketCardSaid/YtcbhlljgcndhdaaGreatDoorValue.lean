/- The functions that range over a stack's wheels: cycle, size, value. -/
import Derived.Deep.RegionHeld3
import Derived.Test.YtcbhlljgcndhdaaGreatDoorPlaces
import Derived.Test.YtcbhlljgcndhdaaGreatDoorDigits
namespace Go.Proofs.YtcbhlljgcndhdaaGreatDoor
open Go.RowKit Go.Shelf
attribute [local go_sem] Oper.semAt_some
theorem cell_far {W : World} {a p : Addr} {u : Value} (h : p.block ≠ a.block) : (W.setCell a u).cell? p = W.cell? p := World.cell?_of_block (Below.heap_setCell W a u p.block h)
theorem oct_get (d0 d1 d2 d3 d4 d5 d6 d7 : Int) (k : Nat) (hk : k < 8) : ([Value.int .u8 d0, .int .u8 d1, .int .u8 d2, .int .u8 d3, .int .u8 d4, .int .u8 d5, .int .u8 d6, .int .u8 d7] : List Value)[k]? = some (.int .u8 (([d0, d1, d2, d3, d4, d5, d6, d7] : List Int)[k]?.getD 0)) := by
  have h : k = 0 ∨ k = 1 ∨ k = 2 ∨ k = 3 ∨ k = 4 ∨ k = 5 ∨ k = 6 ∨ k = 7 := by omega
  rcases h with rfl | rfl | rfl | rfl | rfl | rfl | rfl | rfl <;> rfl

end Go.Proofs.YtcbhlljgcndhdaaGreatDoor
