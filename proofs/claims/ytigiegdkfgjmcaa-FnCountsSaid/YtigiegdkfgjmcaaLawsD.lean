/- The walks of laws over a stack and digits. -/
import Derived.Test.YtigiegdkfgjmcaaDigits
import Derived.Deep.RegionHeld3
namespace Go.Proofs.Ytigiegdkfgjmcaa
open Go.RowKit

/-- eight bytes lie from the head of a block on -/
def Oc (w : World) (g : Nat) (d0 d1 d2 d3 d4 d5 d6 d7 : Int) : Prop :=
  w.cell? ⟨g, 0, none⟩ = some (.int .u8 d0) ∧ w.cell? ⟨g, 1, none⟩ = some (.int .u8 d1) ∧ w.cell? ⟨g, 2, none⟩ = some (.int .u8 d2) ∧ w.cell? ⟨g, 3, none⟩ = some (.int .u8 d3) ∧ w.cell? ⟨g, 4, none⟩ = some (.int .u8 d4) ∧ w.cell? ⟨g, 5, none⟩ = some (.int .u8 d5) ∧ w.cell? ⟨g, 6, none⟩ = some (.int .u8 d6) ∧ w.cell? ⟨g, 7, none⟩ = some (.int .u8 d7)
theorem Oc.below {w w' : World} {g n : Nat} {d0 d1 d2 d3 d4 d5 d6 d7 : Int} (h : Oc w g d0 d1 d2 d3 d4 d5 d6 d7) (hb : Below n w w') (hn : g < n) : Oc w' g d0 d1 d2 d3 d4 d5 d6 d7 :=
  ⟨(hb.cell (p := ⟨g, 0, none⟩) hn).trans h.1, (hb.cell (p := ⟨g, 1, none⟩) hn).trans h.2.1, (hb.cell (p := ⟨g, 2, none⟩) hn).trans h.2.2.1, (hb.cell (p := ⟨g, 3, none⟩) hn).trans h.2.2.2.1,
   (hb.cell (p := ⟨g, 4, none⟩) hn).trans h.2.2.2.2.1, (hb.cell (p := ⟨g, 5, none⟩) hn).trans h.2.2.2.2.2.1, (hb.cell (p := ⟨g, 6, none⟩) hn).trans h.2.2.2.2.2.2.1, (hb.cell (p := ⟨g, 7, none⟩) hn).trans h.2.2.2.2.2.2.2⟩
theorem Oc.new (w : World) (t : TypeId) (d0 d1 d2 d3 d4 d5 d6 d7 : Int) : Oc (w.alloc (.cells #[.int .u8 d0, .int .u8 d1, .int .u8 d2, .int .u8 d3, .int .u8 d4, .int .u8 d5, .int .u8 d6, .int .u8 d7] t)) w.heap.size d0 d1 d2 d3 d4 d5 d6 d7 := by
  have h := (Row.new w t [.int .u8 d0, .int .u8 d1, .int .u8 d2, .int .u8 d3, .int .u8 d4, .int .u8 d5, .int .u8 d6, .int .u8 d7]).cell
  exact ⟨h 0, h 1, h 2, h 3, h 4, h 5, h 6, h 7⟩

end Go.Proofs.Ytigiegdkfgjmcaa
