/- Rows of eight bytes. -/
import Derived.Test.YtfifnngdmhdkiaaGreatDoorMgP
namespace Go.Proofs.YtfifnngdmhdkiaaGreatDoor
open Go.RowKit Go.Shelf

theorem Row.set8 {w : World} {g : Nat} {e : TypeId} {xs : List Value} (h : Row w g e xs) (hl : xs.length = 8) (v0 v1 v2 v3 v4 v5 v6 v7 : Value) :
    Row ((((((((w.setCell ⟨g, 0, none⟩ v0).setCell ⟨g, 1, none⟩ v1).setCell ⟨g, 2, none⟩ v2).setCell ⟨g, 3, none⟩ v3).setCell ⟨g, 4, none⟩ v4).setCell ⟨g, 5, none⟩ v5).setCell ⟨g, 6, none⟩ v6).setCell ⟨g, 7, none⟩ v7) g e [v0, v1, v2, v3, v4, v5, v6, v7] := by
  have r := (((((((h.set 0 v0).set 1 v1).set 2 v2).set 3 v3).set 4 v4).set 5 v5).set 6 v6).set 7 v7
  match xs, hl with
  | [_, _, _, _, _, _, _, _], _ => exact r
theorem below_set8 {w w0 : World} {g n : Nat} (h : Below n w0 w) (hn : n ≤ g) (v0 v1 v2 v3 v4 v5 v6 v7 : Value) : Below n w0 ((((((((w.setCell ⟨g, 0, none⟩ v0).setCell ⟨g, 1, none⟩ v1).setCell ⟨g, 2, none⟩ v2).setCell ⟨g, 3, none⟩ v3).setCell ⟨g, 4, none⟩ v4).setCell ⟨g, 5, none⟩ v5).setCell ⟨g, 6, none⟩ v6).setCell ⟨g, 7, none⟩ v7) :=
  (((((((h.setCell (p := ⟨g, 0, none⟩) hn v0).setCell (p := ⟨g, 1, none⟩) hn v1).setCell (p := ⟨g, 2, none⟩) hn v2).setCell (p := ⟨g, 3, none⟩) hn v3).setCell (p := ⟨g, 4, none⟩) hn v4).setCell (p := ⟨g, 5, none⟩) hn v5).setCell (p := ⟨g, 6, none⟩) hn v6).setCell (p := ⟨g, 7, none⟩) hn v7
theorem heap_set8 {g : Nat} (w : World) (D : Nat) (hD : D ≠ g) (v0 v1 v2 v3 v4 v5 v6 v7 : Value) : ((((((((w.setCell ⟨g, 0, none⟩ v0).setCell ⟨g, 1, none⟩ v1).setCell ⟨g, 2, none⟩ v2).setCell ⟨g, 3, none⟩ v3).setCell ⟨g, 4, none⟩ v4).setCell ⟨g, 5, none⟩ v5).setCell ⟨g, 6, none⟩ v6).setCell ⟨g, 7, none⟩ v7).heap[D]? = w.heap[D]? := by
  rw [Below.heap_setCell _ _ _ _ hD, Below.heap_setCell _ _ _ _ hD, Below.heap_setCell _ _ _ _ hD, Below.heap_setCell _ _ _ _ hD, Below.heap_setCell _ _ _ _ hD, Below.heap_setCell _ _ _ _ hD, Below.heap_setCell _ _ _ _ hD, Below.heap_setCell _ _ _ _ hD]
end Go.Proofs.YtfifnngdmhdkiaaGreatDoor
