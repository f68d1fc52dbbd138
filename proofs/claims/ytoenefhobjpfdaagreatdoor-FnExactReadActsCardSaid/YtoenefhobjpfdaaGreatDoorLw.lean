/- What the library's readers of numbers read of the program's variables. -/
import Derived.Test.YtoenefhobjpfdaaGreatDoorTxG
import Derived.WalkSmall
namespace Go.Proofs.YtoenefhobjpfdaaGreatDoor
open Go.RowKit Go.Shelf
set_option linter.unusedVariables false
/-- the library's variables that are read -/
def LV (w : World) (tS : TypeId) (pS : Value) (tR : TypeId) (pR : Value) (m : Int) : Prop :=
  (w.var? Tryz.prog "strconv.ErrSyntax" = some #[.iface tS pS] ∧ 3 < w.heap.size) ∧ (w.var? Tryz.prog "strconv.ErrRange" = some #[.iface tR pR] ∧ 4 < w.heap.size) ∧ (w.cell? ⟨2, 0, none⟩ = some (.int .i64 m) ∧ 2 < w.heap.size)
theorem LV.below {w w' : World} {tS tR : TypeId} {pS pR : Value} {m : Int} {n : Nat} (h : LV w tS pS tR pR m) (hb : Below n w w') (hn : w.heap.size ≤ n) : LV w' tS pS tR pR m :=
  ⟨⟨var?_below hb (by kernel_rfl) (Nat.lt_of_lt_of_le h.1.2 hn) h.1.1, Nat.lt_of_lt_of_le h.1.2 hb.size⟩, ⟨var?_below hb (by kernel_rfl) (Nat.lt_of_lt_of_le h.2.1.2 hn) h.2.1.1, Nat.lt_of_lt_of_le h.2.1.2 hb.size⟩, ⟨(hb.cell (p := ⟨2, 0, none⟩) (Nat.lt_of_lt_of_le h.2.2.2 hn)).trans h.2.2.1, Nat.lt_of_lt_of_le h.2.2.2 hb.size⟩⟩
/-- the variables of the library, the table too -/
def LW (w : World) (tS : TypeId) (pS : Value) (tR : TypeId) (pR : Value) (m : Int) : Prop := LV w tS pS tR pR m ∧ Lib.TabIs Tryz.prog w "internal/strconv.uint64pow10" .u64 Lib.pow10Tab ∧ 7 < w.heap.size
theorem LW.below {w w' : World} {tS tR : TypeId} {pS pR : Value} {m : Int} {n : Nat} (h : LW w tS pS tR pR m) (hb : Below n w w') (hn : w.heap.size ≤ n) : LW w' tS pS tR pR m :=
  ⟨h.1.below hb hn, var?_below hb (by kernel_rfl) (Nat.lt_of_lt_of_le h.2.2 hn) h.2.1, Nat.lt_of_lt_of_le h.2.2 hb.size⟩
end Go.Proofs.YtoenefhobjpfdaaGreatDoor
