/- DigitsText, StackText: the model's fronts, and the program's StackText. -/
import Derived.Test.YtcbhlljgcndhdaaGreatDoorTxE
import Derived.WalkSmall
namespace Go.Proofs.YtcbhlljgcndhdaaGreatDoor
open Go.RowKit Go.Shelf
set_option linter.unusedVariables false
set_option linter.unusedSimpArgs false
def txS (zs : List Int) : List UInt8 := if okL zs then txT zs (fun _ => 1) else []
theorem txS_no {zs : List Int} (h : okL zs = false) : txS zs = [] := by simp [txS, h]
theorem txS_yes {zs : List Int} (h : okL zs = true) : txS zs = txT zs (fun _ => 1) := by simp [txS, h]
theorem tab_below {W W' : World} {B : Nat} (h : Lib.TabIs Tryz.prog W "internal/strconv.uint64pow10" .u64 Lib.pow10Tab) (hb : Below B W W') (hB : 3 < B) : Lib.TabIs Tryz.prog W' "internal/strconv.uint64pow10" .u64 Lib.pow10Tab := var?_below hb (by kernel_rfl) hB h
end Go.Proofs.YtcbhlljgcndhdaaGreatDoor
