/- An error with a code, or none. -/
import Derived.Test.YtihadhbgkjbkeaaDoorAs
namespace Go.Proofs.YtihadhbgkjbkeaaDoor
open Go.RowKit
set_option linter.unusedVariables false
/-- an error with a code, or none -/
def errV (c : Int) : Value := if c = 0 then .nilIface else .iface 48 (.int .i64 c)
theorem errV_nil : errV 0 = .nilIface := rfl
theorem errV_some {c : Int} (h : c ≠ 0) : errV c = .iface 48 (.int .i64 c) := by rw [errV, if_neg h]
theorem codeOf_any (c : Int) (w : World) (hg : GV w) : Calls Tryd.prog 12 #[errV c] w fun e w' => e = .returned (.int .i64 c) ∧ Below w.heap.size w w' := by
  by_cases h : c = 0
  · subst h
    exact codeOf_nil w
  · rw [errV_some h]
    exact codeOf_hit c w hg
end Go.Proofs.YtihadhbgkjbkeaaDoor
