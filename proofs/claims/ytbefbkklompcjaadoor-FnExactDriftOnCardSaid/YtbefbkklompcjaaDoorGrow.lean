/- What grows from day to day; the list that a call makes of it. -/
import Derived.Test.YtbefbkklompcjaaDoorMetC
import Derived.Test.YtbefbkklompcjaaDoorTerms
namespace Go.Proofs.YtbefbkklompcjaaDoor
open Go.RowKit
set_option linter.unusedVariables false
def grL (f : Int → Int) (low : Int) (k : Nat) : List Int := (List.range k).map fun (j : Nat) => f (low + j + 1) - f (low + j)
theorem grL_len (f : Int → Int) (low : Int) (k : Nat) : (grL f low k).length = k := by simp [grL]
theorem grL_succ (f : Int → Int) (low : Int) (k : Nat) : grL f low (k + 1) = grL f low k ++ [f (low + k + 1) - f (low + k)] := by simp [grL, List.range_succ]
def GrowR (w : World) (zs : List Int) (e : Ending) (w' : World) : Prop := ∃ v, e = .returned v ∧ OwnI w' w.heap.size v zs ∧ Below w.heap.size w w'
end Go.Proofs.YtbefbkklompcjaaDoor
