/- The readings that a step back, or a suspect step, leads to; the model's. -/
import Derived.Test.YtofpgkbcodopiaaEnds
import Derived.Test.YtofpgkbcodopiaaValGS
import Derived.Test.YtofpgkbcodopiaaFlowT
import Derived.BigQuiet
namespace Go.Proofs.Ytofpgkbcodopiaa
open Go.RowKit
set_option linter.unusedSimpArgs false
def endsR (zs : List Int) (js : List (Int × Int)) (ok : Bool) (P : Nat → Bool) : List Int × Int := if okG zs js && ok then (endsP P (List.finRange (js.length - 1)), 0) else ([], 1)
theorem endsR_log {zs : List Int} {js : List (Int × Int)} {ok : Bool} {P : Nat → Bool} (h : okG zs js = false) : endsR zs js ok P = ([], 1) := by simp [endsR, h]
theorem endsR_no {zs : List Int} {js : List (Int × Int)} {P : Nat → Bool} : endsR zs js false P = ([], 1) := by simp [endsR]
theorem endsR_yes {zs : List Int} {js : List (Int × Int)} {P : Nat → Bool} (h : okG zs js = true) : endsR zs js true P = (endsP P (List.finRange (js.length - 1)), 0) := by simp [endsR, h]
/-- a list in memory of its own, and a code -/
def ListR (w : World) (r : List Int × Int) (e : Ending) (w' : World) : Prop := ∃ v, e = .returned (.tuple #[v, .int .i64 r.2]) ∧ OwnI w' w.heap.size v r.1 ∧ Below w.heap.size w w'
def backP (js : List (Int × Int)) (k : Nat) : Bool := decide (rv js (k + 1) < rv js k)
def suspP (z : Int) (js : List (Int × Int)) (lo hi : Int) (k : Nat) : Bool := !posI z (rv js (k + 1) - rv js k) (lo * (rd js (k + 1) - rd js k)) (hi * (rd js (k + 1) - rd js k))
end Go.Proofs.Ytofpgkbcodopiaa
