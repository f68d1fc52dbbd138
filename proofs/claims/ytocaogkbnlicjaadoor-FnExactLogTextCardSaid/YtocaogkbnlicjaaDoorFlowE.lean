/- By how much a stack has been set back, the program's. -/
import Derived.Test.YtocaogkbnlicjaaDoorFlowD
namespace Go.Proofs.YtocaogkbnlicjaaDoor
open Go.RowKit
def backR (zs : List Int) (a u b v lo hi : Int) : Int × Int :=
  if codeP zs a u b v lo hi = 0 then (backI (szL zs) (v - u) (lo * (b - a)) (hi * (b - a)), 0) else (0, codeP zs a u b v lo hi)
theorem backR_no {zs : List Int} {a u b v lo hi : Int} (h : codeP zs a u b v lo hi ≠ 0) : backR zs a u b v lo hi = (0, codeP zs a u b v lo hi) := by simp [backR, h]
theorem backR_yes {zs : List Int} {a u b v lo hi : Int} (h : codeP zs a u b v lo hi = 0) : backR zs a u b v lo hi = (backI (szL zs) (v - u) (lo * (b - a)) (hi * (b - a)), 0) := by simp [backR, h]
end Go.Proofs.YtocaogkbnlicjaaDoor
