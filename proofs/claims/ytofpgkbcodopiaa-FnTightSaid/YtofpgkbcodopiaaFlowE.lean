/- By how much a stack has been set back, the program's. -/
import Derived.Test.YtofpgkbcodopiaaFlowD
namespace Go.Proofs.Ytofpgkbcodopiaa
open Go.RowKit
def backR (zs : List Int) (a u b v lo hi : Int) : Int × Int :=
  if codeP zs a u b v lo hi = 0 then (backI (szL zs) (v - u) (lo * (b - a)) (hi * (b - a)), 0) else (0, codeP zs a u b v lo hi)
theorem backR_no {zs : List Int} {a u b v lo hi : Int} (h : codeP zs a u b v lo hi ≠ 0) : backR zs a u b v lo hi = (0, codeP zs a u b v lo hi) := by simp [backR, h]
theorem backR_yes {zs : List Int} {a u b v lo hi : Int} (h : codeP zs a u b v lo hi = 0) : backR zs a u b v lo hi = (backI (szL zs) (v - u) (lo * (b - a)) (hi * (b - a)), 0) := by simp [backR, h]
theorem floorModB_any (a c : Int) (ha : -1000000000000000000 ≤ a ∧ a ≤ 1000000000000000000) (hc : 1 ≤ c ∧ c ≤ 10000000000000000) (w : World) :
    Calls Try.prog 49 #[.int .i64 a, .int .i64 c] w (GivesB w (.int .i64 (a % c))) := (floorMod_any a c ha hc w).mono fun e w' h => ⟨h.1, by rw [← h.2]; exact Below.refl _ _⟩
end Go.Proofs.Ytofpgkbcodopiaa
