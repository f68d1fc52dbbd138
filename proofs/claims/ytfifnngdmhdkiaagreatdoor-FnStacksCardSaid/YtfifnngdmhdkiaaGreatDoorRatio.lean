/- Ratios: common divisors, ratios without them, which are valid; of the program and of the model. -/
import Derived.Test.YtfifnngdmhdkiaaGreatDoorMgP
import Derived.Test.YtfifnngdmhdkiaaGreatDoorGcd
import Derived.RegionTactic
import Derived.Deep.RegionWith
import Derived.Deep.RegionHeld3
import Derived.OrdersHeld
namespace Go.Proofs.YtfifnngdmhdkiaaGreatDoor
open Go.RowKit

def QuietR (w : World) (v : Value) (e : Ending) (w' : World) : Prop := e = .returned v ∧ ∃ d, w' = w.drewN d
theorem gcd_step (m n : Int) (hm : 0 ≤ m) (hn : 1 ≤ n) : ∃ r, m.tmod n = r ∧ 0 ≤ r ∧ r < n ∧ r ≤ m ∧ gcdI n r = gcdI m n := by
  refine ⟨m % n, Int.tmod_eq_emod_of_nonneg hm, Int.emod_nonneg _ (by omega), Int.emod_lt_of_pos _ (by omega), ?_, gcdI_flip m n hm (by omega)⟩
  have e := Int.mul_ediv_add_emod m n
  have q := Int.ediv_nonneg hm (show 0 ≤ n by omega)
  have := Int.mul_nonneg (show 0 ≤ n by omega) q
  omega
/-- a value is returned, and what was there before is as it was -/
def GivesB (w : World) (v : Value) (e : Ending) (w' : World) : Prop := e = .returned v ∧ Below w.heap.size w w'
theorem Row.drewN {w : World} {g : Nat} {e : TypeId} {xs : List Value} (h : Row w g e xs) (d : Nat) : Row (w.drewN d) g e xs := h
/-- a fresh pair of numbers into which two have been stored -/
theorem pair_stored (w : World) (T : TypeId) (a b x y : Value) (d : Nat) : ∀ W, W = ((((w.alloc (.cells #[a, b] T)).drewN d).setCell ⟨w.heap.size, 0, none⟩ x).setCell ⟨w.heap.size, 1, none⟩ y) →
    Row W w.heap.size T [x, y] ∧ Below w.heap.size w W ∧ W.heap.size = w.heap.size + 1 := by
  rintro W rfl
  have bel : Below w.heap.size w (w.alloc (.cells #[a, b] T)) := (Below.refl _ w).alloc (Nat.le_refl _) _
  refine ⟨(((Row.new w T [a, b]).drewN d).set 0 x).set 1 y, ((below_drewN bel d).setCell (p := ⟨w.heap.size, 0, none⟩) (Nat.le_refl _) x).setCell (p := ⟨w.heap.size, 1, none⟩) (Nat.le_refl _) y, by simp⟩
def I64 (n : Int) : Prop := -9223372036854775808 ≤ n ∧ n ≤ 9223372036854775807
theorem box2_bel (w : World) (T : TypeId) (x y : Value) : Below w.heap.size w (w.alloc (.cells #[x, y] T)) := (Below.refl _ w).alloc (Nat.le_refl _) _
end Go.Proofs.YtfifnngdmhdkiaaGreatDoor
