/- MakeRatio: the program's and the model's, and its law. -/
import Derived.Test.YtkdndejfdlbcbaaDoorRatio
namespace Go.Proofs.YtkdndejfdlbcbaaDoor
open Go.RowKit

def madeR (p q : Int) : (Int × Int) × Int := if okR (redP p q) (redQ p q) then ((redP p q, redQ p q), 0) else ((0, 0), 3)
theorem madeR_yes {p q : Int} (h : okR (redP p q) (redQ p q) = true) : madeR p q = ((redP p q, redQ p q), 0) := by simp [madeR, h]
theorem madeR_no {p q : Int} (h : okR (redP p q) (redQ p q) = false) : madeR p q = ((0, 0), 3) := by simp [madeR, h]
def pairV (r : (Int × Int) × Int) : Value := .tuple #[.agg #[.int .i64 r.1.1, .int .i64 r.1.2], .int .i64 r.2]
/-- two stores into a pair that was there -/
theorem pair_again {w : World} {g : Nat} {T : TypeId} {a b : Value} (x y : Value) (h : Row w g T [a, b]) : ∀ W, W = (w.setCell ⟨g, 0, none⟩ x).setCell ⟨g, 1, none⟩ y → Row W g T [x, y] ∧ (∀ k, k ≤ g → Below k w W) ∧ W.heap.size = w.heap.size := by
  rintro W rfl
  exact ⟨(h.set 0 x).set 1 y, fun k hk => ((Below.refl _ w).setCell (p := ⟨g, 0, none⟩) hk x).setCell (p := ⟨g, 1, none⟩) hk y, by simp⟩
/-- two fresh boxes -/
theorem two_boxes (w : World) (T : TypeId) (a b x y : Value) (d : Nat) : ∀ W, W = (((w.alloc (.cells #[a, b] T)).alloc (.cells #[x, y] T)).drewN d) →
    Row W w.heap.size T [a, b] ∧ Row W (w.heap.size + 1) T [x, y] ∧ Below w.heap.size w W ∧ W.heap.size = w.heap.size + 1 + 1 := by
  rintro W rfl
  have h := Row.new (w.alloc (.cells #[a, b] T)) T [x, y]
  simp only [World.size_alloc] at h
  exact ⟨((Row.new w T [a, b]).alloc _).drewN d, h.drewN d, below_drewN ((box2_bel w T a b).alloc (by simp) _) d, by simp⟩
def makeR (p q : Int) : (Int × Int) × Int := if p < 1 ∨ q < 1 then ((0, 0), 2) else madeR p q
theorem makeR_no {p q : Int} (h : p < 1 ∨ q < 1) : makeR p q = ((0, 0), 2) := by simp [makeR, h]
theorem makeR_yes {p q : Int} (h1 : 1 ≤ p) (h2 : 1 ≤ q) : makeR p q = madeR p q := by rw [makeR, if_neg (by omega)]
theorem nilpair_new (w : World) (T : TypeId) (a b : Value) : Row (w.alloc (.cells #[a, b] T)) w.heap.size T [a, b] := Row.new w T [a, b]
end Go.Proofs.YtkdndejfdlbcbaaDoor
