/- What stays in memory: blocks of a set, rows, owned rows. -/
import Derived.RangeFuncNested
import Derived.RangeFuncBound
import Derived.RangeFuncCalls
import Derived.RangeFuncLeaves
import Derived.RangeFuncBox
import Derived.Shelf.Abstract
import Derived.Shelf.RegionOpen
import Derived.OwnWalkIn
import Derived.TacticsInMore
import Derived.LoopNIn
import Derived.LoopIn
import Derived.Sort.CutIn
import Derived.Stop.RegionWithIn
import Derived.BigRegionIn
import Derived.Test.YtfifnngdmhdkiaaGreatDoorMgP
import Derived.Test.YtfifnngdmhdkiaaGreatDoorRoundsC
namespace Go.Proofs.YtfifnngdmhdkiaaGreatDoor
open Go.RowKit Go.Shelf
set_option linter.unusedSimpArgs false
set_option linter.unusedVariables false
/-- the blocks of a set stay as they are -/
def KeepB (S : Nat → Prop) (A B : World) : Prop := ∀ g, S g → B.heap[g]? = A.heap[g]?
theorem KeepB.refl (S : Nat → Prop) (A : World) : KeepB S A A := fun _ _ => rfl
theorem KeepB.trans {S : Nat → Prop} {A B C : World} (h : KeepB S A B) (k : KeepB S B C) : KeepB S A C := fun g hg => (k g hg).trans (h g hg)
theorem KeepB.cell {S : Nat → Prop} {A B : World} (h : KeepB S A B) {g : Nat} (hg : S g) (j : Nat) : B.cell? ⟨g, j, none⟩ = A.cell? ⟨g, j, none⟩ := World.cell?_of_block (h g hg)
theorem KeepB.of_below {S : Nat → Prop} {A B : World} {n : Nat} (h : Below n A B) (hS : ∀ g, S g → g < n) : KeepB S A B := fun g hg => h.block g (hS g hg)
theorem keepB_b {S : Nat → Prop} {w : World} (hS : ∀ g, S g → g < w.heap.size) (W : World) (l : Nat) (o o' : Obj) (hl : w.heap.size ≤ l) (_ : W.heap[l]? = some o) (_ : o.isCells = false) (_ : o.isWalk = false) : KeepB S W (W.putObj l o') :=
  fun g hg => World.putObj_heap_other (fun e => by have := hS g hg; omega)
theorem row_kept {W W' : World} {row : Option Nat} {g : Nat} {e : TypeId} {xs : List Value} (h : Row W g e xs) (hg : W.grownBy W' row) (hr : ∀ r, row = some r → ∃ o : Obj, W.heap[r]? = some o ∧ o.isCells = false) : Row W' g e xs := by
  have hne : row ≠ some g := fun e' => by
    obtain ⟨o, ho, hc⟩ := hr g e'
    rw [h] at ho
    cases ho
    simp [Obj.isCells] at hc
  exact (hg.5 g h.lt (fun e => hne e.symm)).trans h
theorem owns_kept {W W' : World} {row : Option Nat} {base size n : Nat} {e : TypeId} {v : Value} {xs : List Value} (h : W.ownsRow base e size v n xs) (hg : W.grownBy W' row) (hr : ∀ r, row = some r → ∃ o : Obj, W.heap[r]? = some o ∧ o.isCells = false) : W'.ownsRow base e size v n xs := by
  refine ⟨h.1, ?_⟩
  rcases h.2 with h0 | ⟨g, cap, cur, h1, h2, h3, h4⟩
  · exact .inl h0
  · refine .inr ⟨g, cap, cur, h1, h2, ?_, h4⟩
    have hne : some g ≠ row := fun e' => by
      obtain ⟨o, ho, hc⟩ := hr g e'.symm
      rw [h3] at ho
      cases ho
      simp [Obj.isCells] at hc
    exact (hg.5 g (lt_of_block h3) hne).trans h3
theorem owns_set {w : World} {base size n : Nat} {e : TypeId} {v : Value} {xs : List Value} (h : w.ownsRow base e size v n xs) {a : Addr} (ha : a.block < base) (u : Value) : (w.setCell a u).ownsRow base e size v n xs := by
  refine ⟨h.1, ?_⟩
  rcases h.2 with h0 | ⟨g, cap, cur, h1, h2, h3, h4⟩
  · exact .inl h0
  · exact .inr ⟨g, cap, cur, h1, h2, (Below.heap_setCell w a u g (fun e => by omega)).trans h3, h4⟩
theorem owns_lt {w : World} {base size n g : Nat} {e : TypeId} {v : Value} {xs : List Value} (h : w.ownsRow base e size v n xs) (hg : g < base) : some g ≠ v.ownBlock := fun he => by
  rcases h.2 with ⟨rfl, _⟩ | ⟨g', cap, cur, rfl, h2, h3, _⟩
  · cases he
  · have : g = g' := Option.some.inj he
    omega
theorem Row.grown' {w w' : World} {g : Nat} {e : TypeId} {xs : List Value} {o : Option Nat} (h : Row w g e xs) (hg : w.grownBy w' o) (hne : some g ≠ o) : Row w' g e xs := (hg.5 g h.lt hne).trans h
theorem keepsOthers_of {W W' : World} (h : Below W.heap.size W W') : KeepsOthers W W' :=
  ⟨h.size, fun k o hk _ => by
    have hlt : k < W.heap.size := by
      by_cases hlt : k < W.heap.size
      · exact hlt
      · rw [Array.getElem?_eq_none (Nat.le_of_not_lt hlt)] at hk; cases hk
    exact (h.block k hlt).trans hk⟩
theorem keepB_of {S : Nat → Prop} {W W' : World} (h : Below W.heap.size W W') (hS : ∀ g, S g → g < W.heap.size) : KeepB S W W' := KeepB.of_below h hS
theorem owns_belowP {w w' : World} {base size n : Nat} {e : TypeId} {v : Value} {xs : List Value} (h : w.ownsRow base e size v n xs) (hb : Below w.heap.size w w') : w'.ownsRow base e size v n xs := by
  refine ⟨h.1, ?_⟩
  rcases h.2 with h0 | ⟨g, cap, cur, h1, h2, h3, h4⟩
  · exact .inl h0
  · exact .inr ⟨g, cap, cur, h1, h2, (hb.block g (lt_of_block h3)).trans h3, h4⟩
attribute [local go_sem] Oper.semAt_some
theorem yield_two {e : Ending} {A B : Prop} (h : (e = .returned (.bool true) ∧ A) ∨ (e = .returned (.bool false) ∧ B)) : ∃ bv : Bool, e = .returned (.bool bv) ∧ (bv = true → A) ∧ (bv = false → B) := by
  rcases h with ⟨h, a⟩ | ⟨h, b⟩
  · exact ⟨true, h, fun _ => a, fun h => by cases h⟩
  · exact ⟨false, h, fun h => by (cases h), fun _ => b⟩
end Go.Proofs.YtfifnngdmhdkiaaGreatDoor
