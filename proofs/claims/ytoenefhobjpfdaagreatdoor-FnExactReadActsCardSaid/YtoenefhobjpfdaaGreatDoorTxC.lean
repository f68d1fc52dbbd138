/- The texts of numbers, the last one first; the program's. -/
import Derived.Test.YtoenefhobjpfdaaGreatDoorTxB
import Derived.Lib.Join
namespace Go.Proofs.YtoenefhobjpfdaaGreatDoor
open Go.RowKit Go.Shelf
set_option linter.unusedVariables false
set_option linter.unusedSimpArgs false
/-- the text of the wheel j, at a width of its own -/
def txP (zs : List Int) (wd : Nat → Nat) (j : Nat) : List UInt8 := padZ (wd j) (Lib.itoa (ug zs j))
def txL {n : Nat} (zs : List Int) (wd : Nat → Nat) (pre : List (Fin n)) : List ByteArray := pre.map fun x => ⟨(txP zs wd (n - 1 - x.1)).toArray⟩
def txT (zs : List Int) (wd : Nat → Nat) : List UInt8 := Lib.join ((txL zs wd (List.finRange zs.length)).map (·.data.toList)) [58]
theorem owns_ne {w : World} {base size n g : Nat} {e e' : TypeId} {v : Value} {xs ys : List Value} (h : w.ownsRow base e size v n xs) (hr : Row w g e' ys) (hne : e ≠ e') : some g ≠ v.ownBlock := fun he => by
  rcases h.2 with ⟨rfl, _⟩ | ⟨g', cap, cur, rfl, h2, h3, _⟩
  · cases he
  · have : g = g' := Option.some.inj he
    subst this
    rw [hr] at h3
    simp only [Option.some.injEq, Obj.cells.injEq] at h3
    exact hne h3.2.1.symm
section
attribute [local go_sem] Oper.semAt_some
theorem owns_other {w : World} {base size n g : Nat} {e e' : TypeId} {v : Value} {xs ys : List Value} (h : w.ownsRow base e size v n xs) (hr : Row w g e' ys) (hne : e ≠ e') (u : Value) : (w.setCell ⟨g, 0, none⟩ u).ownsRow base e size v n xs := by
  have hn := owns_ne h hr hne
  refine ⟨h.1, ?_⟩
  rcases h.2 with h0 | ⟨g', cap, cur, rfl, h2, h3, h4⟩
  · exact .inl h0
  · exact .inr ⟨g', cap, cur, rfl, h2, (Below.heap_setCell w ⟨g, 0, none⟩ u g' (fun e => hn (congrArg some e.symm))).trans h3, h4⟩
theorem own_cap {w : World} {base n g cap k : Nat} {e : TypeId} {xs : List Value} (h : w.ownsRow base e 1 (.slice (some ⟨g, 0, none⟩) k cap) n xs) : n ≤ cap := by
  rcases h.2 with ⟨h', _⟩ | ⟨g', cap', cur, h', hb, hg, hnc, _⟩
  · simp at h'
  · simp only [Value.slice.injEq, Option.some.injEq, Addr.mk.injEq, and_true, true_and] at h'
    obtain ⟨_, _, rfl⟩ := h'
    exact hnc
theorem own_cells {w : World} {base n g cap k : Nat} {e : TypeId} {ss : List ByteArray} (h : w.ownsRow base e 1 (.slice (some ⟨g, 0, none⟩) k cap) n (ss.map Value.string)) : ∀ (j : Nat) x, ss[j]? = some x → w.cell? ⟨g, 0 + j, none⟩ = some (.string x) := fun j x hj => by
  rcases h.2 with ⟨h', _⟩ | ⟨g', cap', cur, h', hb, hg, hnc, hcm, hcs, htake⟩
  · simp at h'
  · simp only [Value.slice.injEq, Option.some.injEq, Addr.mk.injEq, and_true, true_and] at h'
    obtain ⟨rfl, _, _⟩ := h'
    rw [cell_of_row w g (0 + j) _ e (0, 0) hg]
    have : (cur.toList.take (n * 1))[j]? = some (.string x) := by rw [htake]; simp [hj]
    rw [List.getElem?_take] at this
    split at this
    · simpa using this
    · cases this
end
end Go.Proofs.YtoenefhobjpfdaaGreatDoor
