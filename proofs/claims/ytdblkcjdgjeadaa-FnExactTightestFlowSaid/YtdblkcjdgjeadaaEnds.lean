/- The readings that an interval of some kind leads to; the program's. -/
import Derived.Test.YtdblkcjdgjeadaaItvS
import Derived.Test.YtdblkcjdgjeadaaValGM
import Derived.Test.YtdblkcjdgjeadaaOwnI
import Derived.Test.YtdblkcjdgjeadaaInts
namespace Go.Proofs.Ytdblkcjdgjeadaa
open Go.RowKit Go.Shelf
attribute [local go_sem] Oper.semAt_some
theorem owns_kept {W W' : World} {row : Option Nat} {base size n : Nat} {e : TypeId} {v : Value} {xs : List Value} (h : W.ownsRow base e size v n xs) (hg : W.grownBy W' row) (hr : ∀ r, row = some r → ∃ o : Obj, W.heap[r]? = some o ∧ o.isCells = false) : W'.ownsRow base e size v n xs := by
  refine ⟨h.1, ?_⟩
  rcases h.2 with h0 | ⟨g, cap, cur, h1, h2, h3, h4⟩
  · exact .inl h0
  · refine .inr ⟨g, cap, cur, h1, h2, ?_, h4⟩
    have hne : some g ≠ row := fun e' => by
      obtain ⟨o, ho, hc⟩ := hr g e'.symm
      rw [h3] at ho
      cases ho
      simp [Obj.isCells] at hc
    exact (hg.5 g (lt_of_block h3) hne).trans h3
theorem owns_below' {w w' : World} {base size n : Nat} {e : TypeId} {v : Value} {xs : List Value} (h : w.ownsRow base e size v n xs) (hb : Below w.heap.size w w') : w'.ownsRow base e size v n xs := by
  refine ⟨h.1, ?_⟩
  rcases h.2 with h0 | ⟨g, cap, cur, h1, h2, h3, h4⟩
  · exact .inl h0
  · exact .inr ⟨g, cap, cur, h1, h2, (hb.block g (lt_of_block h3)).trans h3, h4⟩
theorem owns_set {w : World} {base size n : Nat} {e : TypeId} {v : Value} {xs : List Value} (h : w.ownsRow base e size v n xs) {a : Addr} (ha : a.block < base) (u : Value) : (w.setCell a u).ownsRow base e size v n xs := by
  refine ⟨h.1, ?_⟩
  rcases h.2 with h0 | ⟨g, cap, cur, h1, h2, h3, h4⟩
  · exact .inl h0
  · exact .inr ⟨g, cap, cur, h1, h2, (Below.heap_setCell w a u g (fun e => by omega)).trans h3, h4⟩
theorem owns_lt {w : World} {base size n g : Nat} {e : TypeId} {v : Value} {xs : List Value} (h : w.ownsRow base e size v n xs) (hg : g < base) : some g ≠ v.ownBlock := fun he => by
  rcases h.2 with ⟨rfl, _⟩ | ⟨g', cap, cur, rfl, h2, h3, _⟩
  · cases he
  · have : g = g' := Option.some.inj he
    omega
theorem Row.grown' {w w' : World} {g : Nat} {e : TypeId} {xs : List Value} {o : Option Nat} (h : Row w g e xs) (hg : w.grownBy w' o) (hne : some g ≠ o) : Row w' g e xs := (hg.5 g h.lt hne).trans h
theorem OwnI.base {w : World} {b b' : Nat} {v : Value} {zs : List Int} (h : OwnI w b v zs) (hb : b' ≤ b) : OwnI w b' v zs := by
  obtain ⟨a, cap, h1, h2, h3⟩ := h
  refine ⟨a, cap, h1, h2, ?_⟩
  rcases h3 with h0 | ⟨g, rest, e, hg, hr⟩
  · exact .inl h0
  · exact .inr ⟨g, rest, e, Nat.le_trans hb hg, hr⟩
/-- the indices of those readings, of all up to some, that an interval of the kind leads to -/
def endsP {m : Nat} (P : Nat → Bool) (pre : List (Fin m)) : List Int := (pre.filter (fun x => P x.1)).map (fun x => (x.1 : Int) + 1)
theorem endsP_nil {m : Nat} (P : Nat → Bool) : endsP P ([] : List (Fin m)) = [] := rfl
theorem endsP_yes {m : Nat} (P : Nat → Bool) (pre : List (Fin m)) (x : Fin m) (h : P x.1 = true) : endsP P (pre ++ [x]) = endsP P pre ++ [(x.1 : Int) + 1] := by simp [endsP, h]
theorem endsP_no {m : Nat} (P : Nat → Bool) (pre : List (Fin m)) (x : Fin m) (h : P x.1 = false) : endsP P (pre ++ [x]) = endsP P pre := by simp [endsP, h]
theorem endsP_len {m : Nat} (P : Nat → Bool) (pre : List (Fin m)) : (endsP P pre).length ≤ pre.length := by
  simp only [endsP, List.length_map]
  exact List.length_filter_le _ _
end Go.Proofs.Ytdblkcjdgjeadaa
