/- The readings that an interval of some kind leads to; the program's. -/
import Derived.Test.YtilbpgcgjbblaaaItvS
import Derived.Test.YtilbpgcgjbblaaaValGM
import Derived.Test.YtilbpgcgjbblaaaOwnI
import Derived.Test.YtilbpgcgjbblaaaInts
import Derived.Test.YtilbpgcgjbblaaaKeep
namespace Go.Proofs.Ytilbpgcgjbblaaa
open Go.RowKit Go.Shelf
attribute [local go_sem] Oper.semAt_some
theorem owns_below' {w w' : World} {base size n : Nat} {e : TypeId} {v : Value} {xs : List Value} (h : w.ownsRow base e size v n xs) (hb : Below w.heap.size w w') : w'.ownsRow base e size v n xs := by
  refine ⟨h.1, ?_⟩
  rcases h.2 with h0 | ⟨g, cap, cur, h1, h2, h3, h4⟩
  · exact .inl h0
  · exact .inr ⟨g, cap, cur, h1, h2, (hb.block g (lt_of_block h3)).trans h3, h4⟩
theorem OwnI.base {w : World} {b b' : Nat} {v : Value} {zs : List Int} (h : OwnI w b v zs) (hb : b' ≤ b) : OwnI w b' v zs := by
  obtain ⟨a, cap, h1, h2, h3⟩ := h
  refine ⟨a, cap, h1, h2, ?_⟩
  rcases h3 with h0 | ⟨g, rest, e, hg, hr⟩
  · exact .inl h0
  · exact .inr ⟨g, rest, e, Nat.le_trans hb hg, hr⟩
/-- the indices of those readings, of all up to some, that an interval of the kind leads to -/
def endsP {m : Nat} (P : Nat → Bool) (pre : List (Fin m)) : List Int := (pre.filter (fun x => P x.1)).map (fun x => (x.1 : Int) + 1)
theorem endsP_nil {m : Nat} (P : Nat → Bool) : endsP P ([] : List (Fin m)) = [] := rfl
theorem endsP_yes {m : Nat} (P : Nat → Bool) (pre : List (Fin m)) (x : Fin m) (h : P x.1 = true) : endsP P (pre ++ [x]) = endsP P pre ++ [(x.1 : Int) + 1] := by simp [endsP, h]
theorem endsP_no {m : Nat} (P : Nat → Bool) (pre : List (Fin m)) (x : Fin m) (h : P x.1 = false) : endsP P (pre ++ [x]) = endsP P pre := by simp [endsP, h]
theorem endsP_len {m : Nat} (P : Nat → Bool) (pre : List (Fin m)) : (endsP P pre).length ≤ pre.length := by
  simp only [endsP, List.length_map]
  exact List.length_filter_le _ _
end Go.Proofs.Ytilbpgcgjbblaaa
