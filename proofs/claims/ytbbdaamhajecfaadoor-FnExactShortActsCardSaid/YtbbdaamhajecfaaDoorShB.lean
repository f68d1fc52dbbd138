/- An owned list, stored to in place. -/
import Derived.Test.YtbbdaamhajecfaaDoorShM
import Derived.Test.YtbbdaamhajecfaaDoorOwnA
import Derived.Test.YtbbdaamhajecfaaDoorKeep
namespace Go.Proofs.YtbbdaamhajecfaaDoor
open Go.RowKit
set_option linter.unusedVariables false
set_option linter.unusedSimpArgs false
theorem owns_store {w : World} {base size n cap g q : Nat} {e : TypeId} {xs : List Value} (h : w.ownsRow base e size (.slice (some ⟨g, 0, none⟩) n cap) n xs) (hq : q < n * size) (u : Value) : (w.setCell ⟨g, q, none⟩ u).ownsRow base e size (.slice (some ⟨g, 0, none⟩) n cap) n (xs.set q u) := by
  obtain ⟨h1, ⟨h2, _⟩ | ⟨g', cap', cur, h2, h3, h4, h5, h6, h7, h8⟩⟩ := h
  · cases h2
  · injection h2 with e1 e2 e3
    injection e1 with e1
    injection e1 with e1
    subst e1; subst e3
    have hr : Row w g e cur.toList := by unfold Row; rw [h4]
    have hs := hr.set q u
    refine ⟨by rw [List.length_set]; exact h1, .inr ⟨g, cap, (cur.toList.set q u).toArray, rfl, h3, hs, h5, h6, by simp [h7], ?_⟩⟩
    rw [← h8, List.take_set]
theorem owns_rowA {w : World} {base size n cap g : Nat} {e : TypeId} {xs : List Value} (h : w.ownsRow base e size (.slice (some ⟨g, 0, none⟩) n cap) n xs) : base ≤ g ∧ ∃ rest, Row w g e (xs ++ rest) := by
  obtain ⟨h1, ⟨h2, _⟩ | ⟨g', cap', cur, h2, h3, h4, h5, h6, h7, h8⟩⟩ := h
  · cases h2
  · injection h2 with e1 e2 e3
    injection e1 with e1
    injection e1 with e1
    subst e1
    refine ⟨h3, cur.toList.drop (n * size), ?_⟩
    unfold Row
    rw [h4, ← h8, List.take_append_drop]
theorem owns_lenA {w : World} {base n : Nat} {v : Value} {l : List (Int × Int)} (h : w.ownsRow base 34 2 v n (avals l)) : n = l.length := by
  have := h.1; rw [avals_len] at this; omega
/-- an owned list of acts, empty or in a block -/
theorem owns_acts {w : World} {base n : Nat} {v : Value} {l : List (Int × Int)} (h : w.ownsRow base 34 2 v n (avals l)) : (l = [] ∧ ∃ a cp, v = .slice a 0 cp) ∨ (1 ≤ l.length ∧ ∃ g cp rest, v = .slice (some ⟨g, 0, none⟩) l.length cp ∧ base ≤ g ∧ Row w g 34 (avals l ++ rest)) := by
  obtain rfl := owns_lenA h
  by_cases h0 : l.length = 0
  · refine .inl ⟨List.length_eq_zero_iff.1 h0, ?_⟩
    rcases h.2 with ⟨rfl, _⟩ | ⟨g, cap, cur, rfl, _⟩
    · exact ⟨none, 0, rfl⟩
    · exact ⟨_, cap, by rw [h0]⟩
  · rcases h.2 with ⟨_, h1⟩ | ⟨g, cap, cur, h1, _⟩
    · omega
    · subst h1
      obtain ⟨hb, rest, hr⟩ := owns_rowA h
      exact .inr ⟨by omega, g, cap, rest, rfl, hb, hr⟩
end Go.Proofs.YtbbdaamhajecfaaDoor
