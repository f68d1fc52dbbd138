/- spec.LeastStack. -/
import Derived.Test.YtobephnmbpoopaaLsQ
namespace Go.Proofs.Ytobephnmbpoopaa
open Go.RowKit
set_option linter.unusedVariables false
set_option linter.unusedSimpArgs false
theorem l00In_yes (n lo hi : Int) (h : lo ≤ n) (h2 : n ≤ hi) (w : World) : Calls Try.prog 16 #[.int .i64 n, .int .i64 lo, .int .i64 hi] w fun e w' => e = .returned (.bool true) ∧ w' = w := by
  go_enter Try.func16, Try.ntmps16
  go_wp2_with fail
  go_ret
  exact ⟨rfl, rfl⟩
/-- a list of its own, or none -/
def OwR (w : World) (base : Nat) (v : Value) (E : List Int) : Prop := (E = [] ∧ ∃ a cp, v = .slice a 0 cp) ∨ w.ownsRow base 5 1 v E.length (E.map (Value.int .u8))
def LsG (size : Int) (n : Nat) (w : World) (e : Ending) (w' : World) : Prop :=
  ∃ b v c, baseIs size n b ∧ b ≤ 101 ∧ e = .returned (.tuple #[v, .int .i64 c]) ∧ Below w.heap.size w w' ∧
    ((b = 101 ∧ c = 3 ∧ OwR w' w.heap.size v []) ∨ (b ≤ 100 ∧ ((okL (lsL b n (lastW size (b ^ (n - 1)))) = false ∧ c = 3 ∧ OwR w' w.heap.size v []) ∨ (okL (lsL b n (lastW size (b ^ (n - 1)))) = true ∧ c = 0 ∧ OwR w' w.heap.size v (lsL b n (lastW size (b ^ (n - 1))))))))
theorem rep_set {w : World} {base n g cp : Nat} {b t : Int} (h : w.ownsRow base 5 1 (.slice (some ⟨g, 0, none⟩) n cp) n ((List.replicate n b).map (Value.int .u8))) (hn : 1 ≤ n) : (w.setCell ⟨g, n - 1, none⟩ (.int .u8 t)).ownsRow base 5 1 (.slice (some ⟨g, 0, none⟩) n cp) n ((lsL b n t).map (Value.int .u8)) := by
  have e : (lsL b n t).map (Value.int .u8) = ((List.replicate n b).map (Value.int .u8)).set (n - 1) (.int .u8 t) := by rw [← lsL_set b n t hn, List.map_set]
  rw [e]
  obtain ⟨h1, ⟨h2, _⟩ | ⟨g', cap', cur, h2, h3, h4, h5, h6, h7, h8⟩⟩ := h
  · cases h2
  · injection h2 with e1 e2 e3
    injection e1 with e1
    injection e1 with e1
    subst e1; subst e3
    have hr : Row w g 5 cur.toList := by unfold Row; rw [h4]
    have hs := hr.set (n - 1) (.int .u8 t)
    refine ⟨by rw [List.length_set]; exact h1, .inr ⟨g, cp, (cur.toList.set (n - 1) (.int .u8 t)).toArray, rfl, h3, hs, h5, h6, by simp [h7], ?_⟩⟩
    rw [← h8, List.take_set]
end Go.Proofs.Ytobephnmbpoopaa
