/- Meters that are valid: the program's and the model's answers. -/
import Derived.Test.YtbefbkklompcjaaDoorMet
import Derived.Test.YtbefbkklompcjaaDoorCount
import Derived.Test.YtbefbkklompcjaaDoorTotV
import Derived.Deep.QuietTactic
namespace Go.Proofs.YtbefbkklompcjaaDoor
open Go.RowKit
theorem quiet_me {P : Program} {f : FuncId} {args : Array Value} {w : World} {n : Nat} {v : Value}
    (h : Calls P f args (w.drewN n) fun e w' => e = .returned v ∧ w.drewN n = w') : Calls P f args (w.drewN n) fun e w'' => e = .returned v ∧ ∃ m, w'' = w.drewN m :=
  h.mono fun _ _ ⟨he, hm⟩ => ⟨he, n, hm.symm⟩
/-- a meter that is valid -/
def okMe (zs : List Int) (x y s : Int) : Bool := okL zs && ((decide (1 ≤ x) && decide (x ≤ 1000)) && ((decide (1 ≤ y) && decide (y ≤ 1000)) && (decide (0 ≤ s) && decide (s ≤ szL zs - 1))))
theorem okMe_out {zs : List Int} {x y s : Int} (h : okMe zs x y s = true) : okL zs = true ∧ 1 ≤ x ∧ x ≤ 1000 ∧ 1 ≤ y ∧ y ≤ 1000 ∧ 0 ≤ s ∧ s < szL zs := by
  simp only [okMe, Bool.and_eq_true, decide_eq_true_eq] at h
  obtain ⟨h0, ⟨h1, h2⟩, ⟨h3, h4⟩, h5, h6⟩ := h
  exact ⟨h0, h1, h2, h3, h4, h5, by omega⟩
theorem okMe_no {zs : List Int} {x y s : Int} (h : ¬ (1 ≤ x ∧ x ≤ 1000 ∧ 1 ≤ y ∧ y ≤ 1000 ∧ 0 ≤ s ∧ s < szL zs)) : okMe zs x y s = false := by
  cases e : okMe zs x y s with
  | false => rfl
  | true => exact absurd (okMe_out e).2 h
theorem okMe_yes {zs : List Int} {x y s : Int} (h0 : okL zs = true) (h : 1 ≤ x ∧ x ≤ 1000 ∧ 1 ≤ y ∧ y ≤ 1000 ∧ 0 ≤ s ∧ s < szL zs) : okMe zs x y s = true := by
  obtain ⟨h1, h2, h3, h4, h5, h6⟩ := h
  simp only [okMe, Bool.and_eq_true, decide_eq_true_eq]
  exact ⟨h0, ⟨h1, h2⟩, ⟨h3, h4⟩, h5, by omega⟩
theorem okMe_stack {zs : List Int} {x y s : Int} (h : okL zs = false) : okMe zs x y s = false := by simp [okMe, h]
end Go.Proofs.YtbefbkklompcjaaDoor
