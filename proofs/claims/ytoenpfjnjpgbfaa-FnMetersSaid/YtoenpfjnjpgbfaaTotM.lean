/- Which totals are valid; plain. -/
import Derived.Test.YtoenpfjnjpgbfaaReads
namespace Go.Proofs.Ytoenpfjnjpgbfaa
open Go.RowKit
def okTd (d c : Int) : Bool := decide (0 ≤ d ∧ d ≤ 100000 ∧ 0 ≤ c ∧ c ≤ 1000000000000)
def tdTo (js : List (Int × Int)) (k : Nat) : Prop := ∀ j, j < k → okTd (rd js j) (rv js j) = true
def uwTo (js : List (Int × Int)) (k : Nat) : Prop := ∀ j, j + 1 < k → rd js j < rd js (j + 1) ∧ rv js j ≤ rv js (j + 1)
def okTs (js : List (Int × Int)) : Bool :=
  decide (js.length ≤ 60) && ((List.range js.length).all (fun j => okTd (rd js j) (rv js j)) && (List.range (js.length - 1)).all (fun j => decide (rd js j < rd js (j + 1) ∧ rv js j ≤ rv js (j + 1))))
theorem okTs_long {js : List (Int × Int)} (h : 60 < js.length) : okTs js = false := by
  rw [okTs, decide_eq_false (show ¬ js.length ≤ 60 by omega)]; simp
theorem okTs_out {js : List (Int × Int)} (h : okTs js = true) : js.length ≤ 60 ∧ tdTo js js.length ∧ uwTo js js.length := by
  simp only [okTs, Bool.and_eq_true, decide_eq_true_eq, List.all_eq_true, List.mem_range] at h
  exact ⟨h.1, fun j hj => h.2.1 j hj, fun j hj => h.2.2 j (by omega)⟩
theorem okTs_yes {js : List (Int × Int)} (h2 : js.length ≤ 60) (h3 : tdTo js js.length) (h4 : uwTo js js.length) : okTs js = true := by
  simp only [okTs, Bool.and_eq_true, decide_eq_true_eq, List.all_eq_true, List.mem_range]
  exact ⟨h2, fun j hj => h3 j hj, fun j hj => h4 j (by omega)⟩
theorem okTs_td {js : List (Int × Int)} (k : Nat) (hk : k < js.length) (h : okTd (rd js k) (rv js k) = false) : okTs js = false := by
  cases e : okTs js with
  | false => rfl
  | true => have := (okTs_out e).2.1 k hk; rw [h] at this; simp at this
theorem okTs_up {js : List (Int × Int)} (k : Nat) (hk : k + 1 < js.length) (h : rd js (k + 1) ≤ rd js k ∨ rv js (k + 1) < rv js k) : okTs js = false := by
  cases e : okTs js with
  | false => rfl
  | true => have := (okTs_out e).2.2 k hk; omega
theorem tdTo_zero (js : List (Int × Int)) : tdTo js 0 := fun j hj => by omega
theorem tdTo_succ {js : List (Int × Int)} {k : Nat} (h : tdTo js k) (e : okTd (rd js k) (rv js k) = true) : tdTo js (k + 1) := fun j hj => by
  by_cases he : j = k
  · subst he; exact e
  · exact h j (by omega)
theorem uwTo_zero (js : List (Int × Int)) : uwTo js 0 := fun j hj => by omega
theorem uwTo_one (js : List (Int × Int)) : uwTo js 1 := fun j hj => by omega
theorem uwTo_succ {js : List (Int × Int)} {k : Nat} (h : uwTo js (k + 1)) (e : rd js k < rd js (k + 1) ∧ rv js k ≤ rv js (k + 1)) : uwTo js (k + 1 + 1) := fun j hj => by
  by_cases he : j = k
  · subst he; exact e
  · exact h j (by omega)
theorem okTd_of {d c : Int} (h1 : 0 ≤ d) (h2 : d ≤ 100000) (h3 : 0 ≤ c) (h4 : c ≤ 1000000000000) : okTd d c = true := by simp [okTd, h1, h2, h3, h4]
theorem okTd_no {d c : Int} (h : d < 0 ∨ 100000 < d ∨ c < 0 ∨ 1000000000000 < c) : okTd d c = false := by
  simp only [okTd, decide_eq_false_iff_not]; omega
theorem okTd_out {d c : Int} (h : okTd d c = true) : 0 ≤ d ∧ d ≤ 100000 ∧ 0 ≤ c ∧ c ≤ 1000000000000 := by simpa [okTd] using h
end Go.Proofs.Ytoenpfjnjpgbfaa
