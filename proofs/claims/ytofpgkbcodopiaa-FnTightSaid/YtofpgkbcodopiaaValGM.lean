/- Which logs are valid; plain. -/
import Derived.Test.YtofpgkbcodopiaaFlowS
import Derived.Test.YtofpgkbcodopiaaMgP
namespace Go.Proofs.Ytofpgkbcodopiaa
def rdTo (zs : List Int) (js : List (Int × Int)) (k : Nat) : Prop := ∀ j, j < k → okRd (szL zs) (rd js j) (rv js j) = true
def upTo (js : List (Int × Int)) (k : Nat) : Prop := ∀ j, j + 1 < k → rd js j < rd js (j + 1)
def okG (zs : List Int) (js : List (Int × Int)) : Bool :=
  okL zs && (decide (js.length ≤ 40) && ((List.range js.length).all (fun j => okRd (szL zs) (rd js j) (rv js j)) && (List.range (js.length - 1)).all (fun j => decide (rd js j < rd js (j + 1)))))
theorem okG_stack {zs : List Int} {js : List (Int × Int)} (h : okL zs = false) : okG zs js = false := by simp [okG, h]
theorem okG_long {zs : List Int} {js : List (Int × Int)} (h : 40 < js.length) : okG zs js = false := by
  rw [okG, decide_eq_false (show ¬ js.length ≤ 40 by omega)]; simp
theorem okG_out {zs : List Int} {js : List (Int × Int)} (h : okG zs js = true) : okL zs = true ∧ js.length ≤ 40 ∧ rdTo zs js js.length ∧ upTo js js.length := by
  simp only [okG, Bool.and_eq_true, decide_eq_true_eq, List.all_eq_true, List.mem_range] at h
  exact ⟨h.1, h.2.1, fun j hj => h.2.2.1 j hj, fun j hj => h.2.2.2 j (by omega)⟩
theorem okG_yes {zs : List Int} {js : List (Int × Int)} (h1 : okL zs = true) (h2 : js.length ≤ 40) (h3 : rdTo zs js js.length) (h4 : upTo js js.length) : okG zs js = true := by
  simp only [okG, Bool.and_eq_true, decide_eq_true_eq, List.all_eq_true, List.mem_range]
  exact ⟨h1, h2, fun j hj => h3 j hj, fun j hj => h4 j (by omega)⟩
theorem okG_rd {zs : List Int} {js : List (Int × Int)} (k : Nat) (hk : k < js.length) (h : okRd (szL zs) (rd js k) (rv js k) = false) : okG zs js = false := by
  cases e : okG zs js with
  | false => rfl
  | true => have := (okG_out e).2.2.1 k hk; rw [h] at this; simp at this
theorem okG_up {zs : List Int} {js : List (Int × Int)} (k : Nat) (hk : k + 1 < js.length) (h : rd js (k + 1) ≤ rd js k) : okG zs js = false := by
  cases e : okG zs js with
  | false => rfl
  | true => have := (okG_out e).2.2.2 k hk; omega
theorem rdTo_succ {zs : List Int} {js : List (Int × Int)} {k : Nat} (h : rdTo zs js k) (e : okRd (szL zs) (rd js k) (rv js k) = true) : rdTo zs js (k + 1) := fun j hj => by
  by_cases he : j = k
  · subst he; exact e
  · exact h j (by omega)
theorem upTo_one (js : List (Int × Int)) : upTo js 1 := fun j hj => by omega
theorem upTo_zero (js : List (Int × Int)) : upTo js 0 := fun j hj => by omega
theorem upTo_succ {js : List (Int × Int)} {k : Nat} (h : upTo js (k + 1)) (e : rd js k < rd js (k + 1)) : upTo js (k + 1 + 1) := fun j hj => by
  by_cases he : j = k
  · subst he; exact e
  · exact h j (by omega)
end Go.Proofs.Ytofpgkbcodopiaa
