/- The readings that a step back, or a suspect step, leads to; the program's. -/
import Derived.Test.YtilbpgcgjbblaaaEndsS
import Derived.Test.YtilbpgcgjbblaaaValGI
namespace Go.Proofs.Ytilbpgcgjbblaaa
open Go.RowKit Go.Shelf
set_option linter.unusedSimpArgs false
section
attribute [local go_sem] Oper.semAt_some
end
theorem okG_len {zs : List Int} {js : List (Int × Int)} (h : okG zs js = true) (k : Nat) (hk : k + 1 < js.length) : (0 ≤ rd js k ∧ 0 ≤ rv js k ∧ rv js k < szL zs ∧ rv js (k + 1) < szL zs ∧ 0 ≤ rv js (k + 1)) ∧ 0 ≤ rd js (k + 1) - rd js k ∧ rd js (k + 1) - rd js k ≤ 100000 := by
  obtain ⟨_, _, h3, h4⟩ := okG_out h
  have o1 := okRd_out (h3 k (by omega))
  have o2 := okRd_out (h3 (k + 1) hk)
  have o3 := h4 k hk
  omega
theorem stfl_boxes (w : World) (T T' : TypeId) (a x y : Value) : ∀ W, W = ((w.alloc (.cells #[a] T)).alloc (.cells #[x, y] T')) →
    Row W w.heap.size T [a] ∧ Row W (w.heap.size + 1) T' [x, y] ∧ Below w.heap.size w W ∧ W.heap.size = w.heap.size + 1 + 1 := by
  rintro W rfl
  have h := Row.new (w.alloc (.cells #[a] T)) T' [x, y]
  simp only [World.size_alloc] at h
  exact ⟨(Row.new w T [a]).alloc _, h, ((Below.refl _ w).alloc (Nat.le_refl _) _).alloc (by simp) _, by simp⟩
end Go.Proofs.Ytilbpgcgjbblaaa
