/- An interval of two readings, or the code with which it is refused; the program's. -/
import Derived.Test.YtofpgkbcodopiaaFlowB
namespace Go.Proofs.Ytofpgkbcodopiaa
open Go.RowKit
def codeP (zs : List Int) (a u b v lo hi : Int) : Int := if okL zs && (okRd (szL zs) a u && (okRd (szL zs) b v && okF lo hi)) then (if b ≤ a then 2 else 0) else 1
theorem codeP_1 {zs : List Int} {a u b v lo hi : Int} (h : okL zs = false) : codeP zs a u b v lo hi = 1 := by simp [codeP, h]
theorem codeP_2 {zs : List Int} {a u b v lo hi : Int} (h : okRd (szL zs) a u = false) : codeP zs a u b v lo hi = 1 := by simp [codeP, h]
theorem codeP_3 {zs : List Int} {a u b v lo hi : Int} (h : okRd (szL zs) b v = false) : codeP zs a u b v lo hi = 1 := by simp [codeP, h]
theorem codeP_4 {zs : List Int} {a u b v lo hi : Int} (h : okF lo hi = false) : codeP zs a u b v lo hi = 1 := by simp [codeP, h]
theorem codeP_5 {zs : List Int} {a u b v lo hi : Int} (h1 : okL zs = true) (h2 : okRd (szL zs) a u = true) (h3 : okRd (szL zs) b v = true) (h4 : okF lo hi = true) (h : b ≤ a) : codeP zs a u b v lo hi = 2 := by simp [codeP, h1, h2, h3, h4, h]
theorem codeP_6 {zs : List Int} {a u b v lo hi : Int} (h1 : okL zs = true) (h2 : okRd (szL zs) a u = true) (h3 : okRd (szL zs) b v = true) (h4 : okF lo hi = true) (h : a < b) : codeP zs a u b v lo hi = 0 := by
  have : ¬ b ≤ a := by omega
  simp [codeP, h1, h2, h3, h4, this]
theorem codeP_out {zs : List Int} {a u b v lo hi : Int} (h : codeP zs a u b v lo hi = 0) : okL zs = true ∧ okRd (szL zs) a u = true ∧ okRd (szL zs) b v = true ∧ okF lo hi = true ∧ a < b := by
  unfold codeP at h
  split at h
  · rename_i k
    simp only [Bool.and_eq_true] at k
    split at h
    · simp at h
    · exact ⟨k.1, k.2.1, k.2.2.1, k.2.2.2, by omega⟩
  · simp at h
/-- the interval that is handed back with a code -/
def ivR (c a u b v : Int) : Value := if c = 0 then .agg #[.int .i64 a, .int .i64 u, .int .i64 b, .int .i64 v] else .agg #[.int .i64 0, .int .i64 0, .int .i64 0, .int .i64 0]
def tupI (c a u b v : Int) : Value := .tuple #[ivR c a u b v, .int .i64 c]
theorem tupI_0 (a u b v : Int) : tupI 0 a u b v = .tuple #[.agg #[.int .i64 a, .int .i64 u, .int .i64 b, .int .i64 v], .int .i64 0] := rfl
theorem tupI_1 (a u b v : Int) : tupI 1 a u b v = .tuple #[.agg #[.int .i64 0, .int .i64 0, .int .i64 0, .int .i64 0], .int .i64 1] := rfl
theorem tupI_2 (a u b v : Int) : tupI 2 a u b v = .tuple #[.agg #[.int .i64 0, .int .i64 0, .int .i64 0, .int .i64 0], .int .i64 2] := rfl
theorem iv_boxes (w : World) (T1 T2 T3 : TypeId) (a u b v x y c d e f : Value) : ∀ W, W = ((((w.alloc (.cells #[a, u] T1)).alloc (.cells #[b, v] T1)).alloc (.cells #[x, y] T2)).alloc (.cells #[c, d, e, f] T3)) →
    Row W w.heap.size T1 [a, u] ∧ Row W (w.heap.size + 1) T1 [b, v] ∧ Row W (w.heap.size + 1 + 1) T2 [x, y] ∧ Row W (w.heap.size + 1 + 1 + 1) T3 [c, d, e, f] ∧ Below w.heap.size w W ∧ W.heap.size = w.heap.size + 1 + 1 + 1 + 1 := by
  rintro W rfl
  have h1 := Row.new (w.alloc (.cells #[a, u] T1)) T1 [b, v]
  have h2 := Row.new ((w.alloc (.cells #[a, u] T1)).alloc (.cells #[b, v] T1)) T2 [x, y]
  have h3 := Row.new (((w.alloc (.cells #[a, u] T1)).alloc (.cells #[b, v] T1)).alloc (.cells #[x, y] T2)) T3 [c, d, e, f]
  simp only [World.size_alloc] at h1 h2 h3
  exact ⟨(((Row.new w T1 [a, u]).alloc _).alloc _).alloc _, (h1.alloc _).alloc _, h2.alloc _, h3, (((box2_bel w T1 a u).alloc (by simp) _).alloc (by simp; omega) _).alloc (by simp; omega) _, by simp⟩
theorem quad_again {w : World} {g : Nat} {T : TypeId} {a b c d : Value} (x y z u : Value) (h : Row w g T [a, b, c, d]) : ∀ W, W = (((w.setCell ⟨g, 0, none⟩ x).setCell ⟨g, 1, none⟩ y).setCell ⟨g, 2, none⟩ z).setCell ⟨g, 3, none⟩ u →
    Row W g T [x, y, z, u] ∧ (∀ k, k ≤ g → Below k w W) ∧ W.heap.size = w.heap.size := by
  rintro W rfl
  exact ⟨(((h.set 0 x).set 1 y).set 2 z).set 3 u, fun k hk => ((((Below.refl _ w).setCell (p := ⟨g, 0, none⟩) hk x).setCell (p := ⟨g, 1, none⟩) hk y).setCell (p := ⟨g, 2, none⟩) hk z).setCell (p := ⟨g, 3, none⟩) hk u, by simp⟩
end Go.Proofs.Ytofpgkbcodopiaa
