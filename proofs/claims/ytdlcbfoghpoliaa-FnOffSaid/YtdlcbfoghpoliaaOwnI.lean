/- Slices of 64-bit numbers that a call has made: compared, written over, looked at. -/
import Derived.Test.YtdlcbfoghpoliaaBase
import Derived.Test.YtdlcbfoghpoliaaRatio
import Derived.OwnWalk
import Derived.Deep.QuietTactic
namespace Go.Proofs.Ytdlcbfoghpoliaa
open Go.RowKit
/-- v is a slice of the numbers zs, in a block of its own from base on -/
def OwnI (w : World) (base : Nat) (v : Value) (zs : List Int) : Prop :=
  ∃ a cap, v = .slice a zs.length cap ∧ zs.length ≤ 1099511627776 ∧ (zs = [] ∨ ∃ g rest, a = some ⟨g, 0, none⟩ ∧ base ≤ g ∧ Row w g 2 (zs.map (Value.int .i64) ++ rest))
theorem OwnI.of_owns {w : World} {base n : Nat} {v : Value} {zs : List Int} (h : w.ownsRow base 2 1 v n (zs.map (Value.int .i64))) (hl : zs.length ≤ 1099511627776) : OwnI w base v zs := by
  have hn : n = zs.length := by have := h.1; simpa using this.symm
  rcases h.2 with ⟨rfl, h0⟩ | ⟨g, cap, cur, rfl, h2, h3, h4, h5, h6, h7⟩
  · have : zs = [] := List.length_eq_zero_iff.1 (by omega)
    subst this
    exact ⟨none, 0, rfl, by simp, .inl rfl⟩
  · refine ⟨some ⟨g, 0, none⟩, cap, by rw [hn], hl, .inr ⟨g, cur.toList.drop (n * 1), rfl, h2, ?_⟩⟩
    unfold Row
    rw [h3, ← h7, List.take_append_drop]
theorem OwnI.nil (w : World) (base : Nat) (a : Option Addr) (cap : Nat) : OwnI w base (.slice a 0 cap) [] := ⟨a, cap, rfl, by simp, .inl rfl⟩
theorem OwnI.keep {w w' : World} {base : Nat} {v : Value} {zs : List Int} (h : OwnI w base v zs) (hb : Below w.heap.size w w') : OwnI w' base v zs := by
  obtain ⟨a, cap, h1, h2, h3⟩ := h
  refine ⟨a, cap, h1, h2, ?_⟩
  rcases h3 with h0 | ⟨g, rest, e, hg, hr⟩
  · exact .inl h0
  · exact .inr ⟨g, rest, e, hg, hr.below hb hr.lt⟩
/-- what is written from another base on leaves it, if its block lies below -/
theorem OwnI.low {w w' : World} {base k : Nat} {v : Value} {zs : List Int} (h : OwnI w base v zs) {w2 : World} (hw : Below w.heap.size w w2) (hk : w.heap.size ≤ k) (hb : Below k w2 w') : OwnI w' base v zs := by
  obtain ⟨a, cap, h1, h2, h3⟩ := h
  refine ⟨a, cap, h1, h2, ?_⟩
  rcases h3 with h0 | ⟨g, rest, e, hg, hr⟩
  · exact .inl h0
  · exact .inr ⟨g, rest, e, hg, (hr.below hw hr.lt).below hb (Nat.lt_of_lt_of_le hr.lt hk)⟩
theorem OwnI.cell {w : World} {g : Nat} {zs : List Int} {rest : List Value} (h : Row w g 2 (zs.map (Value.int .i64) ++ rest)) (j : Nat) (hj : j < zs.length) : w.cell? ⟨g, j, none⟩ = some (.int .i64 (zs[j]?.getD 0)) := by
  rw [h.cell, List.getElem?_append_left (by simpa using hj)]
  simp [hj]
/-- the marks that are written -/
def marksI (k0 : Int) (n : Nat) : List Int := (List.range n).map fun (i : Nat) => k0 + (i : Int)
theorem marksI_len (k0 : Int) (n : Nat) : (marksI k0 n).length = n := by simp [marksI]
theorem marksI_get (k0 : Int) (n j : Nat) (h : j < n) : (marksI k0 n)[j]?.getD 0 = k0 + (j : Int) := by simp [marksI, h]
/-- k of n cells are marked -/
def halfI (k0 : Int) (zs : List Int) (k : Nat) : List Int := (marksI k0 k) ++ zs.drop k
theorem halfI_len (k0 : Int) (zs : List Int) (k : Nat) (h : k ≤ zs.length) : (halfI k0 zs k).length = zs.length := by simp [halfI, marksI]; omega
theorem halfI_set (k0 : Int) (zs : List Int) (rest : List Value) (k : Nat) (h : k < zs.length) : (((halfI k0 zs k).map (Value.int .i64)) ++ rest).set k (.int .i64 (k0 + (k : Int))) = ((halfI k0 zs (k + 1)).map (Value.int .i64)) ++ rest := by
  have hl := halfI_len k0 zs k (by omega)
  rw [List.set_append_left _ _ (by rw [List.length_map, hl]; exact h)]
  congr 1
  apply List.ext_getElem?
  intro j
  simp only [halfI, marksI, List.getElem?_set, List.getElem?_map, List.length_map, List.length_append, List.length_range, List.length_drop, List.getElem?_append, List.getElem?_drop]
  by_cases hj : k = j
  · subst hj
    simp [h]
    omega
  · rw [if_neg hj]
    by_cases h2 : j < k
    · simp [h2, show j < k + 1 from by omega]
    · simp only [h2, show ¬ j < k + 1 from by omega, if_false]
      rw [show k + (j - k) = k + 1 + (j - (k + 1)) from by omega]
theorem halfI_all (k0 : Int) (zs : List Int) : halfI k0 zs zs.length = marksI k0 zs.length := by simp [halfI]
end Go.Proofs.Ytdlcbfoghpoliaa
