/- Trains that a call has made: compared, written over, looked at. -/
import Derived.Test.YtdlcbfoghpoliaaTrain
import Derived.OwnWalk
import Derived.Deep.QuietTactic
namespace Go.Proofs.Ytdlcbfoghpoliaa
open Go.RowKit
def pvals (js : List (Int × Int)) : List Value := (nums js (js.length * 2)).map (Value.int .i16)
theorem pvals_len (js : List (Int × Int)) : (pvals js).length = js.length * 2 := by simp [pvals, nums_len]
/-- v is the train js, in a block of its own from base on -/
def OwnP (w : World) (base : Nat) (v : Value) (js : List (Int × Int)) : Prop :=
  ∃ a cap, v = .slice a js.length cap ∧ js.length ≤ 1048576 ∧ (js = [] ∨ ∃ g rest, a = some ⟨g, 0, none⟩ ∧ base ≤ g ∧ Row w g 41 (pvals js ++ rest))
theorem OwnP.of_owns {w : World} {base n : Nat} {v : Value} {js : List (Int × Int)} (h : w.ownsRow base 41 2 v n (pvals js)) (hl : js.length ≤ 1048576) : OwnP w base v js := by
  have hn : n = js.length := by have := h.1; rw [pvals_len] at this; omega
  rcases h.2 with ⟨rfl, h0⟩ | ⟨g, cap, cur, rfl, h2, h3, h4, h5, h6, h7⟩
  · have : js = [] := List.length_eq_zero_iff.1 (by omega)
    subst this
    exact ⟨none, 0, rfl, by simp, .inl rfl⟩
  · refine ⟨some ⟨g, 0, none⟩, cap, by rw [hn], hl, .inr ⟨g, cur.toList.drop (n * 2), rfl, h2, ?_⟩⟩
    unfold Row
    rw [h3, ← h7, List.take_append_drop]
theorem OwnP.nil (w : World) (base : Nat) (a : Option Addr) (cap : Nat) : OwnP w base (.slice a 0 cap) [] := ⟨a, cap, rfl, by simp, .inl rfl⟩
theorem OwnP.keep {w w' : World} {base : Nat} {v : Value} {js : List (Int × Int)} (h : OwnP w base v js) (hb : Below w.heap.size w w') : OwnP w' base v js := by
  obtain ⟨a, cap, h1, h2, h3⟩ := h
  refine ⟨a, cap, h1, h2, ?_⟩
  rcases h3 with h0 | ⟨g, rest, e, hg, hr⟩
  · exact .inl h0
  · exact .inr ⟨g, rest, e, hg, hr.below hb hr.lt⟩
/-- what is written from k on leaves it, if it had been made before -/
theorem OwnP.low {w w1 w' : World} {base k : Nat} {v : Value} {js : List (Int × Int)} (h : OwnP w base v js) (hw : Below w.heap.size w w1) (hk : w.heap.size ≤ k) (hb : Below k w1 w') : OwnP w' base v js := by
  obtain ⟨a, cap, h1, h2, h3⟩ := h
  refine ⟨a, cap, h1, h2, ?_⟩
  rcases h3 with h0 | ⟨g, rest, e, hg, hr⟩
  · exact .inl h0
  · exact .inr ⟨g, rest, e, hg, (hr.below hw hr.lt).below hb (Nat.lt_of_lt_of_le hr.lt hk)⟩
theorem pvals_get (js : List (Int × Int)) (rest : List Value) (j : Nat) (hj : j < js.length) : (pvals js ++ rest)[j * 2]? = some (.int .i16 (pd js j)) ∧ (pvals js ++ rest)[j * 2 + 1]? = some (.int .i16 (pn js j)) := by
  rw [List.getElem?_append_left (by rw [pvals_len]; omega), List.getElem?_append_left (by rw [pvals_len]; omega)]
  simp only [pvals, List.getElem?_map]
  rw [nums_get _ _ _ (by omega), nums_get _ _ _ (by omega), num_even, num_odd]
  exact ⟨rfl, rfl⟩
theorem OwnP.pst {w : World} {g : Nat} {js : List (Int × Int)} {rest : List Value} (h : Row w g 41 (pvals js ++ rest)) (hl : js.length ≤ 1048576) : Pst w g js :=
  ⟨h.lt, fun j hj => ⟨(h.cell _).trans (pvals_get js rest j hj).1, (h.cell _).trans (pvals_get js rest j hj).2⟩, hl⟩
/-- the marks that are written -/
def mk16 (i : Int) : Int := IntKind.i16.wrap i
def marksP (n : Nat) : List (Int × Int) := (List.range n).map fun (j : Nat) => (mk16 (1 + 2 * (j : Int)), mk16 (1 + 2 * (j : Int) + 1))
theorem marksP_len (n : Nat) : (marksP n).length = n := by simp [marksP]
def halfP (js : List (Int × Int)) (k : Nat) : List (Int × Int) := marksP k ++ js.drop k
theorem halfP_len (js : List (Int × Int)) (k : Nat) (h : k ≤ js.length) : (halfP js k).length = js.length := by simp [halfP, marksP]; omega
theorem halfP_zero (js : List (Int × Int)) : halfP js 0 = js := by simp [halfP, marksP]
theorem halfP_all (js : List (Int × Int)) : halfP js js.length = marksP js.length := by simp [halfP]
theorem halfP_get (js : List (Int × Int)) (k j : Nat) : (halfP js k)[j]? = if j < k then some (mk16 (1 + 2 * (j : Int)), mk16 (1 + 2 * (j : Int) + 1)) else js[j]? := by
  by_cases h : j < k
  · rw [if_pos h, halfP, List.getElem?_append_left (by rw [marksP_len]; exact h)]
    simp [marksP, h]
  · rw [if_neg h, halfP, List.getElem?_append_right (by rw [marksP_len]; omega), marksP_len, List.getElem?_drop, show k + (j - k) = j from by omega]
theorem halfP_set (js : List (Int × Int)) (rest : List Value) (k : Nat) (h : k < js.length) :
    ((pvals (halfP js k) ++ rest).set (k * 2) (.int .i16 (mk16 (1 + 2 * (k : Int))))).set (k * 2 + 1) (.int .i16 (mk16 (1 + 2 * (k : Int) + 1))) = pvals (halfP js (k + 1)) ++ rest := by
  have l1 := halfP_len js k (by omega)
  have l2 := halfP_len js (k + 1) (by omega)
  rw [List.set_append_left _ _ (by rw [pvals_len, l1]; omega), List.set_append_left _ _ (by rw [List.length_set, pvals_len, l1]; omega)]
  congr 1
  apply List.ext_getElem?
  intro i
  simp only [List.getElem?_set, List.length_set, pvals_len, l1]
  have G : ∀ (ks : List (Int × Int)) (i : Nat), (pvals ks)[i]? = if i < ks.length * 2 then some (.int .i16 (num ks i)) else none := fun ks i => by
    by_cases hi : i < ks.length * 2
    · rw [if_pos hi]; simp only [pvals, List.getElem?_map]; rw [nums_get _ _ _ hi]; rfl
    · rw [if_neg hi]; exact List.getElem?_eq_none (by rw [pvals_len]; omega)
  rw [G, G, l1, l2]
  by_cases hi : i < js.length * 2
  · rw [if_pos hi, if_pos hi]
    by_cases e1 : k * 2 + 1 = i
    · subst e1
      rw [if_pos rfl, if_pos (by omega), num_odd, pn, halfP_get, if_pos (by omega)]
      rfl
    · rw [if_neg e1]
      by_cases e2 : k * 2 = i
      · subst e2
        rw [if_pos rfl, if_pos (by omega), num_even, pd, halfP_get, if_pos (by omega)]
        rfl
      · rw [if_neg e2]
        have hx : num (halfP js k) i = num (halfP js (k + 1)) i := by
          have g : (halfP js k)[i / 2]? = (halfP js (k + 1))[i / 2]? := by
            rw [halfP_get, halfP_get]
            by_cases h3 : i / 2 < k
            · rw [if_pos h3, if_pos (by omega)]
            · rw [if_neg h3, if_neg (by omega)]
          simp only [num, pd, pn, g]
        rw [hx]
  · rw [if_neg (by omega), if_neg (by omega), if_neg hi]
    rw [if_neg hi]
theorem marksP_get (n k : Nat) (h : k < n) : pd (marksP n) k = mk16 (1 + 2 * (k : Int)) ∧ pn (marksP n) k = mk16 (1 + 2 * (k : Int) + 1) := by
  simp [pd, pn, marksP, h]
end Go.Proofs.Ytdlcbfoghpoliaa
