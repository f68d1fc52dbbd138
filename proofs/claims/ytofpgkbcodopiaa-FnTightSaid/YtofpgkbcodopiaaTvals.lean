/- Lists of pairs of numbers, cell by cell; plain. -/
import Derived.Test.YtofpgkbcodopiaaMgP
namespace Go.Proofs.Ytofpgkbcodopiaa
open Go.RowKit
set_option linter.unusedSimpArgs false
/-- the numbers of a train, one behind the other -/
def numr (js : List (Int × Int)) (i : Nat) : Int := if i % 2 = 0 then rd js (i / 2) else rv js (i / 2)
def numrs (js : List (Int × Int)) (k : Nat) : List Int := (List.range k).map (numr js)
theorem numrs_zero (js : List (Int × Int)) : numrs js 0 = [] := rfl
theorem numrs_len (js : List (Int × Int)) (k : Nat) : (numrs js k).length = k := by simp [numrs]
theorem numrs_succ (js : List (Int × Int)) (k : Nat) : numrs js (k + 1) = numrs js k ++ [numr js k] := by simp [numrs, List.range_succ]
theorem numrs_get (js : List (Int × Int)) (k j : Nat) (h : j < k) : (numrs js k)[j]? = some (numr js j) := by simp [numrs, h]
theorem numr_even (js : List (Int × Int)) (k : Nat) : numr js (k * 2) = rd js k := by
  have h1 : (k * 2) % 2 = 0 := by omega
  have h2 : (k * 2) / 2 = k := by omega
  rw [numr, if_pos h1, h2]
theorem numr_odd (js : List (Int × Int)) (k : Nat) : numr js (k * 2 + 1) = rv js k := by
  have h1 : ¬ (k * 2 + 1) % 2 = 0 := by omega
  have h2 : (k * 2 + 1) / 2 = k := by omega
  rw [numr, if_neg h1, h2]

def tvals (js : List (Int × Int)) : List Value := (numrs js (js.length * 2)).map (Value.int .i64)
theorem tvals_len (js : List (Int × Int)) : (tvals js).length = js.length * 2 := by simp [tvals, numrs_len]
theorem tvals_get (js : List (Int × Int)) (rest : List Value) (j : Nat) (hj : j < js.length) : (tvals js ++ rest)[j * 2]? = some (.int .i64 (rd js j)) ∧ (tvals js ++ rest)[j * 2 + 1]? = some (.int .i64 (rv js j)) := by
  rw [List.getElem?_append_left (by rw [tvals_len]; omega), List.getElem?_append_left (by rw [tvals_len]; omega)]
  simp only [tvals, List.getElem?_map]
  rw [numrs_get _ _ _ (by omega), numrs_get _ _ _ (by omega), numr_even, numr_odd]
  exact ⟨rfl, rfl⟩
/-- the marks that are written -/
def marksG (n : Nat) : List (Int × Int) := (List.range n).map fun (j : Nat) => ((1 + 2 * (j : Int)), (1 + 2 * (j : Int) + 1))
theorem marksG_len (n : Nat) : (marksG n).length = n := by simp [marksG]
def halfG (js : List (Int × Int)) (k : Nat) : List (Int × Int) := marksG k ++ js.drop k
theorem halfG_len (js : List (Int × Int)) (k : Nat) (h : k ≤ js.length) : (halfG js k).length = js.length := by simp [halfG, marksG]; omega
theorem halfG_zero (js : List (Int × Int)) : halfG js 0 = js := by simp [halfG, marksG]
theorem halfG_all (js : List (Int × Int)) : halfG js js.length = marksG js.length := by simp [halfG]
theorem halfG_get (js : List (Int × Int)) (k j : Nat) : (halfG js k)[j]? = if j < k then some ((1 + 2 * (j : Int)), (1 + 2 * (j : Int) + 1)) else js[j]? := by
  by_cases h : j < k
  · rw [if_pos h, halfG, List.getElem?_append_left (by rw [marksG_len]; exact h)]
    simp [marksG, h]
  · rw [if_neg h, halfG, List.getElem?_append_right (by rw [marksG_len]; omega), marksG_len, List.getElem?_drop, show k + (j - k) = j from by omega]
theorem halfG_set (js : List (Int × Int)) (rest : List Value) (k : Nat) (h : k < js.length) :
    ((tvals (halfG js k) ++ rest).set (k * 2) (.int .i64 ((1 + 2 * (k : Int))))).set (k * 2 + 1) (.int .i64 ((1 + 2 * (k : Int) + 1))) = tvals (halfG js (k + 1)) ++ rest := by
  have l1 := halfG_len js k (by omega)
  have l2 := halfG_len js (k + 1) (by omega)
  rw [List.set_append_left _ _ (by rw [tvals_len, l1]; omega), List.set_append_left _ _ (by rw [List.length_set, tvals_len, l1]; omega)]
  congr 1
  apply List.ext_getElem?
  intro i
  simp only [List.getElem?_set, List.length_set, tvals_len, l1]
  have G : ∀ (ks : List (Int × Int)) (i : Nat), (tvals ks)[i]? = if i < ks.length * 2 then some (.int .i64 (numr ks i)) else none := fun ks i => by
    by_cases hi : i < ks.length * 2
    · rw [if_pos hi]; simp only [tvals, List.getElem?_map]; rw [numrs_get _ _ _ hi]; rfl
    · rw [if_neg hi]; exact List.getElem?_eq_none (by rw [tvals_len]; omega)
  rw [G, G, l1, l2]
  by_cases hi : i < js.length * 2
  · rw [if_pos hi, if_pos hi]
    by_cases e1 : k * 2 + 1 = i
    · subst e1
      rw [if_pos rfl, if_pos (by omega), numr_odd, rv, halfG_get, if_pos (by omega)]
      rfl
    · rw [if_neg e1]
      by_cases e2 : k * 2 = i
      · subst e2
        rw [if_pos rfl, if_pos (by omega), numr_even, rd, halfG_get, if_pos (by omega)]
        rfl
      · rw [if_neg e2]
        have hx : numr (halfG js k) i = numr (halfG js (k + 1)) i := by
          have g : (halfG js k)[i / 2]? = (halfG js (k + 1))[i / 2]? := by
            rw [halfG_get, halfG_get]
            by_cases h3 : i / 2 < k
            · rw [if_pos h3, if_pos (by omega)]
            · rw [if_neg h3, if_neg (by omega)]
          simp only [numr, rd, rv, g]
        rw [hx]
  · rw [if_neg (by omega), if_neg (by omega), if_neg hi]
    rw [if_neg hi]
theorem marksG_get (n k : Nat) (h : k < n) : rd (marksG n) k = (1 + 2 * (k : Int)) ∧ rv (marksG n) k = (1 + 2 * (k : Int) + 1) := by
  simp [rd, rv, marksG, h]
end Go.Proofs.Ytofpgkbcodopiaa
