/- Lists of acts, cell by cell; plain. -/
import Derived.Test.YtoenefhobjpfdaaGreatDoorActs
namespace Go.Proofs.YtoenefhobjpfdaaGreatDoor
open Go.RowKit
set_option linter.unusedSimpArgs false
/-- the cells of acts, one behind the other -/
def acell (js : List (Int × Int)) (i : Nat) : Value := if i % 2 = 0 then .int .i8 (ak js (i / 2)) else .int .i64 (an js (i / 2))
theorem acell_even (js : List (Int × Int)) (k : Nat) : acell js (k * 2) = .int .i8 (ak js k) := by
  have h1 : (k * 2) % 2 = 0 := by omega
  have h2 : (k * 2) / 2 = k := by omega
  rw [acell, if_pos h1, h2]
theorem acell_odd (js : List (Int × Int)) (k : Nat) : acell js (k * 2 + 1) = .int .i64 (an js k) := by
  have h1 : ¬ (k * 2 + 1) % 2 = 0 := by omega
  have h2 : (k * 2 + 1) / 2 = k := by omega
  rw [acell, if_neg h1, h2]
def avals (js : List (Int × Int)) : List Value := (List.range (js.length * 2)).map (acell js)
theorem avals_len (js : List (Int × Int)) : (avals js).length = js.length * 2 := by simp [avals]
theorem avals_at (ks : List (Int × Int)) (i : Nat) : (avals ks)[i]? = if i < ks.length * 2 then some (acell ks i) else none := by
  by_cases hi : i < ks.length * 2
  · rw [if_pos hi]; simp [avals, hi]
  · rw [if_neg hi]; exact List.getElem?_eq_none (by rw [avals_len]; omega)
theorem avals_get (js : List (Int × Int)) (rest : List Value) (j : Nat) (hj : j < js.length) : (avals js ++ rest)[j * 2]? = some (.int .i8 (ak js j)) ∧ (avals js ++ rest)[j * 2 + 1]? = some (.int .i64 (an js j)) := by
  rw [List.getElem?_append_left (by rw [avals_len]; omega), List.getElem?_append_left (by rw [avals_len]; omega), avals_at, avals_at, if_pos (by omega), if_pos (by omega), acell_even, acell_odd]
  exact ⟨rfl, rfl⟩
theorem avals_snoc (js : List (Int × Int)) (x y : Int) : avals (js ++ [(x, y)]) = avals js ++ [.int .i8 x, .int .i64 y] := by
  apply List.ext_getElem?
  intro i
  rw [avals_at]
  by_cases h : i < js.length * 2
  · rw [if_pos (by simp; omega), List.getElem?_append_left (by rw [avals_len]; exact h), avals_at, if_pos h]
    simp only [acell, ak, an, List.getElem?_append_left (show i / 2 < js.length by omega)]
  · by_cases h0 : i = js.length * 2
    · subst h0
      rw [if_pos (by simp), acell_even, List.getElem?_append_right (by rw [avals_len]; exact Nat.le_refl _), avals_len, Nat.sub_self]
      simp [ak]
    · by_cases h1 : i = js.length * 2 + 1
      · subst h1
        rw [if_pos (by simp; omega), acell_odd, List.getElem?_append_right (by rw [avals_len]; omega), avals_len, Nat.add_sub_cancel_left]
        simp [an]
      · rw [if_neg (by simp; omega), List.getElem?_eq_none (by simp [avals_len]; omega)]
def mk8 (i : Int) : Int := IntKind.i8.wrap i
/-- the marks that are written -/
def marksA (n : Nat) : List (Int × Int) := (List.range n).map fun (j : Nat) => (mk8 (1 + 2 * (j : Int)), (1 + 2 * (j : Int) + 1))
theorem marksA_len (n : Nat) : (marksA n).length = n := by simp [marksA]
def halfA (js : List (Int × Int)) (k : Nat) : List (Int × Int) := marksA k ++ js.drop k
theorem halfA_len (js : List (Int × Int)) (k : Nat) (h : k ≤ js.length) : (halfA js k).length = js.length := by simp [halfA, marksA]; omega
theorem halfA_zero (js : List (Int × Int)) : halfA js 0 = js := by simp [halfA, marksA]
theorem halfA_all (js : List (Int × Int)) : halfA js js.length = marksA js.length := by simp [halfA]
theorem halfA_get (js : List (Int × Int)) (k j : Nat) : (halfA js k)[j]? = if j < k then some (mk8 (1 + 2 * (j : Int)), (1 + 2 * (j : Int) + 1)) else js[j]? := by
  by_cases h : j < k
  · rw [if_pos h, halfA, List.getElem?_append_left (by rw [marksA_len]; exact h)]
    simp [marksA, h]
  · rw [if_neg h, halfA, List.getElem?_append_right (by rw [marksA_len]; omega), marksA_len, List.getElem?_drop, show k + (j - k) = j from by omega]
theorem halfA_set (js : List (Int × Int)) (rest : List Value) (k : Nat) (h : k < js.length) :
    ((avals (halfA js k) ++ rest).set (k * 2) (.int .i8 (mk8 (1 + 2 * (k : Int))))).set (k * 2 + 1) (.int .i64 ((1 + 2 * (k : Int) + 1))) = avals (halfA js (k + 1)) ++ rest := by
  have l1 := halfA_len js k (by omega)
  have l2 := halfA_len js (k + 1) (by omega)
  rw [List.set_append_left _ _ (by rw [avals_len, l1]; omega), List.set_append_left _ _ (by rw [List.length_set, avals_len, l1]; omega)]
  congr 1
  apply List.ext_getElem?
  intro i
  simp only [List.getElem?_set, List.length_set, avals_len, l1]
  have G := avals_at
  rw [G, G, l1, l2]
  by_cases hi : i < js.length * 2
  · rw [if_pos hi, if_pos hi]
    by_cases e1 : k * 2 + 1 = i
    · subst e1
      rw [if_pos rfl, if_pos (by omega), acell_odd, an, halfA_get, if_pos (by omega)]
      rfl
    · rw [if_neg e1]
      by_cases e2 : k * 2 = i
      · subst e2
        rw [if_pos rfl, if_pos (by omega), acell_even, ak, halfA_get, if_pos (by omega)]
        rfl
      · rw [if_neg e2]
        have hx : acell (halfA js k) i = acell (halfA js (k + 1)) i := by
          have g : (halfA js k)[i / 2]? = (halfA js (k + 1))[i / 2]? := by
            rw [halfA_get, halfA_get]
            by_cases h3 : i / 2 < k
            · rw [if_pos h3, if_pos (by omega)]
            · rw [if_neg h3, if_neg (by omega)]
          simp only [acell, ak, an, g]
        rw [hx]
  · rw [if_neg (by omega), if_neg (by omega), if_neg hi]
    rw [if_neg hi]
theorem marksA_get (n k : Nat) (h : k < n) : ak (marksA n) k = mk8 (1 + 2 * (k : Int)) ∧ an (marksA n) k = (1 + 2 * (k : Int) + 1) := by
  simp [ak, an, marksA, h]
end Go.Proofs.YtoenefhobjpfdaaGreatDoor
