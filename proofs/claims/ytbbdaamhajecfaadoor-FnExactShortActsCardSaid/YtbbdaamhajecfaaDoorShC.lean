/- ShortActs, case by case. -/
import Derived.Test.YtbbdaamhajecfaaDoorShB
namespace Go.Proofs.YtbbdaamhajecfaaDoor
open Go.RowKit
set_option linter.unusedVariables false
set_option linter.unusedSimpArgs false
theorem st_idle {l : List (Int × Int)} {k n : Int} (h : (isCnt k && n == 0) = true) : shStep l k n = l := by rw [shStep, if_pos h]
theorem st_app {l : List (Int × Int)} {k n : Int} (h : (isCnt k && n == 0) = false) (j : joins l k = false) : shStep l k n = l ++ [(k, n)] := by rw [shStep, if_neg (by rw [h]; decide), if_neg (by rw [j]; decide)]
theorem st_cnt {l : List (Int × Int)} {k n : Int} (h : (isCnt k && n == 0) = false) (j : joins l k = true) (c : isCnt k = true) : shStep l k n = l.set (l.length - 1) (k, (lastA l).2 + n) := by rw [shStep, if_neg (by rw [h]; decide), if_pos j, if_pos c]
theorem st_set {l : List (Int × Int)} {k n : Int} (h : (isCnt k && n == 0) = false) (j : joins l k = true) (c : isCnt k = false) : shStep l k n = l.set (l.length - 1) (k, n) := by rw [shStep, if_neg (by rw [h]; decide), if_pos j, if_neg (by rw [c]; decide)]
theorem shC_bad {js : List (Int × Int)} (h : okAs js = false) : shC js = 1 ∧ shL js = [] := by
  have e : shC js = 1 := by rw [shC, if_pos h]
  exact ⟨e, by rw [shL, if_neg (by rw [e]; decide)]⟩
theorem shC_long {js : List (Int × Int)} (h : okAs js = true) (h6 : 60 < js.length) : shC js = 3 ∧ shL js = [] := by
  have e : shC js = 3 := by rw [shC, if_neg (by rw [h]; decide), if_pos h6]
  exact ⟨e, by rw [shL, if_neg (by rw [e]; decide)]⟩
theorem shC_big {js : List (Int × Int)} (h : okAs js = true) (h6 : ¬ 60 < js.length) {j : Nat} (hj : j ≤ js.length) (hb : bigA (shF js j)) : shC js = 2 ∧ shL js = [] := by
  have ha := okAs_out h
  have hB := big_F ha hb js.length hj (Nat.le_refl _)
  have ho : okAs (shF js js.length) = false := by
    cases e : okAs (shF js js.length) with
    | false => rfl
    | true => exact absurd hB ((okAs_big (inv_F ha js.length (Nat.le_refl _))).1 e)
  have e : shC js = 2 := by rw [shC, if_neg (by rw [h]; decide), if_neg h6, if_pos ho]
  exact ⟨e, by rw [shL, if_neg (by rw [e]; decide)]⟩
theorem shC_ok {js : List (Int × Int)} (h : okAs js = true) (h6 : ¬ 60 < js.length) (hb : ¬ bigA (shF js js.length)) : shC js = 0 ∧ shL js = shF js js.length ∧ okAs (shF js js.length) = true := by
  have ha := okAs_out h
  have ho := (okAs_big (inv_F ha js.length (Nat.le_refl _))).2 hb
  have e : shC js = 0 := by rw [shC, if_neg (by rw [h]; decide), if_neg h6, if_neg (by rw [ho]; decide)]
  exact ⟨e, by rw [shL, if_pos e], ho⟩
theorem big_zero (js : List (Int × Int)) : ¬ bigA (shF js 0) := fun ⟨i, hi, _⟩ => by simp [shF] at hi
/-- what is appended or set is not too great -/
theorem big_app {l : List (Int × Int)} {k n : Int} (h : ¬ bigA l) (ho : okAct k n = true) : ¬ bigA (l ++ [(k, n)]) := by
  rintro ⟨i, hi, h1, h2⟩
  rw [List.length_append, List.length_singleton] at hi
  have e := ak_app l (k, n) i
  have e1 := congrArg Prod.fst e; have e2 := congrArg Prod.snd e
  simp only at e1 e2
  rw [e1] at h1; rw [e2] at h2
  by_cases hil : i = l.length
  · rw [if_pos hil] at h1 h2
    rw [okAct_cnt h1] at ho
    simp at ho; omega
  · rw [if_neg hil] at h1 h2
    exact h ⟨i, by omega, h1, h2⟩
theorem big_set {l : List (Int × Int)} {k x : Int} (h : ¬ bigA l) (hl : 1 ≤ l.length) (hx : x ≤ 1000000000000) : ¬ bigA (l.set (l.length - 1) (k, x)) := by
  rintro ⟨i, hi, h1, h2⟩
  rw [List.length_set] at hi
  have e := ak_set l (l.length - 1) i (k, x) (by omega)
  have e1 := congrArg Prod.fst e; have e2 := congrArg Prod.snd e
  simp only at e1 e2
  rw [e1] at h1; rw [e2] at h2
  by_cases hil : l.length - 1 = i
  · rw [if_pos hil] at h1 h2
    simp only at h2; omega
  · rw [if_neg hil] at h1 h2
    exact h ⟨i, hi, h1, h2⟩
theorem big_last {l : List (Int × Int)} {k x : Int} (hl : 1 ≤ l.length) (hc : isCnt k = true) (hx : 1000000000000 < x) : bigA (l.set (l.length - 1) (k, x)) := by
  refine ⟨l.length - 1, by rw [List.length_set]; omega, ?_⟩
  have e := ak_set l (l.length - 1) (l.length - 1) (k, x) (by omega)
  rw [if_pos rfl] at e
  have e1 := congrArg Prod.fst e; have e2 := congrArg Prod.snd e
  simp only at e1 e2
  rw [e1, e2]; exact ⟨hc, hx⟩
/-- acts of its own and a code -/
def ShG (E : List (Int × Int)) (c : Int) (w : World) (e : Ending) (w' : World) : Prop :=
  ∃ v, e = .returned (.tuple #[v, .int .i64 c]) ∧ OwnA w' w.heap.size v E ∧ Below w.heap.size w w'
theorem lastA_get (l : List (Int × Int)) (rest : List Value) (h : 1 ≤ l.length) : (avals l ++ rest)[(l.length - 1) * 2]? = some (.int .i8 (lastA l).1) ∧ (avals l ++ rest)[(l.length - 1) * 2 + 1]? = some (.int .i64 (lastA l).2) := avals_get l rest (l.length - 1) (by omega)
theorem lastA_inv {m : Int} {l : List (Int × Int)} (h : invA m l) (hl : 1 ≤ l.length) : (okAct (lastA l).1 (lastA l).2 = true ∨ (isCnt (lastA l).1 = true ∧ 1000000000000 < (lastA l).2)) ∧ (lastA l).2 ≤ m := by
  have := h (l.length - 1) (by omega)
  rw [(ak_last l).1, (ak_last l).2] at this
  exact this
end Go.Proofs.YtbbdaamhajecfaaDoor
