/- Fewer acts that do the same: the numbers. -/
import Derived.Test.YtbbdaamhajecfaaDoorActE
import Derived.Test.YtbbdaamhajecfaaDoorAvals
namespace Go.Proofs.YtbbdaamhajecfaaDoor
set_option linter.unusedVariables false
set_option linter.unusedSimpArgs false
def isCnt (k : Int) : Bool := k == 1 || k == 2
/-- the last act of a list -/
def lastA (l : List (Int × Int)) : Int × Int := l[l.length - 1]?.getD (0, 0)
/-- do the last act and the next one join -/
def joins (l : List (Int × Int)) (k : Int) : Bool := decide (1 ≤ l.length) && (lastA l).1 == k && k != 5
def shStep (l : List (Int × Int)) (k n : Int) : List (Int × Int) :=
  if isCnt k && n == 0 then l
  else if joins l k then l.set (l.length - 1) (k, if isCnt k then (lastA l).2 + n else n)
  else l ++ [(k, n)]
def shF (js : List (Int × Int)) : Nat → List (Int × Int)
  | 0 => []
  | j + 1 => shStep (shF js j) (ak js j) (an js j)
theorem shStep_len (l : List (Int × Int)) (k n : Int) : (shStep l k n).length ≤ l.length + 1 := by
  unfold shStep
  split
  · omega
  · split
    · simp
    · simp
theorem shF_len (js : List (Int × Int)) : ∀ j, (shF js j).length ≤ j
  | 0 => Nat.le_refl _
  | j + 1 => by have := shF_len js j; have := shStep_len (shF js j) (ak js j) (an js j); rw [shF]; omega
/-- each act is valid, or its sum is too great -/
def invA (m : Int) (l : List (Int × Int)) : Prop := ∀ i, i < l.length → (okAct (ak l i) (an l i) = true ∨ (isCnt (ak l i) = true ∧ 1000000000000 < an l i)) ∧ an l i ≤ m
def bigA (l : List (Int × Int)) : Prop := ∃ i, i < l.length ∧ isCnt (ak l i) = true ∧ 1000000000000 < an l i
theorem isCnt_iff (k : Int) : isCnt k = true ↔ k = 1 ∨ k = 2 := by simp [isCnt]
theorem okAct_cnt {k n : Int} (h : isCnt k = true) : okAct k n = (decide (0 ≤ n) && decide (n ≤ 1000000000000)) := okAct_count ((isCnt_iff k).1 h)
theorem ak_last (l : List (Int × Int)) : ak l (l.length - 1) = (lastA l).1 ∧ an l (l.length - 1) = (lastA l).2 := ⟨rfl, rfl⟩
theorem ak_set (l : List (Int × Int)) (i j : Nat) (p : Int × Int) (hi : i < l.length) : (ak (l.set i p) j, an (l.set i p) j) = if i = j then p else (ak l j, an l j) := by
  unfold ak an
  rw [List.getElem?_set]
  by_cases h : i = j
  · subst h; simp [hi]
  · simp [h]
theorem ak_app (l : List (Int × Int)) (p : Int × Int) (j : Nat) : (ak (l ++ [p]) j, an (l ++ [p]) j) = if j = l.length then p else (ak l j, an l j) := by
  unfold ak an
  by_cases h : j = l.length
  · subst h; simp
  · by_cases h2 : j < l.length
    · simp [h, List.getElem?_append_left h2]
    · simp [h, List.getElem?_append_right (show l.length ≤ j by omega), List.getElem?_eq_none (show l.length ≤ j by omega)]
      rw [List.getElem?_eq_none (by simp; omega)]; simp
theorem joins_out {l : List (Int × Int)} {k : Int} (h : joins l k = true) : 1 ≤ l.length ∧ (lastA l).1 = k ∧ k ≠ 5 := by
  simp [joins] at h
  exact ⟨h.1.1, h.1.2, h.2⟩
theorem inv_step {m : Int} {l : List (Int × Int)} {k n : Int} (h : invA m l) (hm : 0 ≤ m) (ho : okAct k n = true) : invA (m + 1000000000000) (shStep l k n) := by
  have hb := okAct_bd ho
  unfold shStep
  split
  · intro i hi; have := h i hi; exact ⟨this.1, by omega⟩
  · split
    · next hj =>
      obtain ⟨h1, h2, h3⟩ := joins_out hj
      intro i hi
      rw [List.length_set] at hi
      have e := ak_set l (l.length - 1) i (k, if isCnt k then (lastA l).2 + n else n) (by omega)
      by_cases hil : l.length - 1 = i
      · rw [if_pos hil] at e
        have e1 : ak (l.set (l.length - 1) (k, if isCnt k then (lastA l).2 + n else n)) i = k := congrArg Prod.fst e
        have e2 : an (l.set (l.length - 1) (k, if isCnt k then (lastA l).2 + n else n)) i = if isCnt k then (lastA l).2 + n else n := congrArg Prod.snd e
        rw [e1, e2]
        have hl := h (l.length - 1) (by omega)
        rw [(ak_last l).1, (ak_last l).2, h2] at hl
        by_cases hc : isCnt k = true
        · rw [if_pos hc]
          have k3 : k ≠ 3 := by rcases (isCnt_iff k).1 hc with h | h <;> omega
          have hn := hb.2.2.1 k3
          refine ⟨?_, by omega⟩
          rw [okAct_cnt hc] at hl ⊢
          by_cases hg : (lastA l).2 + n ≤ 1000000000000
          · left
            rcases hl.1 with hl1 | hl1
            · simp at hl1 ⊢; omega
            · omega
          · right; exact ⟨hc, by omega⟩
        · rw [if_neg hc]
          exact ⟨.inl ho, by omega⟩
      · rw [if_neg hil] at e
        have e1 := congrArg Prod.fst e; have e2 := congrArg Prod.snd e
        simp only at e1 e2
        rw [e1, e2]
        have := h i hi
        exact ⟨this.1, by omega⟩
    · intro i hi
      rw [List.length_append, List.length_singleton] at hi
      have e := ak_app l (k, n) i
      by_cases hil : i = l.length
      · rw [if_pos hil] at e
        have e1 := congrArg Prod.fst e; have e2 := congrArg Prod.snd e
        simp only at e1 e2
        rw [e1, e2]
        exact ⟨.inl ho, by omega⟩
      · rw [if_neg hil] at e
        have e1 := congrArg Prod.fst e; have e2 := congrArg Prod.snd e
        simp only at e1 e2
        rw [e1, e2]
        have := h i (by omega)
        exact ⟨this.1, by omega⟩
theorem inv_F {js : List (Int × Int)} (ha : okATo js js.length) : ∀ j, j ≤ js.length → invA (1000000000000 * j) (shF js j)
  | 0, _ => fun i hi => by simp [shF] at hi
  | j + 1, hj => by
    have := inv_step (inv_F ha j (by omega)) (by omega) (ha j (by omega))
    rw [shF]
    rw [show (1000000000000 * ((j + 1 : Nat) : Int)) = 1000000000000 * (j : Int) + 1000000000000 by omega]
    exact this
theorem big_step {l : List (Int × Int)} {k n : Int} (h : bigA l) (ho : okAct k n = true) : bigA (shStep l k n) := by
  have hb := okAct_bd ho
  obtain ⟨i, hi, h1, h2⟩ := h
  unfold shStep
  split
  · exact ⟨i, hi, h1, h2⟩
  · split
    · next hj =>
      obtain ⟨j1, j2, j3⟩ := joins_out hj
      refine ⟨i, by rw [List.length_set]; exact hi, ?_⟩
      have e := ak_set l (l.length - 1) i (k, if isCnt k then (lastA l).2 + n else n) (by omega)
      by_cases hil : l.length - 1 = i
      · rw [if_pos hil] at e
        have e1 := congrArg Prod.fst e; have e2 := congrArg Prod.snd e
        simp only at e1 e2
        rw [e1, e2]
        rw [← hil, (ak_last l).1, j2] at h1
        rw [← hil, (ak_last l).2] at h2
        have k3 : k ≠ 3 := by rcases (isCnt_iff k).1 h1 with h | h <;> omega
        have hn := hb.2.2.1 k3
        rw [if_pos h1]
        exact ⟨h1, by omega⟩
      · rw [if_neg hil] at e
        have e1 := congrArg Prod.fst e; have e2 := congrArg Prod.snd e
        simp only at e1 e2
        rw [e1, e2]
        exact ⟨h1, h2⟩
    · refine ⟨i, by rw [List.length_append]; omega, ?_⟩
      have e := ak_app l (k, n) i
      rw [if_neg (by omega)] at e
      have e1 := congrArg Prod.fst e; have e2 := congrArg Prod.snd e
      simp only at e1 e2
      rw [e1, e2]
      exact ⟨h1, h2⟩
theorem big_F {js : List (Int × Int)} (ha : okATo js js.length) {j : Nat} (h : bigA (shF js j)) : ∀ m, j ≤ m → m ≤ js.length → bigA (shF js m)
  | 0, hj, _ => by have : j = 0 := by omega
                   subst this; exact h
  | m + 1, hj, hm => by
    by_cases e : j = m + 1
    · subst e; exact h
    · exact big_step (big_F ha h m (by omega) (by omega)) (ha m (by omega))
theorem okAs_big {m : Int} {l : List (Int × Int)} (h : invA m l) : okAs l = true ↔ ¬ bigA l := by
  constructor
  · intro ho ⟨i, hi, h1, h2⟩
    have := okAs_out ho i hi
    rw [okAct_cnt h1] at this
    simp at this
    omega
  · intro hb
    apply okAs_of
    intro i hi
    rcases (h i hi).1 with h1 | h1
    · exact h1
    · exact absurd ⟨i, hi, h1⟩ hb
/-- what ShortActs gives -/
def shC (js : List (Int × Int)) : Int := if okAs js = false then 1 else if 60 < js.length then 3 else if okAs (shF js js.length) = false then 2 else 0
def shL (js : List (Int × Int)) : List (Int × Int) := if shC js = 0 then shF js js.length else []
theorem avals_set (l : List (Int × Int)) (i : Nat) (k n : Int) (rest : List Value) (hi : i < l.length) : ((avals l ++ rest).set (i * 2) (.int .i8 k)).set (i * 2 + 1) (.int .i64 n) = avals (l.set i (k, n)) ++ rest := by
  have h1 := avals_len l
  have h2 := avals_len (l.set i (k, n))
  rw [List.length_set] at h2
  rw [List.set_append_left _ _ (by omega), List.set_append_left _ _ (by rw [List.length_set]; omega)]
  congr 1
  apply List.ext_getElem?
  intro q
  simp only [List.getElem?_set, List.length_set]
  by_cases hq : q < l.length * 2
  · obtain ⟨r, hr⟩ : ∃ r, q = r * 2 ∨ q = r * 2 + 1 := ⟨q / 2, by omega⟩
    have hrl : r < l.length := by omega
    have g1 := avals_get l [] r hrl
    have g2 := avals_get (l.set i (k, n)) [] r (by rw [List.length_set]; exact hrl)
    rw [List.append_nil] at g1 g2
    have e := ak_set l i r (k, n) hi
    by_cases hir : i = r
    · subst hir
      rw [if_pos rfl] at e
      have e1 := congrArg Prod.fst e; have e2 := congrArg Prod.snd e
      simp only at e1 e2
      rw [e1, e2] at g2
      rcases hr with rfl | rfl
      · rw [g2.1]; simp [h1]; omega
      · rw [g2.2]; simp [h1]; omega
    · rw [if_neg hir] at e
      have e1 := congrArg Prod.fst e; have e2 := congrArg Prod.snd e
      simp only at e1 e2
      rw [e1, e2] at g2
      rcases hr with rfl | rfl
      · rw [g2.1, if_neg (by omega), if_neg (by omega), g1.1]
      · rw [g2.2, if_neg (by omega), if_neg (by omega), g1.2]
  · rw [List.getElem?_eq_none (show (avals (l.set i (k, n))).length ≤ q by omega), if_neg (by omega), if_neg (by omega), List.getElem?_eq_none (by omega)]
theorem avals_app (l : List (Int × Int)) (k n : Int) : avals (l ++ [(k, n)]) = avals l ++ [.int .i8 k, .int .i64 n] := avals_snoc l k n
end Go.Proofs.YtbbdaamhajecfaaDoor
