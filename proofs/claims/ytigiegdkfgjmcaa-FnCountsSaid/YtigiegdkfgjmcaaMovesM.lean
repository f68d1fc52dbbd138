/- The moves of the wheels, as numbers. -/
import Derived.Test.YtigiegdkfgjmcaaMath
namespace Go.Proofs.Ytigiegdkfgjmcaa
open Go
/-- how far wheel k is moved -/
def mvK (zs : List Int) (T c : Int) (k : Nat) : Int := (T + c) / szL (zs.take k) - T / szL (zs.take k)
def mvL (zs : List Int) (T c : Int) : List Int := (List.range 8).map fun k => if k < zs.length then mvK zs T c k else 0
theorem mvL_get (zs : List Int) (T c : Int) (k : Nat) (hk : k < 8) : (mvL zs T c)[k]?.getD 0 = if k < zs.length then mvK zs T c k else 0 := by simp [mvL, hk]
def zeroI8 : List Value := [.int .i64 0, .int .i64 0, .int .i64 0, .int .i64 0, .int .i64 0, .int .i64 0, .int .i64 0, .int .i64 0]
def mfold {n : Nat} (zs : List Int) (T c : Int) (pre : List (Fin n)) : List Value := pre.foldl (fun l x => l.set x.1 (.int .i64 (mvK zs T c x.1))) zeroI8
theorem mfold_snoc {n : Nat} (zs : List Int) (T c : Int) (pre : List (Fin n)) (x : Fin n) : mfold zs T c (pre ++ [x]) = (mfold zs T c pre).set x.1 (.int .i64 (mvK zs T c x.1)) := by simp [mfold]
theorem mfold_len {n : Nat} (zs : List Int) (T c : Int) (pre : List (Fin n)) : (mfold zs T c pre).length = 8 := by
  have key : ∀ (pre : List (Fin n)) (l : List Value), l.length = 8 → (pre.foldl (fun l x => l.set x.1 (Value.int .i64 (mvK zs T c x.1))) l).length = 8 := by
    intro pre
    induction pre with
    | nil => intro l h; exact h
    | cons x xs ih => intro l h; exact ih _ (by simp [h])
  exact key pre zeroI8 rfl
/-- what k wheels have made -/
def mto (zs : List Int) (T c : Int) (k : Nat) : List Value := (List.range 8).map fun j => .int .i64 (if j < k then mvK zs T c j else 0)
theorem mto_succ (zs : List Int) (T c : Int) (k : Nat) (hk : k < 8) : (mto zs T c k).set k (.int .i64 (mvK zs T c k)) = mto zs T c (k + 1) := by
  apply List.ext_getElem?
  intro j
  simp only [mto, List.getElem?_set, List.getElem?_map, List.length_map, List.length_range]
  by_cases hj : k = j
  · subst hj
    simp [hk]
  · rw [if_neg hj]
    by_cases h8 : j < 8
    · simp only [List.getElem?_range h8, Option.map_some]
      by_cases h : j < k
      · rw [if_pos h, if_pos (by omega)]
      · rw [if_neg h, if_neg (by omega)]
    · simp [List.getElem?_eq_none (show (List.range 8).length ≤ j by simp; omega)]
theorem mto_zero (zs : List Int) (T c : Int) : mto zs T c 0 = zeroI8 := rfl
theorem mto_len (zs : List Int) (T c : Int) (k : Nat) : (mto zs T c k).length = 8 := by simp [mto]
theorem mfold_take {n : Nat} (zs : List Int) (T c : Int) (h8 : n ≤ 8) : ∀ k, k ≤ n → mfold zs T c ((List.finRange n).take k) = mto zs T c k
  | 0, _ => rfl
  | k + 1, hk => by
    rw [finTake_succ n k (by omega), mfold_snoc, mfold_take zs T c h8 k (by omega)]
    exact mto_succ zs T c k (by omega)
def mg (l : List Int) (i : Nat) : Int := l[i]?.getD 0
theorem mto_all (zs : List Int) (T c : Int) : mto zs T c zs.length = [.int .i64 (mg (mvL zs T c) 0), .int .i64 (mg (mvL zs T c) 1), .int .i64 (mg (mvL zs T c) 2), .int .i64 (mg (mvL zs T c) 3), .int .i64 (mg (mvL zs T c) 4), .int .i64 (mg (mvL zs T c) 5), .int .i64 (mg (mvL zs T c) 6), .int .i64 (mg (mvL zs T c) 7)] := by
  have e : ∀ k, k < 8 → mg (mvL zs T c) k = if k < zs.length then mvK zs T c k else 0 := fun k hk => mvL_get zs T c k hk
  rw [e 0 (by omega), e 1 (by omega), e 2 (by omega), e 3 (by omega), e 4 (by omega), e 5 (by omega), e 6 (by omega), e 7 (by omega)]
  rfl
theorem mfold_all {n : Nat} (zs : List Int) (T c : Int) (hn : n = zs.length) (h8 : n ≤ 8) : mfold zs T c (List.finRange n) = [.int .i64 (mg (mvL zs T c) 0), .int .i64 (mg (mvL zs T c) 1), .int .i64 (mg (mvL zs T c) 2), .int .i64 (mg (mvL zs T c) 3), .int .i64 (mg (mvL zs T c) 4), .int .i64 (mg (mvL zs T c) 5), .int .i64 (mg (mvL zs T c) 6), .int .i64 (mg (mvL zs T c) 7)] := by
  have := mfold_take zs T c h8 n (Nat.le_refl _)
  rw [finTake_all] at this
  rw [this, hn, mto_all]
/-- the answer: the moves, and the code -/
def movR (zs ds : List Int) (c : Int) : List Int × Int := if okV zs ds then (if -1000000000000 ≤ c ∧ c ≤ 1000000000000 then (mvL zs (valL zs ds zs.length) c, 0) else ([], 2)) else ([], 1)
theorem movR_no {zs ds : List Int} (c : Int) (h : okV zs ds = false) : movR zs ds c = ([], 1) := by simp [movR, h]
theorem movR_out {zs ds : List Int} (c : Int) (h : okV zs ds = true) (hc : ¬ (-1000000000000 ≤ c ∧ c ≤ 1000000000000)) : movR zs ds c = ([], 2) := by simp only [movR, h, if_true, if_neg hc]
theorem movR_yes {zs ds : List Int} (c : Int) (h : okV zs ds = true) (hc : -1000000000000 ≤ c ∧ c ≤ 1000000000000) : movR zs ds c = (mvL zs (valL zs ds zs.length) c, 0) := by simp only [movR, h, if_true, if_pos hc]
end Go.Proofs.Ytigiegdkfgjmcaa
