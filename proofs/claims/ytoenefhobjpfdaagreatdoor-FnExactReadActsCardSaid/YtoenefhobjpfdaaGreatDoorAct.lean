/- Acts: a kind and a number; opened, copied, and which are valid. -/
import Derived.Test.YtoenefhobjpfdaaGreatDoorValid
import Derived.Test.YtoenefhobjpfdaaGreatDoorOpenR
namespace Go.Proofs.YtoenefhobjpfdaaGreatDoor
open Go.RowKit Go.ChangeShapes Go.WideShapes Go.ChangeAt
section
variable {H : Type} {enc : TypeId × Value → H} {P : Program} {W : World}
theorem open_act {r : Reach} {b0 : Nat} {t : TypeId} {f0 f1 : Field} {v : Value} {d : DataW H} {p : List MemPlace} (hs : P.underlying t = some (.struct #[f0, f1])) (hone : Go.Deep.oneCellFields P #[f0, f1] = true) (hC : P.cellsOf t = 2)
    (k0 : P.underlying f0.type = some (.int .i8)) (k1 : P.underlying f1.type = some (.int .i64))
    (hv : Value.okWide P W r b0 t v) (h : DataW.Trod enc P W 0 (fun _ => true) true t v d p) :
    ∃ x y : Int, v = .agg #[.int .i8 x, .int .i64 y] ∧ (-128 ≤ x ∧ x ≤ 127) ∧ I64 y := by
  obtain ⟨v0, v1, y0, y1, n, rfl, _, _, g0, g1⟩ := Go.Joins.open_agg2 hs hone hC hv h
  obtain ⟨z0, e0, _, w0⟩ := DataW.trod_int k0 g0
  obtain ⟨z1, e1, _, w1⟩ := DataW.trod_int k1 g1
  simp only [List.cons.injEq, and_true] at e0 e1
  subst e0 e1
  exact ⟨z0, z1, rfl, bounds_i8 w0, wf64 w1⟩
end
/-- an act that is valid -/
def okAct (k n : Int) : Bool :=
  if k = 1 ∨ k = 2 then decide (0 ≤ n) && decide (n ≤ 1000000000000) else if k = 3 then decide (-1 ≤ n) && decide (n ≤ 1000000000000) else if k = 4 ∨ k = 5 then decide (n = 0) else false
theorem okAct_count {k n : Int} (h : k = 1 ∨ k = 2) : okAct k n = (decide (0 ≤ n) && decide (n ≤ 1000000000000)) := if_pos h
theorem okAct_preset {n : Int} : okAct 3 n = (decide (-1 ≤ n) && decide (n ≤ 1000000000000)) := by rw [okAct, if_neg (by omega), if_pos rfl]
theorem okAct_plain {k n : Int} (h : k = 4 ∨ k = 5) : okAct k n = (n == 0) := by
  rw [okAct, if_neg (by omega), if_neg (by omega), if_pos h]
  by_cases e : n = 0
  · simp [e]
  · simp [e]
theorem okAct_none {k n : Int} (h1 : k ≠ 1) (h2 : k ≠ 2) (h3 : k ≠ 3) (h4 : k ≠ 4) (h5 : k ≠ 5) : okAct k n = false := by
  rw [okAct, if_neg (by omega), if_neg h3, if_neg (by omega)]
theorem isCount_any (n : Int) (w : World) : Calls Tryz.prog 49 #[.int .i64 n] w fun e w' => e = .returned (.bool (decide (0 ≤ n) && decide (n ≤ 1000000000000))) ∧ w = w' := by
  by_cases h : 0 ≤ n
  · have h1 : decide (0 ≤ n) = true := decide_eq_true h
    go_enter Tryz.func49, Tryz.ntmps49
    go_wp2
    go_ret
    exact ⟨by rw [h1]; rfl, rfl⟩
  · have h1 : decide (0 ≤ n) = false := decide_eq_false h
    go_enter Tryz.func49, Tryz.ntmps49
    go_wp2
    go_ret
    exact ⟨rfl, rfl⟩
theorem eqAct_same (k n : Int) (w : World) : Calls Tryz.prog 14 #[.agg #[.int .i8 k, .int .i64 n], .agg #[.int .i8 k, .int .i64 n]] w (GivesB w (.bool true)) := by
  have n1 : (k != k) = false := by simp
  have n2 : (n != n) = false := by simp
  go_enter Tryz.func14, Tryz.ntmps14
  go_wp2
  go_ret
  exact ⟨rfl, ((Below.refl _ _).alloc (Nat.le_refl _) _).alloc (by simp) _⟩
set_option maxHeartbeats 2000000 in
theorem l07Act_any (k n : Int) (w : World) : Calls Tryz.prog 17 #[.agg #[.int .i8 k, .int .i64 n]] w (GivesB w (.bool (okAct k n))) := by
  by_cases h1 : k = 1
  · subst h1
    rw [okAct_count (by omega)]
    go_enter Tryz.func17, Tryz.ntmps17
    go_wp2_with fail
    refine (inr_any _ _ _ _).mono ?_
    rintro e w1 ⟨rfl, rfl⟩
    go_wp2_with fail
    go_ret
    exact ⟨rfl, box2_bel _ _ _ _⟩
  have d1 : (k == 1) = false := by simp [h1]
  by_cases h2 : k = 2
  · subst h2
    rw [okAct_count (by omega)]
    go_enter Tryz.func17, Tryz.ntmps17
    go_wp2_with fail
    refine (inr_any _ _ _ _).mono ?_
    rintro e w1 ⟨rfl, rfl⟩
    go_wp2_with fail
    go_ret
    exact ⟨rfl, box2_bel _ _ _ _⟩
  have d2 : (k == 2) = false := by simp [h2]
  by_cases h3 : k = 3
  · subst h3
    rw [okAct_preset]
    go_enter Tryz.func17, Tryz.ntmps17
    go_wp2_with fail
    refine (inr_any _ _ _ _).mono ?_
    rintro e w1 ⟨rfl, rfl⟩
    go_wp2_with fail
    go_ret
    exact ⟨rfl, box2_bel _ _ _ _⟩
  have d3 : (k == 3) = false := by simp [h3]
  by_cases h4 : k = 4
  · subst h4
    rw [okAct_plain (by omega)]
    go_enter Tryz.func17, Tryz.ntmps17
    go_wp2_with fail
    go_ret
    exact ⟨rfl, box2_bel _ _ _ _⟩
  have d4 : (k == 4) = false := by simp [h4]
  by_cases h5 : k = 5
  · subst h5
    rw [okAct_plain (by omega)]
    go_enter Tryz.func17, Tryz.ntmps17
    go_wp2_with fail
    go_ret
    exact ⟨rfl, box2_bel _ _ _ _⟩
  have d5 : (k == 5) = false := by simp [h5]
  rw [okAct_none h1 h2 h3 h4 h5]
  clear h1 h2 h3 h4 h5
  go_enter Tryz.func17, Tryz.ntmps17
  go_wp2_with fail
  go_ret
  exact ⟨rfl, box2_bel _ _ _ _⟩
set_option maxHeartbeats 2000000 in
theorem implValidAct_any (k n : Int) (w : World) : Calls Tryz.prog 35 #[.agg #[.int .i8 k, .int .i64 n]] w (GivesB w (.bool (okAct k n))) := by
  by_cases h1 : k = 1
  · subst h1
    rw [okAct_count (by omega)]
    go_enter Tryz.func35, Tryz.ntmps35
    go_wp2_with fail
    refine (isCount_any _ _).mono ?_
    rintro e w1 ⟨rfl, rfl⟩
    go_wp2_with fail
    go_ret
    exact ⟨rfl, box2_bel _ _ _ _⟩
  have d1 : (k == 1) = false := by simp [h1]
  by_cases h2 : k = 2
  · subst h2
    rw [okAct_count (by omega)]
    go_enter Tryz.func35, Tryz.ntmps35
    go_wp2_with fail
    refine (isCount_any _ _).mono ?_
    rintro e w1 ⟨rfl, rfl⟩
    go_wp2_with fail
    go_ret
    exact ⟨rfl, box2_bel _ _ _ _⟩
  have d2 : (k == 2) = false := by simp [h2]
  by_cases h3 : k = 3
  · subst h3
    rw [okAct_preset]
    by_cases hp : n = -1
    · subst hp
      go_enter Tryz.func35, Tryz.ntmps35
      go_wp2_with fail
      go_ret
      exact ⟨rfl, box2_bel _ _ _ _⟩
    · have dp : (n == -1) = false := by simp [hp]
      have e0 : (decide (-1 ≤ n) && decide (n ≤ 1000000000000)) = (decide (0 ≤ n) && decide (n ≤ 1000000000000)) := by
        by_cases h : 0 ≤ n
        · rw [decide_eq_true h, decide_eq_true (show -1 ≤ n by omega)]
        · rw [decide_eq_false h, decide_eq_false (show ¬ -1 ≤ n by omega)]
      rw [e0]
      clear e0
      go_enter Tryz.func35, Tryz.ntmps35
      go_wp2_with fail
      refine (isCount_any _ _).mono ?_
      rintro e w1 ⟨rfl, rfl⟩
      go_wp2_with fail
      go_ret
      exact ⟨rfl, box2_bel _ _ _ _⟩
  have d3 : (k == 3) = false := by simp [h3]
  by_cases h4 : k = 4
  · subst h4
    rw [okAct_plain (by omega)]
    go_enter Tryz.func35, Tryz.ntmps35
    go_wp2_with fail
    go_ret
    exact ⟨rfl, box2_bel _ _ _ _⟩
  have d4 : (k == 4) = false := by simp [h4]
  by_cases h5 : k = 5
  · subst h5
    rw [okAct_plain (by omega)]
    go_enter Tryz.func35, Tryz.ntmps35
    go_wp2_with fail
    go_ret
    exact ⟨rfl, box2_bel _ _ _ _⟩
  have d5 : (k == 5) = false := by simp [h5]
  rw [okAct_none h1 h2 h3 h4 h5]
  clear h1 h2 h3 h4 h5
  go_enter Tryz.func35, Tryz.ntmps35
  go_wp2_with fail
  go_ret
  exact ⟨rfl, box2_bel _ _ _ _⟩
end Go.Proofs.YtoenefhobjpfdaaGreatDoor
