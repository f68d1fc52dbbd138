/- Numbers that tickets have, in a list and in a map. -/
import Derived.Test.YtnfgapgjkkeofaaFf
import Derived.Test.YtnfgapgjkkeofaaOwnI
import Derived.Maps.OwnSet
namespace Go.Proofs.Ytnfgapgjkkeofaa
open Go.RowKit Go.Maps
set_option linter.unusedVariables false
set_option linter.unusedSimpArgs false
/-- a number behind the others, if it is not there -/
def addN (N : List Int) (x : Int) : List Int := if x ∈ N then N else N ++ [x]
theorem addN_yes {N : List Int} {x : Int} (h : x ∈ N) : addN N x = N := if_pos h
theorem addN_no {N : List Int} {x : Int} (h : x ∉ N) : addN N x = N ++ [x] := if_neg h
theorem addN_mem {N : List Int} {x y : Int} : y ∈ addN N x ↔ y ∈ N ∨ y = x := by
  unfold addN
  split
  · constructor
    · exact .inl
    · rintro (h | h)
      · exact h
      · subst h; assumption
  · simp
/-- the numbers of the first k tickets, each once -/
def numsT (ts : List (Nat → Int)) : Nat → List Int
  | 0 => []
  | k + 1 => addN (numsT ts k) (tk ts k 0)
/-- the greatest of them, or 0 -/
def mostT (ts : List (Nat → Int)) : Nat → Int
  | 0 => 0
  | k + 1 => max (mostT ts k) (tk ts k 0)
theorem numsT_succ (ts : List (Nat → Int)) (k : Nat) : numsT ts (k + 1) = addN (numsT ts k) (tk ts k 0) := rfl
theorem mostT_succ (ts : List (Nat → Int)) (k : Nat) : mostT ts (k + 1) = max (mostT ts k) (tk ts k 0) := rfl
theorem numsT_len (ts : List (Nat → Int)) : ∀ k, (numsT ts k).length ≤ k
  | 0 => Nat.le_refl _
  | k + 1 => by
    have := numsT_len ts k
    rw [numsT_succ, addN]
    split
    · omega
    · rw [List.length_append]; simp; omega
/-- the greatest number is one of them -/
theorem mostT_in (ts : List (Nat → Int)) : ∀ k, (∀ j, j < k → 1 ≤ tk ts j 0) → (k = 0 ∧ mostT ts k = 0) ∨ (1 ≤ mostT ts k ∧ mostT ts k ∈ numsT ts k)
  | 0, _ => .inl ⟨rfl, rfl⟩
  | k + 1, h => by
    have ih := mostT_in ts k (fun j hj => h j (by omega))
    have hk := h k (by omega)
    right
    rw [mostT_succ, numsT_succ]
    refine ⟨by omega, addN_mem.2 ?_⟩
    by_cases hm : mostT ts k ≤ tk ts k 0
    · right; omega
    · left
      rw [show max (mostT ts k) (tk ts k 0) = mostT ts k from by omega]
      rcases ih with ⟨h0, h1⟩ | h1
      · omega
      · exact h1.2
theorem mostT_bd (ts : List (Nat → Int)) : ∀ k, (∀ j, j < k → tk ts j 0 ≤ 1000000) → 0 ≤ mostT ts k ∧ mostT ts k ≤ 1000000
  | 0, _ => by simp [mostT]
  | k + 1, h => by
    have ih := mostT_bd ts k (fun j hj => h j (by omega))
    have hk := h k (by omega)
    rw [mostT_succ]
    omega
/-- those of 1 to k that are not in a list -/
def missL (N : List Int) : Nat → List Int
  | 0 => []
  | k + 1 => if ((k + 1 : Nat) : Int) ∈ N then missL N k else missL N k ++ [((k + 1 : Nat) : Int)]
theorem missL_yes {N : List Int} {k : Nat} (h : ((k + 1 : Nat) : Int) ∈ N) : missL N (k + 1) = missL N k := if_pos h
theorem missL_no {N : List Int} {k : Nat} (h : ((k + 1 : Nat) : Int) ∉ N) : missL N (k + 1) = missL N k ++ [((k + 1 : Nat) : Int)] := if_neg h
theorem missL_len (N : List Int) : ∀ k, (missL N k).length ≤ k
  | 0 => Nat.le_refl _
  | k + 1 => by
    have := missL_len N k
    unfold missL
    split
    · omega
    · rw [List.length_append]; simp; omega
/-- the numbers that no ticket has, with a code -/
def mnR (zs : List Int) (ts : List (Nat → Int)) : List Int × Int :=
  if okL zs then (if ts.length ≤ 60 then (if (List.range ts.length).all (fun j => genF zs (ts[j]?.getD (fun _ => 0))) then
    (if mostT ts ts.length - ((numsT ts ts.length).length : Int) > 1000 then ([], 2) else (missL (numsT ts ts.length) (mostT ts ts.length).toNat, 0)) else ([], 8)) else ([], 3)) else ([], 1)
theorem mnR_no {zs : List Int} {ts : List (Nat → Int)} (h : okL zs = false) : mnR zs ts = ([], 1) := by simp [mnR, h]
theorem mnR_limit {zs : List Int} {ts : List (Nat → Int)} (h : okL zs = true) (k : 60 < ts.length) : mnR zs ts = ([], 3) := by rw [mnR, if_pos h, if_neg (by omega)]
theorem mnR_proof {zs : List Int} {ts : List (Nat → Int)} (h : okL zs = true) (k : ts.length ≤ 60) (j : Nat) (hj : j < ts.length) (g : genF zs (ts[j]?.getD (fun _ => 0)) = false) : mnR zs ts = ([], 8) := by
  have : ¬ (List.range ts.length).all (fun j => genF zs (ts[j]?.getD (fun _ => 0))) = true := fun e => by
    have := List.all_eq_true.1 e j (List.mem_range.2 hj)
    rw [g] at this; cases this
  rw [mnR, if_pos h, if_pos k, if_neg this]
theorem mnR_rest {zs : List Int} {ts : List (Nat → Int)} (h : okL zs = true) (k : ts.length ≤ 60) (g : ∀ j, j < ts.length → genF zs (ts[j]?.getD (fun _ => 0)) = true) : mnR zs ts = if mostT ts ts.length - ((numsT ts ts.length).length : Int) > 1000 then ([], 2) else (missL (numsT ts ts.length) (mostT ts ts.length).toNat, 0) := by
  have : (List.range ts.length).all (fun j => genF zs (ts[j]?.getD (fun _ => 0))) = true := List.all_eq_true.2 fun j hj => g j (List.mem_range.1 hj)
  rw [mnR, if_pos h, if_pos k, if_pos this]
theorem genF_num {zs : List Int} {f : Nat → Int} (h : genF zs f = true) : 1 ≤ f 0 ∧ f 0 ≤ 1000000 := by
  simp only [genF, gen, Bool.and_eq_true, decide_eq_true_eq] at h
  exact h.1
theorem Try.mapI : Try.prog.underlying 58 = some (.map 2 4) := Try.underlying58
/-- block g is a map of truth values at numbers that reads as H -/
def NM (w : World) (g n : Nat) (H : DataW Unit) : Prop := w.ownsMap Try.prog 2 (plainElem Try.prog 4) g n H
theorem keyI {x : Int} (h : I64 x) : keyOf Try.prog 2 (.int .i64 x) = some (.int .i64 x) := keyOf_int_mk Try.underlying2 (WalkArith.wf_i64 h)
theorem NM.put {w : World} {g n : Nat} {H : DataW Unit} (h : NM w g n H) (hn : n ≤ 100) {x : Int} (hx : I64 x) :
    ∃ w', (Instr.mapUpdate 58 (.map (some g)) (.int .i64 x) (.bool true)).run Try.prog w = .ok () w' ∧ NM w' g (n + 1) (H.put (.int .i64 x) (.lit (.bool true))) ∧ w.grownBy w' (some g) :=
  World.ownsMap.update h (int_keyed Try.underlying2) Try.mapI (by unfold maxLen; omega) (keyI hx) (plainElem_bool Try.underlying4 true)
theorem NM.below {w w' : World} {b n : Nat} {H : DataW Unit} (h : NM w b n H) (hb : Below w.heap.size w w') : NM w' b n H :=
  World.ownsMap.kept (row := none) h ⟨hb.os, hb.tape, hb.output, hb.size, fun i hi _ => hb.block i hi⟩ (by simp)
theorem NM.look {w : World} {g n : Nat} {H : DataW Unit} (h : NM w g n H) {y : Int} (hy : I64 y) {x : Bool} (hat : H.atKey (.int .i64 y) (.lit (.bool false)) = .lit (.bool x)) :
    (Instr.lookup 58 (.map (some g)) (.int .i64 y) false).run Try.prog w = .ok (.bool x) w := by
  obtain ⟨v, ps, hrun, hv⟩ := World.ownsMap.lookup h (int_keyed Try.underlying2) Try.mapI (zeroB w) (plainElem_bool Try.underlying4 false) (keyI hy)
  obtain ⟨a, rfl, e⟩ := plainElem_boolT Try.underlying4 hv
  rw [hat] at e
  simp only [Prod.mk.injEq, DataW.lit.injEq, Lit.bool.injEq] at e
  rw [hrun, e.1]
/-- the map holds the numbers of a list -/
def HsM (N : List Int) (H : DataW Unit) : Prop := Tidy H ∧ (∀ x, has H (.int .i64 x) = decide (x ∈ N)) ∧ (∀ x, x ∈ N → ∀ z, H.atKey (.int .i64 x) z = .lit (.bool true)) ∧ Maps.size H = N.length
theorem HsM.start : HsM [] (DataW.map []) := ⟨tidy_empty, fun x => rfl, fun x h => by simp at h, rfl⟩
theorem HsM.put {N : List Int} {H : DataW Unit} (h : HsM N H) (x : Int) : HsM (addN N x) (H.put (.int .i64 x) (.lit (.bool true))) := by
  obtain ⟨h1, h2, h3, h4⟩ := h
  refine ⟨h1.put (show WideAt.IsKeyLit (.int .i64 x) from trivial) _, fun y => ?_, fun y hy z => ?_, ?_⟩
  · by_cases e : y = x
    · subst e
      rw [has_put_same h1.isMap (show WideAt.IsKeyLit (.int .i64 y) from trivial)]
      exact (decide_eq_true (addN_mem.2 (.inr rfl))).symm
    · rw [has_put_other (by simpa using e), h2 y]
      congr 1
      exact propext ⟨fun k => addN_mem.2 (.inl k), fun k => (addN_mem.1 k).elim id (fun k => absurd k e)⟩
  · by_cases e : y = x
    · subst e
      exact atKey_put_same h1.isMap (show WideAt.IsKeyLit (.int .i64 y) from trivial) _ _
    · rw [atKey_put_other (by simpa using e)]
      exact h3 y ((addN_mem.1 hy).elim id (fun k => absurd k e)) z
  · rw [size_put h1, h2 x]
    by_cases e : x ∈ N
    · rw [if_pos (by simpa using e), addN_yes e, h4]
    · rw [if_neg (by simpa using e), addN_no e, h4]; simp
theorem HsM.at {N : List Int} {H : DataW Unit} (h : HsM N H) (x : Int) : H.atKey (.int .i64 x) (.lit (.bool false)) = .lit (.bool (decide (x ∈ N))) := by
  by_cases e : x ∈ N
  · rw [h.2.2.1 x e, decide_eq_true e]
  · rw [atKey_of_not_has (by rw [h.2.1 x, decide_eq_false e]), decide_eq_false e]
end Go.Proofs.Ytnfgapgjkkeofaa
