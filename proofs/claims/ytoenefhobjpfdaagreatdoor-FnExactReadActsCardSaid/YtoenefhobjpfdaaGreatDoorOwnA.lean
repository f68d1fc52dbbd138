/- Acts that a call has made: compared, written over, looked at. -/
import Derived.Test.YtoenefhobjpfdaaGreatDoorAvals
import Derived.OwnWalk
import Derived.Deep.QuietTactic
import Derived.Test.YtoenefhobjpfdaaGreatDoorRatio
namespace Go.Proofs.YtoenefhobjpfdaaGreatDoor
open Go.RowKit
set_option linter.unusedVariables false
/-- v is the train js, in a block of its own from base on -/
def OwnA (w : World) (base : Nat) (v : Value) (js : List (Int × Int)) : Prop :=
  ∃ a cap, v = .slice a js.length cap ∧ js.length ≤ 1048576 ∧ (js = [] ∨ ∃ g rest, a = some ⟨g, 0, none⟩ ∧ base ≤ g ∧ Row w g 32 (avals js ++ rest))
theorem OwnA.of_owns {w : World} {base n : Nat} {v : Value} {js : List (Int × Int)} (h : w.ownsRow base 32 2 v n (avals js)) (hl : js.length ≤ 1048576) : OwnA w base v js := by
  have hn : n = js.length := by have := h.1; rw [avals_len] at this; omega
  rcases h.2 with ⟨rfl, h0⟩ | ⟨g, cap, cur, rfl, h2, h3, h4, h5, h6, h7⟩
  · have : js = [] := List.length_eq_zero_iff.1 (by omega)
    subst this
    exact ⟨none, 0, rfl, by simp, .inl rfl⟩
  · refine ⟨some ⟨g, 0, none⟩, cap, by rw [hn], hl, .inr ⟨g, cur.toList.drop (n * 2), rfl, h2, ?_⟩⟩
    unfold Row
    rw [h3, ← h7, List.take_append_drop]
theorem OwnA.nil (w : World) (base : Nat) (a : Option Addr) (cap : Nat) : OwnA w base (.slice a 0 cap) [] := ⟨a, cap, rfl, by simp, .inl rfl⟩
theorem OwnA.keep {w w' : World} {base : Nat} {v : Value} {js : List (Int × Int)} (h : OwnA w base v js) (hb : Below w.heap.size w w') : OwnA w' base v js := by
  obtain ⟨a, cap, h1, h2, h3⟩ := h
  refine ⟨a, cap, h1, h2, ?_⟩
  rcases h3 with h0 | ⟨g, rest, e, hg, hr⟩
  · exact .inl h0
  · exact .inr ⟨g, rest, e, hg, hr.below hb hr.lt⟩
/-- what is written from k on leaves it, if it had been made before -/
theorem OwnA.low {w w1 w' : World} {base k : Nat} {v : Value} {js : List (Int × Int)} (h : OwnA w base v js) (hw : Below w.heap.size w w1) (hk : w.heap.size ≤ k) (hb : Below k w1 w') : OwnA w' base v js := by
  obtain ⟨a, cap, h1, h2, h3⟩ := h
  refine ⟨a, cap, h1, h2, ?_⟩
  rcases h3 with h0 | ⟨g, rest, e, hg, hr⟩
  · exact .inl h0
  · exact .inr ⟨g, rest, e, hg, (hr.below hw hr.lt).below hb (Nat.lt_of_lt_of_le hr.lt hk)⟩
theorem OwnA.pst {w : World} {g : Nat} {js : List (Int × Int)} {rest : List Value} (h : Row w g 32 (avals js ++ rest)) (hl : js.length ≤ 1048576) : Ast w g js :=
  ⟨h.lt, fun j hj => ⟨(h.cell _).trans (avals_get js rest j hj).1, (h.cell _).trans (avals_get js rest j hj).2⟩, hl⟩
set_option maxHeartbeats 1000000 in
theorem eqA_nil (a1 a2 : Option Addr) (c1 c2 : Nat) (w : World) : Calls Tryz.prog 6 #[.slice a1 0 c1, .slice a2 0 c2] w (GivesB w (.bool true)) := by
  go_enter Tryz.func6, Tryz.ntmps6
  go_wp2_with fail
  refine wp_loop_rounds 1 ?_
  rw [rounds_succ]
  go_wp2_with fail
  go_ret
  exact ⟨rfl, Below.refl _ _⟩
theorem eqA_own (b1 b2 : Nat) (v1 v2 : Value) (js : List (Int × Int)) (w : World) (h1 : OwnA w b1 v1 js) (h2 : OwnA w b2 v2 js) :
    Calls Tryz.prog 6 #[v1, v2] w (GivesB w (.bool true)) := by
  obtain ⟨a1, c1, rfl, hl, k1⟩ := h1
  obtain ⟨a2, c2, rfl, _, k2⟩ := h2
  rcases k1 with hz | ⟨g1, r1, rfl, _, R1⟩
  · subst hz
    exact eqA_nil _ _ _ _ w
  · rcases k2 with hz | ⟨g2, r2, rfl, _, R2⟩
    · subst hz
      exact eqA_nil _ _ _ _ w
    · exact eqActs_same g1 g2 js.length c1 c2 js w (OwnA.pst R1 hl) (OwnA.pst R2 hl) rfl
set_option maxHeartbeats 2000000 in
theorem markA_own (base : Nat) (v : Value) (js : List (Int × Int)) (w : World) (h : OwnA w base v js) :
    Calls Tryz.prog 7 #[v, .int .i64 1] w fun e w' => e = .returned (.int .i64 (1 + 2 * (js.length : Int))) ∧ OwnA w' base v (marksA js.length) ∧ Below base w w' ∧ w'.heap.size = w.heap.size := by
  obtain ⟨a, c, rfl, hl, k1⟩ := h
  rcases k1 with hz | ⟨g, rest, rfl, hg, R⟩
  · subst hz
    simp only [List.length_nil]
    go_enter Tryz.func7, Tryz.ntmps7
    go_wp2_with fail
    refine wp_loop_rounds 1 ?_
    rw [rounds_succ]
    go_wp2_with fail
    go_ret
    exact ⟨rfl, OwnA.nil _ _ _ _, Below.refl _ _, rfl⟩
  · obtain ⟨n, hn⟩ : ∃ n, js.length = n := ⟨_, rfl⟩
    rw [hn] at hl ⊢
    have HN := hid hn
    have R0 : Row w g 32 (avals (halfA js 0) ++ rest) := by rw [halfA_zero]; exact R
    clear hn R
    go_enter Tryz.func7, Tryz.ntmps7
    go_wp2_with fail
    go_loopw [1, 5] (fun m i wr => ∃ k : Nat, k ≤ n ∧ i = .int .i64 k ∧ m = .int .i64 (1 + 2 * (k : Int)) ∧ Row wr g 32 (avals (halfA js k) ++ rest) ∧ Below base w wr ∧ wr.heap.size = w.heap.size) (fun _ i _ => n - (intOf i).toNat)
    case atStart => exact ⟨0, Nat.zero_le _, rfl, rfl, R0, Below.refl _ _, rfl⟩
    case round =>
      clear R0
      obtain ⟨k, hk, rfl, rfl, hrow, hB, hsz⟩ := hrel
      have HSZ := hid hsz
      clear hsz
      by_cases hlt : k < n
      · have hlt' : (k : Int) < (n : Int) := by omega
        have hk0 : (0 : Int) ≤ (k : Int) := by omega
        have HS := hid (halfA_set js rest k (by rw [HN.out]; exact hlt))
        have f0 := hrow.frozen (k * 2)
        have f1 := hrow.frozen (k * 2 + 1)
        have hlen : (avals (halfA js k) ++ rest).length = n * 2 + rest.length := by rw [List.length_append, avals_len, halfA_len _ _ (by rw [HN.out]; exact hk), HN.out]
        obtain ⟨o0, h0⟩ : ∃ u, wr.cell? ⟨g, k * 2, none⟩ = some u := ⟨_, (hrow.cell (k * 2)).trans (List.getElem?_eq_getElem (by rw [hlen]; omega))⟩
        obtain ⟨o1, h1⟩ : ∃ u, wr.cell? ⟨g, k * 2 + 1, none⟩ = some u := ⟨_, (hrow.cell (k * 2 + 1)).trans (List.getElem?_eq_getElem (by rw [hlen]; omega))⟩
        have R2 := (hrow.set (k * 2) (.int .i8 (mk8 (1 + 2 * (k : Int))))).set (k * 2 + 1) (.int .i64 ((1 + 2 * (k : Int) + 1)))
        rw [HS.out] at R2
        have B2 := hid ((hB.setCell (p := ⟨g, k * 2, none⟩) hg (.int .i8 (mk8 (1 + 2 * (k : Int))))).setCell (p := ⟨g, k * 2 + 1, none⟩) hg (.int .i64 ((1 + 2 * (k : Int) + 1))))
        have t1 : IntKind.i8.wrap (1 + 2 * (k : Int)) = mk8 (1 + 2 * (k : Int)) := rfl
        have t2 : IntKind.i64.wrap (1 + 2 * (k : Int) + 1) = 1 + 2 * (k : Int) + 1 := IntWalk.i64_in _ (by omega)
        have t3 : IntKind.i64.wrap (1 + 2 * (k : Int)) = 1 + 2 * (k : Int) := IntWalk.i64_in _ (by omega)
        have R3 := hid R2
        clear R2 hrow hB hlen
        go_wp2_with fail
        go_roundw
        case rel => exact ⟨k + 1, by omega, by go_num, by first | go_num | (congr 1; done) | (congr 1; omega), R3.out, B2.out, by simpa using HSZ.out⟩
        case measure => simp [intOf]; omega
      · obtain rfl : k = n := by omega
        have R3 := hid hrow
        clear hrow
        go_wp2_with fail
        go_ret
        refine ⟨rfl, ⟨some ⟨g, 0, none⟩, c, by rw [marksA_len], by rw [marksA_len]; exact hl, .inr ⟨g, rest, rfl, hg, ?_⟩⟩, hB, HSZ.out⟩
        have := R3.out
        rw [← HN.out, halfA_all] at this
        rw [← HN.out]
        exact this
set_option maxHeartbeats 2000000 in
theorem heldA_own (base : Nat) (v : Value) (n : Nat) (w : World) (h : OwnA w base v (marksA n)) :
    Calls Tryz.prog 8 #[v, .int .i64 1] w fun e w' => e = .returned (.int .i64 (1 + 2 * (n : Int))) ∧ ∃ d, w' = w.drewN d := by
  obtain ⟨a, c, rfl, hl, k1⟩ := h
  rw [marksA_len] at hl ⊢
  rcases k1 with hz | ⟨g, rest, rfl, hg, R⟩
  · have h0 : n = 0 := by have := congrArg List.length hz; simpa [marksA_len] using this
    subst h0
    go_enter Tryz.func8, Tryz.ntmps8
    go_wp2_with fail
    refine wp_loop_rounds 1 ?_
    rw [rounds_succ]
    go_wp2_with fail
    go_ret
    exact ⟨rfl, 0, rfl⟩
  · have C := hid (fun j (hj : j < n) => (OwnA.pst R (by rw [marksA_len]; exact hl)).2.1 j (by rw [marksA_len]; exact hj))
    clear R
    go_enter Tryz.func8, Tryz.ntmps8
    go_wp2_with fail
    go_loopw [1, 5] (fun m i wr => ∃ k : Nat, k ≤ n ∧ i = .int .i64 k ∧ m = .int .i64 (1 + 2 * (k : Int)) ∧ ∃ d, wr = w.drewN d) (fun _ i _ => n - (intOf i).toNat)
    case atStart => exact ⟨0, Nat.zero_le _, rfl, rfl, 0, rfl⟩
    case round =>
      obtain ⟨k, hk, rfl, rfl, d, rfl⟩ := hrel
      by_cases hlt : k < n
      · have hlt' : (k : Int) < (n : Int) := by omega
        have hk0 : (0 : Int) ≤ (k : Int) := by omega
        have cc := C.out k hlt
        rw [(marksA_get n k hlt).1, (marksA_get n k hlt).2] at cc
        have c0 := cc.1
        have c1 := cc.2
        have t1 : IntKind.i8.wrap (1 + 2 * (k : Int)) = mk8 (1 + 2 * (k : Int)) := rfl
        have t2 : IntKind.i64.wrap (1 + 2 * (k : Int) + 1) = 1 + 2 * (k : Int) + 1 := IntWalk.i64_in _ (by omega)
        have t3 : IntKind.i64.wrap (1 + 2 * (k : Int)) = 1 + 2 * (k : Int) := IntWalk.i64_in _ (by omega)
        have b0 : (mk8 (1 + 2 * (k : Int)) != mk8 (1 + 2 * (k : Int))) = false := by simp
        have b1 : ((1 + 2 * (k : Int) + 1) != (1 + 2 * (k : Int) + 1)) = false := by simp
        clear cc
        go_wp2_with fail
        all_goals (try (go_quiet (fail); go_wp2_with fail))
        go_roundw
        case rel => exact ⟨k + 1, by omega, by go_num, by first | go_num | (congr 1; done) | (congr 1; omega), _, rfl⟩
        case measure => simp [intOf]; omega
      · obtain rfl : k = n := by omega
        go_wp2_with fail
        go_ret
        exact ⟨rfl, d, rfl⟩
end Go.Proofs.YtoenefhobjpfdaaGreatDoor
