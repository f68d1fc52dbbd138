/- An act behind acts, as a step; no acts have no error. -/
import Derived.Test.YtbbdaamhajecfaaDoorShF
namespace Go.Proofs.YtbbdaamhajecfaaDoor
open Go.RowKit
set_option linter.unusedVariables false
set_option linter.unusedSimpArgs false
theorem behind_any (base : Nat) (v : Value) (l : List (Int × Int)) (k n : Int) (w : World) (hO : w.ownsRow base 34 2 v l.length (avals l)) (hb : base ≤ w.heap.size) (ho : okAct k n = true) (hl : l.length ≤ 60) (m : Int) (hI : invA m l) (hm : m ≤ 1000000000000000) :
    Calls Tryd.prog 15 #[.agg #[.int .i8 k, .int .i64 n], v] w (BehR base (shStep l k n) w) := by
  by_cases hd : (isCnt k && n == 0) = true
  · rw [st_idle hd]; exact behind_idle base v l k n w hO hb ho hl hd
  · have h0 : (isCnt k && n == 0) = false := Bool.eq_false_iff.2 hd
    by_cases hl0 : l = []
    · have J : joins l k = false := by subst hl0; simp [joins]
      rw [st_app h0 J]
      exact behind_first base v l k n w hO hb ho hl hl0 h0
    · have h1 : 1 ≤ l.length := by have := List.length_pos_iff.2 hl0; omega
      have HI := lastA_inv hI h1
      have hbd := okAct_bd ho
      by_cases hk : (lastA l).1 = k
      · have hx : (k ≠ 3 → 0 ≤ (lastA l).2) ∧ (k = 4 → (lastA l).2 = 0) := by
          rw [hk] at HI
          rcases HI.1 with h | ⟨h, h'⟩
          · have := okAct_bd h
            exact ⟨this.2.2.1, fun e => this.2.2.2 (by omega)⟩
          · rcases (isCnt_iff k).1 h with e | e <;> exact ⟨fun _ => by omega, fun e' => by omega⟩
        have hz := HI.2
        have J : k ≠ 5 → joins l k = true := fun h => by simp [joins, hk, h]; omega
        rcases okAct_kind ho with rfl | rfl | rfl | rfl | rfl
        · rw [st_cnt h0 (J (by decide)) rfl]
          refine behind_join base v l 1 n w hO hb ho hl h1 h0 1 ((lastA l).2 + n) (fun W => ?_)
          rw [hk]
          exact joined_1 (lastA l).2 n ⟨hx.1 (by decide), by omega⟩ ⟨hbd.2.2.1 (by decide), hbd.2.1⟩ W
        · rw [st_cnt h0 (J (by decide)) rfl]
          refine behind_join base v l 2 n w hO hb ho hl h1 h0 2 ((lastA l).2 + n) (fun W => ?_)
          rw [hk]
          exact joined_2 (lastA l).2 n ⟨hx.1 (by decide), by omega⟩ ⟨hbd.2.2.1 (by decide), hbd.2.1⟩ W
        · rw [st_set h0 (J (by decide)) rfl]
          refine behind_join base v l 3 n w hO hb ho hl h1 h0 3 n (fun W => ?_)
          rw [hk]
          exact joined_3 (lastA l).2 n W
        · rw [st_set h0 (J (by decide)) rfl]
          refine behind_join base v l 4 n w hO hb ho hl h1 h0 4 n (fun W => ?_)
          have e : (lastA l).2 = n := by rw [hx.2 rfl, hbd.2.2.2 (by decide)]
          rw [hk, e]
          exact joined_4 n n W
        · have J5 : joins l 5 = false := by simp [joins]
          rw [st_app h0 J5]
          refine behind_app base v l 5 n w hO hb ho hl h1 h0 0 0 (fun W => ?_)
          rw [hk]
          exact joined_5 (lastA l).2 n W
      · have J : joins l k = false := by simp [joins, hk]
        rw [st_app h0 J]
        exact behind_app base v l k n w hO hb ho hl h1 h0 0 0 (fun W => joined_ne _ _ _ _ hk W)
theorem indexAct_nil (a : Option Addr) (cap : Nat) (w : World) :
    Calls Tryd.prog 24 #[.slice a 0 cap, .func (Fn.func 19) #[] #[]] w (GivesB w (.int .i64 (-1))) := by
  go_enter Tryd.func24, Tryd.ntmps24
  go_wp2_with fail
  refine wp_loop_rounds 1 ?_
  rw [rounds_succ]
  go_wp2_with fail
  go_ret
  exact ⟨rfl, Below.refl _ _⟩
theorem containsAct_nil (a : Option Addr) (cap : Nat) (w : World) :
    Calls Tryd.prog 18 #[.slice a 0 cap, .func (Fn.func 19) #[] #[]] w (GivesB w (.bool false)) := by
  have HI := hid (indexAct_nil a cap w)
  go_enter Tryd.func18, Tryd.ntmps18
  go_wp2_with fail
  refine HI.out.mono ?_
  rintro e w1 ⟨rfl, hB1⟩
  go_wp2_with fail
  go_ret
  exact ⟨rfl, hB1⟩
theorem actsErr_nil (a : Option Addr) (cap : Nat) (w : World) :
    Calls Tryd.prog 13 #[.slice a 0 cap] w (GivesB w .nilIface) := by
  have HC := hid (containsAct_nil a cap w)
  go_enter Tryd.func13, Tryd.ntmps13
  go_wp2_with fail
  refine HC.out.mono ?_
  rintro e w1 ⟨rfl, hB1⟩
  go_wp2_with fail
  go_ret
  exact ⟨rfl, hB1⟩
/-- acts of its own have an error, as a code -/
theorem actsErr_own (base : Nat) (v : Value) (l : List (Int × Int)) (w : World) (hO : OwnA w base v l) (hl : l.length ≤ 60) (a0 a1 a2 a3 : Addr) (hSN : SN w a0 a1 a2 a3) :
    Calls Tryd.prog 13 #[v] w (GivesB w (if okAs l = true then .nilIface else ES a0)) := by
  obtain ⟨a, cap, rfl, _, h⟩ := hO
  rcases h with rfl | ⟨g, rest, rfl, hg, hr⟩
  · exact actsErr_nil a cap w
  · by_cases ho : okAs l = true
    · rw [if_pos ho]
      exact actsErr_ok g l.length cap l w (OwnA.pst hr (by omega)) rfl ho hl
    · rw [if_neg ho]
      exact actsErr_bad g l.length cap l w (OwnA.pst hr (by omega)) rfl (Bool.eq_false_iff.2 ho) (ES a0) hSN.2.1.1 (cell_ltE hSN.2.1.1)
/-- acts given have an error, as a code -/
theorem actsErr_given (Y n cap : Nat) (js : List (Int × Int)) (w : World) (hA : Ast w Y js) (hn : n = js.length) (a0 a1 a2 a3 : Addr) (hSN : SN w a0 a1 a2 a3) :
    Calls Tryd.prog 13 #[.slice (some ⟨Y, 0, none⟩) n cap] w (GivesB w (errV (if okAs js = false then 1 else if 60 < js.length then 3 else 0) a0 a1 a2 a3)) := by
  by_cases ho : okAs js = true
  · rw [if_neg (by rw [ho]; decide)]
    by_cases h6 : 60 < js.length
    · rw [if_pos h6]
      exact actsErr_long Y n cap js w hA hn ho (by omega) (ES a1) hSN.2.1.2.1 (cell_ltE hSN.2.1.2.1)
    · rw [if_neg h6]
      exact actsErr_ok Y n cap js w hA hn ho (by omega)
  · rw [if_pos (Bool.eq_false_iff.2 ho)]
    exact actsErr_bad Y n cap js w hA hn (Bool.eq_false_iff.2 ho) (ES a0) hSN.2.1.1 (cell_ltE hSN.2.1.1)
end Go.Proofs.YtbbdaamhajecfaaDoor
