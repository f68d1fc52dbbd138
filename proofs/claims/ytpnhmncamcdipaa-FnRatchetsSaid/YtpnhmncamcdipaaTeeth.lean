/- Ratchets: the teeth, a turn that is refused, the last tooth. -/
import Derived.Test.YtpnhmncamcdipaaBase
import Derived.RegionTactic
import Derived.Deep.RegionWith
import Derived.Defers
import Derived.Recover
import Derived.OrdersHeld
import Derived.Laws.Pointers
namespace Go.Proofs.Ytpnhmncamcdipaa
open Go.RowKit

theorem quiet_same {P : Program} {f : FuncId} {args : Array Value} {w : World} {n : Nat} {v : Value}
    (h : Calls P f args (w.drewN n) fun e w' => e = .returned v ∧ w.drewN n = w') : Calls P f args (w.drewN n) fun e w'' => e = .returned v ∧ ∃ m, w'' = w.drewN m :=
  h.mono fun _ _ ⟨he, hm⟩ => ⟨he, n, hm.symm⟩
def teethB (t : Int) : Bool := decide (1 ≤ t) && decide (t ≤ 1000) && decide (1000 % t = 0)
theorem teethB_low {t : Int} (h : t < 1) : teethB t = false := by simp only [teethB, decide_eq_false (show ¬ 1 ≤ t by omega)]; rfl
theorem teethB_high {t : Int} (h : 1000 < t) : teethB t = false := by simp only [teethB, decide_eq_false (show ¬ t ≤ 1000 by omega)]; simp
theorem teethB_mid {t : Int} (h1 : 1 ≤ t) (h2 : t ≤ 1000) : teethB t = decide (1000 % t = 0) := by simp [teethB, h1, h2]
theorem teethB_out {t : Int} (h : teethB t = true) : 1 ≤ t ∧ t ≤ 1000 ∧ 1000 % t = 0 := by
  simp only [teethB, Bool.and_eq_true, decide_eq_true_eq] at h
  exact ⟨h.1.1, h.1.2, h.2⟩
/-- how far two teeth are apart -/
def gapOf (t : Int) : Int := 1000 / t
theorem gap_bd {t : Int} (h1 : 1 ≤ t) (h2 : t ≤ 1000) : 1 ≤ gapOf t ∧ gapOf t ≤ 1000 := by
  have a := Int.ediv_le_self t (show (0 : Int) ≤ 1000 by decide)
  have b : 1 * t ≤ 1000 := by omega
  have c := (Int.le_ediv_iff_mul_le (show 0 < t by omega) (a := 1) (b := 1000)).2 b
  exact ⟨c, a⟩

theorem validTeeth_any (t : Int) (w : World) : Calls Try.prog 11 #[.int .i64 t] w fun e w' => e = .returned (.bool (teethB t)) ∧ w = w' := by
  by_cases h1 : 1 ≤ t
  · by_cases h2 : t ≤ 1000
    · rw [teethB_mid h1 h2]
      have m0 := Int.emod_nonneg 1000 (show t ≠ 0 by omega)
      have m1 := Int.emod_lt_of_pos 1000 (show 0 < t by omega)
      obtain ⟨r, hr⟩ : ∃ r, r = 1000 % t := ⟨_, rfl⟩
      rw [← hr]
      have e1 : Int.tmod 1000 t = r := by rw [Int.tmod_eq_emod_of_nonneg (by decide), hr]
      rw [← hr] at m0 m1
      by_cases h3 : r = 0
      · subst h3
        clear hr
        go_enter Try.func11, Try.ntmps11
        go_wp2_with fail
        go_ret
        exact ⟨rfl, rfl⟩
      · have d : decide (r = 0) = false := by simp [h3]
        have d2 : (r == 0) = false := by simp [h3]
        rw [d]
        clear hr d h3
        go_enter Try.func11, Try.ntmps11
        go_wp2_with fail
        go_ret
        exact ⟨rfl, rfl⟩
    · rw [teethB_high (by omega)]
      have h3 : 1000 < t := by omega
      clear h2
      go_enter Try.func11, Try.ntmps11
      go_wp2_with fail
      go_ret
      exact ⟨rfl, rfl⟩
  · rw [teethB_low (by omega)]
    have h3 : t < 1 := by omega
    clear h1
    go_enter Try.func11, Try.ntmps11
    go_wp2_with fail
    go_ret
    exact ⟨rfl, rfl⟩

theorem turnBelow_ok (turn hi : Int) (h : 0 ≤ turn ∧ turn < hi) (w : World) : Calls Try.prog 25 #[.int .i64 turn, .int .i64 hi] w fun e w' => e = .returned (.int .i64 turn) ∧ w = w' := by
  obtain ⟨h1, h2⟩ := h
  go_enter Try.func25, Try.ntmps25
  go_wp2_with fail
  go_ret
  exact ⟨rfl, rfl⟩
theorem turnBelow_no (turn hi : Int) (h : turn < 0 ∨ hi ≤ turn) (w : World) : Calls Try.prog 25 #[.int .i64 turn, .int .i64 hi] w fun e w' => e = .panicked [{ v := .iface 48 (.int .i64 turn), recovered := false }] ∧ w = w' := by
  by_cases h1 : turn < 0
  · clear h
    go_enter Try.func25, Try.ntmps25
    go_wp2_with fail
    exact ⟨rfl, rfl, rfl⟩
  · have h2 : hi ≤ turn := by omega
    have h3 : 0 ≤ turn := by omega
    clear h h1
    go_enter Try.func25, Try.ntmps25
    go_wp2_with fail
    exact ⟨rfl, rfl, rfl⟩
theorem freeTurn_ok (turn : Int) (h : 0 ≤ turn ∧ turn ≤ 1000000000000000) (w : World) : Calls Try.prog 15 #[.int .i64 turn] w fun e w' => e = .returned (.int .i64 turn) ∧ w = w' := by
  have H := hid (fun w => turnBelow_ok turn 1000000000000001 (by omega) w)
  clear h
  go_enter Try.func15, Try.ntmps15
  go_wp2_with (go_at_call 25; refine (H.out _).mono ?_; rintro e w' ⟨rfl, rfl⟩)
  go_ret
  exact ⟨rfl, rfl⟩
theorem freeTurn_no (turn : Int) (h : ¬ (0 ≤ turn ∧ turn ≤ 1000000000000000)) (w : World) : Calls Try.prog 15 #[.int .i64 turn] w fun e w' => e = .panicked [{ v := .iface 48 (.int .i64 turn), recovered := false }] ∧ w = w' := by
  have H := hid (fun w => turnBelow_no turn 1000000000000001 (by omega) w)
  clear h
  go_enter Try.func15, Try.ntmps15
  go_wp2_with (go_at_call 25; refine (H.out _).mono ?_; rintro e w' ⟨rfl, rfl⟩)
  exact ⟨rfl, rfl, rfl⟩
theorem emod_le_self (a g : Int) (h : 0 ≤ a) (hg : 1 ≤ g) : a % g ≤ a := by
  have e := Int.mul_ediv_add_emod a g
  have q := Int.ediv_nonneg h (show 0 ≤ g by omega)
  have := Int.mul_nonneg (show 0 ≤ g by omega) q
  omega
theorem lastTooth_any (turn gap : Int) (h : 0 ≤ turn ∧ turn ≤ 1000000000000000) (hg : 1 ≤ gap) (w : World) : Calls Try.prog 14 #[.int .i64 turn, .int .i64 gap] w fun e w' => e = .returned (.int .i64 (turn - turn % gap)) ∧ w = w' := by
  have m0 := Int.emod_nonneg turn (show gap ≠ 0 by omega)
  have m1 : turn % gap ≤ turn := emod_le_self turn gap h.1 hg
  have e1 : turn.tmod gap = turn % gap := Int.tmod_eq_emod_of_nonneg h.1
  obtain ⟨r, hr⟩ : ∃ r, r = turn % gap := ⟨_, rfl⟩
  rw [← hr] at m0 m1 e1
  rw [← hr]
  have n1 : gap ≠ 0 := by omega
  clear hr
  obtain ⟨h1, h2⟩ := h
  go_enter Try.func14, Try.ntmps14
  go_wp2_with fail
  go_ret
  exact ⟨rfl, rfl⟩
set_option maxHeartbeats 1000000 in
theorem rest1_ok (p q : Addr) (turn teeth : Int) (h : 0 ≤ turn ∧ turn ≤ 1000000000000000) (ht : 1 ≤ teeth ∧ teeth ≤ 1000) (w : World) (hp : w.cell? p = some (.int .i64 turn)) (hq : w.cell? q = some (.int .i64 teeth)) :
    Calls Try.prog 13 #[.pointer (some p), .pointer (some q)] w fun e w' => e = .returned (.int .i64 (turn - turn % gapOf teeth)) ∧ ∃ d, w' = w.drewN d := by
  have gb := gap_bd ht.1 ht.2
  have e1 : Int.tdiv 1000 teeth = gapOf teeth := Int.tdiv_eq_ediv_of_nonneg (by decide)
  have n1 : teeth ≠ 0 := by omega
  have HF := hid (fun w => freeTurn_ok turn h w)
  have HL := hid (fun w => lastTooth_any turn (gapOf teeth) h gb.1 w)
  obtain ⟨g, hg⟩ : ∃ g, g = gapOf teeth := ⟨_, rfl⟩
  rw [← hg] at gb e1 HL
  rw [← hg]
  have w1 : IntKind.i64.wrap g = g := IntWalk.i64_in g (by omega)
  clear hg h
  go_enter Try.func13, Try.ntmps13
  go_wp2_with fail
  go_quiet ((first | (go_at_call 15; exact quiet_same (HF.out _)) | (go_at_call 14; exact quiet_same (HL.out _))))
  go_wp2
  go_ret
  exact ⟨rfl, _, rfl⟩
set_option maxHeartbeats 1000000 in
theorem rest1_no (p q : Addr) (turn teeth : Int) (h : ¬ (0 ≤ turn ∧ turn ≤ 1000000000000000)) (ht : 1 ≤ teeth ∧ teeth ≤ 1000) (w : World) (hp : w.cell? p = some (.int .i64 turn)) (hq : w.cell? q = some (.int .i64 teeth)) :
    Calls Try.prog 13 #[.pointer (some p), .pointer (some q)] w fun e w' => e = .panicked [{ v := .iface 48 (.int .i64 turn), recovered := false }] ∧ ∃ d, w' = w.drewN d := by
  have gb := gap_bd ht.1 ht.2
  have e1 : Int.tdiv 1000 teeth = gapOf teeth := Int.tdiv_eq_ediv_of_nonneg (by decide)
  have n1 : teeth ≠ 0 := by omega
  have HF := hid (fun w => freeTurn_no turn h w)
  obtain ⟨g, hg⟩ : ∃ g, g = gapOf teeth := ⟨_, rfl⟩
  rw [← hg] at gb e1
  have w1 : IntKind.i64.wrap g = g := IntWalk.i64_in g (by omega)
  clear hg h
  go_enter Try.func13, Try.ntmps13
  go_wp2_with fail
  refine wp_region_held (S := fun W' => W'.cell? p = some (.int .i64 turn) ∧ W'.cell? q = some (.int .i64 teeth)) (by kernel_rfl) ?_
  change wpAnyH _ _ _ _ _ _ _ _ (World.drew _)
  have hS : (fun W' : World => W'.cell? p = some (.int .i64 turn) ∧ W'.cell? q = some (.int .i64 teeth)) w.drew := ⟨hp, hq⟩
  refine wpAnyH_take (i := 0) (v := .int .i64 turn) rfl (by kernel_rfl) (by kernel_rfl) (by kernel_rfl) (fun _ _ _ h => h) (.inl ⟨by rfl, ?_⟩) hS ?_
  · intro w' hw'; obtain ⟨hw1, hw2⟩ := hw'; go_simp; try with_reducible rfl
  simp only [Act.put, List.setIfInBounds_toArray, List.set_cons_zero, List.set_cons_succ]
  refine wpAnyH_take (i := 2) (v := .int .i64 teeth) rfl (by kernel_rfl) (by kernel_rfl) (by kernel_rfl) (fun _ _ _ h => h) (.inl ⟨by rfl, ?_⟩) hS ?_
  · intro w' hw'; obtain ⟨hw1, hw2⟩ := hw'; go_simp; try with_reducible rfl
  simp only [Act.put, List.setIfInBounds_toArray, List.set_cons_zero, List.set_cons_succ]
  refine wpAnyH_take (i := 3) (v := .int .i64 g) rfl (by kernel_rfl) (by kernel_rfl) (by kernel_rfl) (fun _ _ _ h => h) (.inl ⟨by rfl, ?_⟩) hS ?_
  · intro w' hw'; obtain ⟨hw1, hw2⟩ := hw'; go_simp; try with_reducible rfl
  simp only [Act.put, List.setIfInBounds_toArray, List.set_cons_zero, List.set_cons_succ]
  refine wpAnyH_all (rs := [1]) (by kernel_rfl) (by simp) ?_
  intro i hi; simp only [List.mem_singleton] at hi; subst hi
  refine wpOp_step rfl (fun K hK => ?_)
  go_simp
  refine (HF.out _).mono ?_
  rintro e w' ⟨rfl, rfl⟩
  exact ⟨rfl, rfl, 1, rfl⟩

theorem settleCatch_pan (p : Addr) (x turn : Int) (w : World) (hc : w.cell? p = some (.int .i64 x)) (hz : w.frozen? p = false) :
    CallsD Try.prog 24 #[.pointer (some p)] (.panicking ({ v := .iface 48 (.int .i64 turn), recovered := false } :: [])) w fun e u' w' =>
      e = .returned (.tuple #[]) ∧ u' = .panicking ({ v := .iface 48 (.int .i64 turn), recovered := true } :: []) ∧ w' = w.setCell p (.int .i64 2) := by
  have ta : ∀ w, (Instr.typeAssert (.iface 48 (.int .i64 turn)) 20 43 true).run Try.prog w = .ok (.tuple #[.iface 48 (.int .i64 turn), .bool true]) w := fun _ => by kernel_rfl
  have hm : ∀ w, (method 167 48 (.int .i64 turn) "loop.example/g01278/impl.code").run Try.prog w = .ok (42, .int .i64 turn) w := fun _ => by kernel_rfl
  refine callsD_of_wpS Try.func24 rfl fun c₀ cs hu => ?_
  apply wpS_seq
  apply wpS_region
  simp [wpOpsS, go_sem, recoverD, hu, Try.ntmps24, Exit.thenS, ta]
  simp only [Array.replicate_succ, Array.replicate_zero, List.push_toArray, List.append_toArray, List.nil_append, List.cons_append, List.setIfInBounds_toArray, List.set_cons_zero, List.set_cons_succ]
  apply wpS_seq
  apply wpS_region
  simp [wpOpsS, go_sem, Exit.thenS]
  refine wpS_cond (t := true) (by simp [Act.eval]) ?_
  simp only [if_true]
  refine wpS_of_wp ?_
  go_wp2
  simp [bodyPostS, results, Try.results24]
theorem settleCatch_idle (p : Addr) (w : World) :
    CallsD Try.prog 24 #[.pointer (some p)] .returning w fun e u' w' => e = .returned (.tuple #[]) ∧ u' = .returning ∧ w' = w := by
  have ta : ∀ w, (Instr.typeAssert .nilIface 20 43 true).run Try.prog w = .ok (.tuple #[.nilIface, .bool false]) w := fun _ => by kernel_rfl
  refine callsD_of_wpS Try.func24 rfl fun c₀ cs hu => ?_
  apply wpS_seq
  apply wpS_region
  simp [wpOpsS, go_sem, recoverD, hu, Try.ntmps24, Exit.thenS, ta]
  simp only [Array.replicate_succ, Array.replicate_zero, List.push_toArray, List.append_toArray, List.nil_append, List.cons_append, List.setIfInBounds_toArray, List.set_cons_zero, List.set_cons_succ]
  apply wpS_seq
  apply wpS_region
  simp [wpOpsS, go_sem, Exit.thenS]
  refine wpS_cond (t := false) (by simp [Act.eval]) ?_
  simp only [Bool.false_eq_true, if_false]
  refine wpS_of_wp (wp_skip ?_)
  cases c₀
  simp_all [bodyPostS, results, Try.results24]

/-- settle hands on what its work returns .. -/
theorem settle_ok (K : FuncId) (caps : Array Value) (x : Int) (w : World) (hcf : ∀ w, Sem.run Try.prog (callFunc K caps) w = .ok (.enter K caps) w) (h : ∀ w1, Below w.heap.size w w1 → w.heap.size < w1.heap.size → Calls Try.prog K caps w1 fun e w' => e = .returned (.int .i64 x) ∧ Below w1.heap.size w1 w') :
    Calls Try.prog 12 #[.func (.func K) #[] caps] w fun e w' => e = .returned (.tuple #[.int .i64 x, .int .i64 0]) ∧ Below w.heap.size w w' := by
  have H := hid (h (w.alloc (.cells #[.int .i64 1] 2)) ((Below.refl _ w).alloc (Nat.le_refl _) _) (by simp))
  have rB := hid (Row.new w 2 [.int .i64 1])
  clear h
  have hmf : ∀ (fn : Fn) (first cap : Array Value) (w : World), (Instr.makeFunc fn first cap).run Try.prog w = .ok (.func fn first cap) w := fun _ _ _ _ => rfl
  go_enter_defers Try.func12, Try.ntmps12
  go_wp2_with fail
  refine H.out.mono ?_
  rintro e w1 ⟨rfl, hB⟩
  have hz := hB.size
  simp only [World.size_alloc] at hB hz
  have r1 := rB.out.below hB (by omega)
  have hc := r1.cell 0
  have hf := r1.frozen 0
  simp only [List.getElem?_cons_zero] at hc
  have r2 := hid (r1.set 0 (.int .i64 0))
  have b2 := hid ((((Below.refl w.heap.size w).alloc (Nat.le_refl _) (.cells #[.int .i64 1] 2)).trans (hB.mono (by omega))).setCell (p := ⟨w.heap.size, 0, none⟩) (Nat.le_refl _) (.int .i64 0))
  clear r1
  go_wp2_with fail
  obtain ⟨W, hW⟩ : ∃ W, W = w1.setCell ⟨w.heap.size, 0, none⟩ (.int .i64 0) := ⟨_, rfl⟩
  rw [← hW] at r2 b2 ⊢
  clear hW hc hf
  have g := r2.out.cell 0
  simp only [List.set_cons_zero, List.getElem?_cons_zero] at g
  refine leaves_cons (f := 24) (args := #[.pointer (some ⟨w.heap.size, 0, none⟩)]) (by simp) (by simp [go_sem]) ?_
  refine (settleCatch_idle _ _).mono ?_
  rintro e u' w'' ⟨rfl, rfl, rfl⟩
  simp [Leaves, settle, results, Try.results12, go_sem, g, b2.out]
theorem settle_pan (K : FuncId) (caps : Array Value) (x : Int) (w : World) (hcf : ∀ w, Sem.run Try.prog (callFunc K caps) w = .ok (.enter K caps) w)
    (h : ∀ w1, Below w.heap.size w w1 → w.heap.size < w1.heap.size → Calls Try.prog K caps w1 fun e w' => e = .panicked [{ v := .iface 48 (.int .i64 x), recovered := false }] ∧ Below w1.heap.size w1 w') :
    Calls Try.prog 12 #[.func (.func K) #[] caps] w fun e w' => e = .returned (.tuple #[.int .i64 0, .int .i64 2]) ∧ Below w.heap.size w w' := by
  have H := hid (h (w.alloc (.cells #[.int .i64 1] 2)) ((Below.refl _ w).alloc (Nat.le_refl _) _) (by simp))
  have rB := hid (Row.new w 2 [.int .i64 1])
  clear h
  have hmf : ∀ (fn : Fn) (first cap : Array Value) (w : World), (Instr.makeFunc fn first cap).run Try.prog w = .ok (.func fn first cap) w := fun _ _ _ _ => rfl
  go_enter_defers Try.func12, Try.ntmps12
  go_wp2_with fail
  refine H.out.mono ?_
  rintro e w1 ⟨rfl, hB⟩
  have hz := hB.size
  simp only [World.size_alloc] at hB hz
  have r1 := rB.out.below hB (by omega)
  have hc := r1.cell 0
  have hf := r1.frozen 0
  simp only [List.getElem?_cons_zero] at hc
  have r2 := hid (r1.set 0 (.int .i64 2))
  have b2 := hid ((((Below.refl w.heap.size w).alloc (Nat.le_refl _) (.cells #[.int .i64 1] 2)).trans (hB.mono (by omega))).setCell (p := ⟨w.heap.size, 0, none⟩) (Nat.le_refl _) (.int .i64 2))
  clear r1
  go_wp2_with fail
  refine leaves_cons (f := 24) (args := #[.pointer (some ⟨w.heap.size, 0, none⟩)]) (by simp) (by simp [go_sem]) ?_
  refine (settleCatch_pan _ _ _ _ hc hf).mono ?_
  rintro e u' w'' ⟨rfl, rfl, rfl⟩
  obtain ⟨W, hW⟩ : ∃ W, W = w1.setCell ⟨w.heap.size, 0, none⟩ (.int .i64 2) := ⟨_, rfl⟩
  rw [← hW] at r2 b2 ⊢
  clear hW hc hf
  have g := r2.out.cell 0
  simp only [List.set_cons_zero, List.getElem?_cons_zero] at g
  simp [Leaves, settle, results, Try.results12, go_sem, g, b2.out]
end Go.Proofs.Ytpnhmncamcdipaa
