/- ClicksOf: the program's, the model's, the law. -/
import Derived.Test.YtpnhmncamcdipaaRest
namespace Go.Proofs.Ytpnhmncamcdipaa
open Go.RowKit

theorem quiet_same2 {P : Program} {f : FuncId} {args : Array Value} {w : World} {m n : Nat} {v : Value}
    (h : Calls P f args (w.drewN (m + n)) fun e w' => e = .returned v ∧ w.drewN (m + n) = w') : Calls P f args (w.drewN (m + n)) fun e w'' => e = .returned v ∧ ∃ k, w'' = w.drewN (m + k) := by
  refine h.mono ?_
  rintro e w' ⟨he, hm⟩
  exact ⟨he, n, hm.symm⟩
set_option maxHeartbeats 1000000 in
theorem clicks1_ok (p q s : Addr) (turn by_ teeth : Int) (h : 0 ≤ turn ∧ turn ≤ 1000000000000000) (hy : 0 ≤ by_ ∧ by_ ≤ 1000000000000000) (ht : 1 ≤ teeth ∧ teeth ≤ 1000) (w : World) (hp : w.cell? p = some (.int .i64 turn)) (hq : w.cell? q = some (.int .i64 teeth)) (hs : w.cell? s = some (.int .i64 by_)) :
    Calls Try.prog 16 #[.pointer (some p), .pointer (some q), .pointer (some s)] w fun e w' => e = .returned (.int .i64 ((turn + by_) / gapOf teeth - turn / gapOf teeth)) ∧ ∃ d, w' = w.drewN d := by
  have gb := gap_bd ht.1 ht.2
  have e1 : Int.tdiv 1000 teeth = gapOf teeth := Int.tdiv_eq_ediv_of_nonneg (by decide)
  have n1 : teeth ≠ 0 := by omega
  have HF := hid (fun w => freeTurn_ok turn h w)
  have HG := hid (fun w => freeTurn_ok by_ hy w)
  obtain ⟨g, hg⟩ : ∃ g, g = gapOf teeth := ⟨_, rfl⟩
  rw [← hg] at gb e1
  rw [← hg]
  have w1 : IntKind.i64.wrap g = g := IntWalk.i64_in g (by omega)
  have w2 : IntKind.i64.wrap (turn + by_) = turn + by_ := IntWalk.i64_in _ (by omega)
  have e2 : (turn + by_).tdiv g = (turn + by_) / g := Int.tdiv_eq_ediv_of_nonneg (by omega)
  have e3 : turn.tdiv g = turn / g := Int.tdiv_eq_ediv_of_nonneg h.1
  have b2 := div_bd (turn + by_) g (by omega) gb.1
  have b3 := div_bd turn g h.1 gb.1
  obtain ⟨a, ha⟩ : ∃ a, a = (turn + by_) / g := ⟨_, rfl⟩
  obtain ⟨b, hb⟩ : ∃ b, b = turn / g := ⟨_, rfl⟩
  rw [← ha] at e2 b2
  rw [← hb] at e3 b3
  rw [← ha, ← hb]
  have w3 : IntKind.i64.wrap a = a := IntWalk.i64_in a (by omega)
  have w4 : IntKind.i64.wrap b = b := IntWalk.i64_in b (by omega)
  have w5 : IntKind.i64.wrap (a - b) = a - b := IntWalk.i64_in _ (by omega)
  have n2 : g ≠ 0 := by omega
  clear hg ha hb
  go_enter Try.func16, Try.ntmps16
  go_wp2_with fail
  go_quiet ((go_at_call 15; exact quiet_same (HF.out _)))
  go_wp2_with fail
  go_quiet ((go_at_call 15; exact quiet_same2 (HG.out _)))
  go_wp2_with fail
  go_ret
  exact ⟨rfl, _, World.drewN_drewN _ _ _⟩
set_option maxHeartbeats 1000000 in
theorem clicks1_noT (p q s : Addr) (turn teeth : Int) (h : ¬ (0 ≤ turn ∧ turn ≤ 1000000000000000)) (ht : 1 ≤ teeth ∧ teeth ≤ 1000) (w : World) (hp : w.cell? p = some (.int .i64 turn)) (hq : w.cell? q = some (.int .i64 teeth)) :
    Calls Try.prog 16 #[.pointer (some p), .pointer (some q), .pointer (some s)] w fun e w' => e = .panicked [{ v := .iface 48 (.int .i64 turn), recovered := false }] ∧ ∃ d, w' = w.drewN d := by
  have gb := gap_bd ht.1 ht.2
  have e1 : Int.tdiv 1000 teeth = gapOf teeth := Int.tdiv_eq_ediv_of_nonneg (by decide)
  have n1 : teeth ≠ 0 := by omega
  have HF := hid (fun w => freeTurn_no turn h w)
  obtain ⟨g, hg⟩ : ∃ g, g = gapOf teeth := ⟨_, rfl⟩
  rw [← hg] at gb e1
  have w1 : IntKind.i64.wrap g = g := IntWalk.i64_in g (by omega)
  clear hg h
  go_enter Try.func16, Try.ntmps16
  go_wp2_with fail
  refine wp_region_held (S := fun W' => W'.cell? p = some (.int .i64 turn) ∧ W'.cell? q = some (.int .i64 teeth)) (by kernel_rfl) ?_
  change wpAnyH _ _ _ _ _ _ _ _ (World.drew _)
  have hS : (fun W' : World => W'.cell? p = some (.int .i64 turn) ∧ W'.cell? q = some (.int .i64 teeth)) w.drew := ⟨hp, hq⟩
  refine wpAnyH_take (i := 0) (v := .int .i64 turn) rfl (by kernel_rfl) (by kernel_rfl) (by kernel_rfl) (fun _ _ _ h => h) (.inl ⟨by rfl, ?_⟩) hS ?_
  · intro w' hw'; obtain ⟨hw1, hw2⟩ := hw'; go_simp; try with_reducible rfl
  simp only [Act.put, List.setIfInBounds_toArray, List.set_cons_zero, List.set_cons_succ]
  refine wpAnyH_take (i := 2) (v := .int .i64 teeth) rfl (by kernel_rfl) (by kernel_rfl) (by kernel_rfl) (fun _ _ _ h => h) (.inl ⟨by rfl, ?_⟩) hS ?_
  · intro w' hw'; obtain ⟨hw1, hw2⟩ := hw'; go_simp; try with_reducible rfl
  simp only [Act.put, List.setIfInBounds_toArray, List.set_cons_zero, List.set_cons_succ]
  refine wpAnyH_take (i := 3) (v := .int .i64 g) rfl (by kernel_rfl) (by kernel_rfl) (by kernel_rfl) (fun _ _ _ h => h) (.inl ⟨by rfl, ?_⟩) hS ?_
  · intro w' hw'; obtain ⟨hw1, hw2⟩ := hw'; go_simp; try with_reducible rfl
  simp only [Act.put, List.setIfInBounds_toArray, List.set_cons_zero, List.set_cons_succ]
  refine wpAnyH_all (rs := [1]) (by kernel_rfl) (by simp) ?_
  intro i hi; simp only [List.mem_singleton] at hi; subst hi
  refine wpOp_step rfl (fun K hK => ?_)
  go_simp
  refine (HF.out _).mono ?_
  rintro e w' ⟨rfl, rfl⟩
  exact ⟨rfl, rfl, 1, rfl⟩
set_option maxHeartbeats 1000000 in
theorem clicks1_noB (p q s : Addr) (turn by_ teeth : Int) (h : 0 ≤ turn ∧ turn ≤ 1000000000000000) (hy : ¬ (0 ≤ by_ ∧ by_ ≤ 1000000000000000)) (ht : 1 ≤ teeth ∧ teeth ≤ 1000) (w : World) (hp : w.cell? p = some (.int .i64 turn)) (hq : w.cell? q = some (.int .i64 teeth)) (hs : w.cell? s = some (.int .i64 by_)) :
    Calls Try.prog 16 #[.pointer (some p), .pointer (some q), .pointer (some s)] w fun e w' => e = .panicked [{ v := .iface 48 (.int .i64 by_), recovered := false }] ∧ ∃ d, w' = w.drewN d := by
  have gb := gap_bd ht.1 ht.2
  have e1 : Int.tdiv 1000 teeth = gapOf teeth := Int.tdiv_eq_ediv_of_nonneg (by decide)
  have n1 : teeth ≠ 0 := by omega
  have HF := hid (fun w => freeTurn_ok turn h w)
  have HG := hid (fun w => freeTurn_no by_ hy w)
  obtain ⟨g, hg⟩ : ∃ g, g = gapOf teeth := ⟨_, rfl⟩
  rw [← hg] at gb e1
  have w1 : IntKind.i64.wrap g = g := IntWalk.i64_in g (by omega)
  have e3 : turn.tdiv g = turn / g := Int.tdiv_eq_ediv_of_nonneg h.1
  have b3 := div_bd turn g h.1 gb.1
  obtain ⟨b, hb⟩ : ∃ b, b = turn / g := ⟨_, rfl⟩
  rw [← hb] at e3 b3
  have w4 : IntKind.i64.wrap b = b := IntWalk.i64_in b (by omega)
  have n2 : g ≠ 0 := by omega
  clear hg hb hy
  go_enter Try.func16, Try.ntmps16
  go_wp2_with fail
  go_quiet ((go_at_call 15; exact quiet_same (HF.out _)))
  go_wp2_with fail
  refine wp_region_held (S := fun W' => W'.cell? s = some (.int .i64 by_)) (by kernel_rfl) ?_
  change wpAnyH _ _ _ _ _ _ _ _ (World.drew _)
  have hS : (fun W' : World => W'.cell? s = some (.int .i64 by_)) (w.drewN nq).drew := hs
  refine wpAnyH_take (i := 0) (v := .int .i64 turn) rfl (by kernel_rfl) (by kernel_rfl) (by kernel_rfl) (fun _ _ _ h => h) (.inl ⟨by rfl, ?_⟩) hS ?_
  · intro w' hw'; have hw1 := hw'; go_simp; try with_reducible rfl
  simp only [Act.put, List.setIfInBounds_toArray, List.set_cons_zero, List.set_cons_succ]
  refine wpAnyH_take (i := 1) (v := .int .i64 by_) rfl (by kernel_rfl) (by kernel_rfl) (by kernel_rfl) (fun _ _ _ h => h) (.inl ⟨by rfl, ?_⟩) hS ?_
  · intro w' hw'; have hw1 := hw'; go_simp; try with_reducible rfl
  simp only [Act.put, List.setIfInBounds_toArray, List.set_cons_zero, List.set_cons_succ]
  refine wpAnyH_take (i := 4) (v := .int .i64 g) rfl (by kernel_rfl) (by kernel_rfl) (by kernel_rfl) (fun _ _ _ h => h) (.inl ⟨by rfl, ?_⟩) hS ?_
  · intro w' hw'; have hw1 := hw'; go_simp; try with_reducible rfl
  simp only [Act.put, List.setIfInBounds_toArray, List.set_cons_zero, List.set_cons_succ]
  refine wpAnyH_take (i := 6) (v := .int .i64 turn) rfl (by kernel_rfl) (by kernel_rfl) (by kernel_rfl) (fun _ _ _ h => h) (.inl ⟨by rfl, ?_⟩) hS ?_
  · intro w' hw'; have hw1 := hw'; go_simp; try with_reducible rfl
  simp only [Act.put, List.setIfInBounds_toArray, List.set_cons_zero, List.set_cons_succ]
  refine wpAnyH_take (i := 7) (v := .int .i64 g) rfl (by kernel_rfl) (by kernel_rfl) (by kernel_rfl) (fun _ _ _ h => h) (.inl ⟨by rfl, ?_⟩) hS ?_
  · intro w' hw'; have hw1 := hw'; go_simp; try with_reducible rfl
  simp only [Act.put, List.setIfInBounds_toArray, List.set_cons_zero, List.set_cons_succ]
  refine wpAnyH_take (i := 8) (v := .int .i64 b) rfl (by kernel_rfl) (by kernel_rfl) (by kernel_rfl) (fun _ _ _ h => h) (.inl ⟨by rfl, ?_⟩) hS ?_
  · intro w' hw'; have hw1 := hw'; go_simp; try with_reducible rfl
  simp only [Act.put, List.setIfInBounds_toArray, List.set_cons_zero, List.set_cons_succ]
  refine wpAnyH_all (rs := [2]) (by kernel_rfl) (by simp) ?_
  intro i hi; simp only [List.mem_singleton] at hi; subst hi
  refine wpOp_step rfl (fun K hK => ?_)
  go_simp
  refine (HG.out _).mono ?_
  rintro e w' ⟨rfl, rfl⟩
  exact ⟨rfl, rfl, _, rfl⟩

set_option maxHeartbeats 1000000 in
theorem implClicksOf_any (turn by_ t : Int) (w : World) : Calls Try.prog 7 #[.int .i64 turn, .int .i64 by_, .int .i64 t] w fun e w' => e = .returned (.tuple #[.int .i64 (clicksR turn by_ t).1, .int .i64 (clicksR turn by_ t).2]) ∧ Below w.heap.size w w' := by
  have bel : Below w.heap.size w (((w.alloc (.cells #[.int .i64 turn] 2)).alloc (.cells #[.int .i64 by_] 2)).alloc (.cells #[.int .i64 t] 2)) := (((Below.refl w.heap.size w).alloc (Nat.le_refl _) _).alloc (by simp) _).alloc (by simp; omega) _
  have r1 := hid (((Row.new w 2 [.int .i64 turn]).alloc (.cells #[.int .i64 by_] 2)).alloc (.cells #[.int .i64 t] 2))
  have r2 := hid ((Row.new (w.alloc (.cells #[.int .i64 turn] 2)) 2 [.int .i64 by_]).alloc (.cells #[.int .i64 t] 2))
  have r3 := hid (Row.new ((w.alloc (.cells #[.int .i64 turn] 2)).alloc (.cells #[.int .i64 by_] 2)) 2 [.int .i64 t])
  have hmf : ∀ (fn : Fn) (first cap : Array Value) (w : World), (Instr.makeFunc fn first cap).run Try.prog w = .ok (.func fn first cap) w := fun _ _ _ _ => rfl
  have cells : Hid (∀ w1, Below (((w.alloc (.cells #[.int .i64 turn] 2)).alloc (.cells #[.int .i64 by_] 2)).alloc (.cells #[.int .i64 t] 2)).heap.size (((w.alloc (.cells #[.int .i64 turn] 2)).alloc (.cells #[.int .i64 by_] 2)).alloc (.cells #[.int .i64 t] 2)) w1 → w1.cell? ⟨w.heap.size, 0, none⟩ = some (.int .i64 turn) ∧ w1.cell? ⟨w.heap.size + 1, 0, none⟩ = some (.int .i64 by_) ∧ w1.cell? ⟨w.heap.size + 1 + 1, 0, none⟩ = some (.int .i64 t)) := by
    refine hid (fun w1 hB => ?_)
    have a := (r1.out.below hB (by simp; omega)).cell 0
    have b := r2.out
    simp only [World.size_alloc] at b
    have b := (b.below hB (by simp)).cell 0
    have c := r3.out
    simp only [World.size_alloc] at c
    have c := (c.below hB (by simp)).cell 0
    exact ⟨a, b, c⟩
  clear r1 r2 r3
  cases ht : teethB t with
  | false =>
    rw [clicksR_teeth ht]
    have HT := hid (fun w => validTeeth_any t w)
    rw [ht] at HT
    clear ht
    go_enter Try.func7, Try.ntmps7
    go_wp2_with (go_at_call 11; refine (HT.out _).mono ?_; rintro e w' ⟨rfl, rfl⟩)
    go_ret2
    exact ⟨rfl, bel⟩
  | true =>
    have HT := hid (fun w => validTeeth_any t w)
    rw [ht] at HT
    have hb := teethB_out ht
    cases hu : turnB turn with
    | false =>
      rw [clicksR_turn hu]
      have HS := hid (settle_pan 16 #[.pointer (some ⟨w.heap.size, 0, none⟩), .pointer (some ⟨w.heap.size + 1 + 1, 0, none⟩), .pointer (some ⟨w.heap.size + 1, 0, none⟩)] turn (((w.alloc (.cells #[.int .i64 turn] 2)).alloc (.cells #[.int .i64 by_] 2)).alloc (.cells #[.int .i64 t] 2)) (fun _ => rfl)
        (fun w1 h1 _ => (clicks1_noT _ _ _ turn t (turnB_no hu) ⟨hb.1, hb.2.1⟩ w1 (cells.out w1 h1).1 (cells.out w1 h1).2.2).mono fun e w' ⟨he, d, hd⟩ => ⟨he, by rw [hd]; exact below_drewN (Below.refl _ _) d⟩))
      clear ht hu cells
      go_enter Try.func7, Try.ntmps7
      go_wp2_with (go_at_call 11; refine (HT.out _).mono ?_; rintro e w' ⟨rfl, rfl⟩)
      refine HS.out.mono ?_
      rintro e w1 ⟨rfl, hB⟩
      go_wp2_with fail
      go_ret2
      exact ⟨rfl, bel.trans (hB.mono (by simp; omega))⟩
    | true =>
      cases hy : turnB by_ with
      | false =>
        rw [clicksR_by hy]
        have HS := hid (settle_pan 16 #[.pointer (some ⟨w.heap.size, 0, none⟩), .pointer (some ⟨w.heap.size + 1 + 1, 0, none⟩), .pointer (some ⟨w.heap.size + 1, 0, none⟩)] by_ (((w.alloc (.cells #[.int .i64 turn] 2)).alloc (.cells #[.int .i64 by_] 2)).alloc (.cells #[.int .i64 t] 2)) (fun _ => rfl)
          (fun w1 h1 _ => (clicks1_noB _ _ _ turn by_ t (turnB_yes hu) (turnB_no hy) ⟨hb.1, hb.2.1⟩ w1 (cells.out w1 h1).1 (cells.out w1 h1).2.2 (cells.out w1 h1).2.1).mono fun e w' ⟨he, d, hd⟩ => ⟨he, by rw [hd]; exact below_drewN (Below.refl _ _) d⟩))
        clear ht hu hy cells
        go_enter Try.func7, Try.ntmps7
        go_wp2_with (go_at_call 11; refine (HT.out _).mono ?_; rintro e w' ⟨rfl, rfl⟩)
        refine HS.out.mono ?_
        rintro e w1 ⟨rfl, hB⟩
        go_wp2_with fail
        go_ret2
        exact ⟨rfl, bel.trans (hB.mono (by simp; omega))⟩
      | true =>
        rw [clicksR_yes ht hu hy]
        have HS := hid (settle_ok 16 #[.pointer (some ⟨w.heap.size, 0, none⟩), .pointer (some ⟨w.heap.size + 1 + 1, 0, none⟩), .pointer (some ⟨w.heap.size + 1, 0, none⟩)] ((turn + by_) / gapOf t - turn / gapOf t) (((w.alloc (.cells #[.int .i64 turn] 2)).alloc (.cells #[.int .i64 by_] 2)).alloc (.cells #[.int .i64 t] 2)) (fun _ => rfl)
          (fun w1 h1 _ => (clicks1_ok _ _ _ turn by_ t (turnB_yes hu) (turnB_yes hy) ⟨hb.1, hb.2.1⟩ w1 (cells.out w1 h1).1 (cells.out w1 h1).2.2 (cells.out w1 h1).2.1).mono fun e w' ⟨he, d, hd⟩ => ⟨he, by rw [hd]; exact below_drewN (Below.refl _ _) d⟩))
        clear ht hu hy cells
        go_enter Try.func7, Try.ntmps7
        go_wp2_with (go_at_call 11; refine (HT.out _).mono ?_; rintro e w' ⟨rfl, rfl⟩)
        refine HS.out.mono ?_
        rintro e w1 ⟨rfl, hB⟩
        go_wp2_with fail
        go_ret2
        exact ⟨rfl, bel.trans (hB.mono (by simp; omega))⟩

end Go.Proofs.Ytpnhmncamcdipaa
