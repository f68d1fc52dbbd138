/- Readings, flows and possible counts; the model's. -/
import Derived.Test.YtofpgkbcodopiaaFlowE
namespace Go.Proofs.Ytofpgkbcodopiaa
open Go.RowKit
theorem quiet_sm {P : Program} {f : FuncId} {args : Array Value} {w : World} {n : Nat} {v : Value}
    (h : Calls P f args (w.drewN n) fun e w' => e = .returned v ∧ w.drewN n = w') : Calls P f args (w.drewN n) fun e w'' => e = .returned v ∧ ∃ m, w'' = w.drewN m :=
  h.mono fun _ _ ⟨he, hm⟩ => ⟨he, n, hm.symm⟩
theorem l01Size_is (b n cap : Nat) (zs : List Int) (hn : n = zs.length) (hv : okL zs = true) (w : World) (h : Stk w b zs) :
    Calls Try.prog 25 #[.slice (some ⟨b, 0, none⟩) n cap] w fun e w' => e = .returned (.int .i64 (szL zs)) ∧ w = w' := by
  obtain ⟨_, _, hin, _, hs⟩ := okL_out hv
  have := l01Size_any b n cap zs w h (by omega) (by rw [hn]; exact hin)
  rwa [hn, List.take_length, show szC zs = szL zs from by unfold szC; omega, ← hn] at this
theorem tmod_up (a b : Int) : (a.tmod b + b) % b = a % b := by
  rw [Int.tmod_def, show a - b * a.tdiv b + b = a + b * (1 - a.tdiv b) by rw [Int.mul_sub]; omega, Int.add_mul_emod_self_left]
theorem l04Mod_any (a c : Int) (_ : -1000000000000000000 ≤ a ∧ a ≤ 1000000000000000000) (hc : 1 ≤ c ∧ c ≤ 10000000000000000) (w : World) :
    Calls Try.prog 26 #[.int .i64 a, .int .i64 c] w fun e w' => e = .returned (.int .i64 (a % c)) ∧ w = w' := by
  have e0 := tmod_up a c
  have h1 := Int.tmod_lt_of_pos a (show 0 < c by omega)
  have h2 : -c < a.tmod c := by
    have := Int.lt_tmod_of_pos a (show 0 < c by omega)
    omega
  have h3 := Int.emod_nonneg a (show c ≠ 0 by omega)
  have h4 := Int.emod_lt_of_pos a (show 0 < c by omega)
  obtain ⟨q, hq⟩ : ∃ q, a.tmod c = q := ⟨_, rfl⟩
  rw [hq] at e0 h1 h2
  obtain ⟨r, hr⟩ : ∃ r, a % c = r := ⟨_, rfl⟩
  rw [hr] at e0 h3 h4 ⊢
  obtain ⟨s, hs⟩ : ∃ s, q + c = s := ⟨_, rfl⟩
  rw [hs] at e0
  have e1 : s.tmod c = r := by rw [Int.tmod_eq_emod_of_nonneg (by omega)]; exact e0
  have d0 : (c == 0) = false := by simp; omega
  have d1 : (c != 0) = true := by simp; omega
  have tq : IntKind.i64.wrap q = q := IntWalk.i64_in _ (by omega)
  have ts : IntKind.i64.wrap s = s := IntWalk.i64_in _ (by omega)
  have tr : IntKind.i64.wrap r = r := IntWalk.i64_in _ (by omega)
  clear hr e0
  go_enter Try.func26, Try.ntmps26
  go_wp2_with fail
  go_ret
  exact ⟨rfl, rfl⟩
set_option maxHeartbeats 1000000 in
theorem l04Reading_any (bS n cap : Nat) (zs : List Int) (hn : n = zs.length) (hv : okL zs = true) (d x : Int) (w : World) (hS : Stk w bS zs) :
    Calls Try.prog 51 #[.slice (some ⟨bS, 0, none⟩) n cap, .agg #[.int .i64 d, .int .i64 x]] w (GivesB w (.bool (okRd (szL zs) d x))) := by
  have bel := hid (box2_bel w 38 (.int .i64 d) (.int .i64 x))
  by_cases h1 : d < 0 ∨ 100000 < d
  · have e : okRd (szL zs) d x = false := by rcases h1 with h | h; exact okRd_low h; exact okRd_high h
    rw [e]
    have HI := hid (fun w => inr_no d 0 100000 w h1)
    clear h1 e
    go_enter Try.func51, Try.ntmps51
    go_wp2_with fail
    go_quiet ((go_at_call 24; exact quiet_sm (HI.out _)))
    go_wp2_with fail
    go_ret
    exact ⟨rfl, below_drewN bel.out _⟩
  have HI := hid (fun w => inr_yes d 0 100000 w (by omega))
  rw [okRd_val (by omega) (by omega)]
  have HS := hid (fun k => (hS.below (bel.out) hS.1).below (below_drewN (Below.refl _ _) k) (Nat.lt_of_lt_of_le hS.1 bel.out.size))
  have HZ := hid (fun k => l01Size_is bS n cap zs hn hv _ (HS.out k))
  have HJ := hid (show ∀ w, Calls Try.prog 24 #[.int .i64 x, .int .i64 0, .int .i64 (szL zs - 1)] w fun e w' => e = .returned (.bool (decide (0 ≤ x ∧ x < szL zs))) ∧ w = w' from fun w => by
    by_cases h : 0 ≤ x ∧ x < szL zs
    · rw [decide_eq_true h]; exact inr_yes _ _ _ w (by omega)
    · rw [decide_eq_false h]; exact inr_no _ _ _ w (by omega))
  obtain ⟨_, _, _, z1, z2⟩ := okL_out hv
  obtain ⟨r, hr⟩ : ∃ r, decide (0 ≤ x ∧ x < szL zs) = r := ⟨_, rfl⟩
  rw [hr] at HJ ⊢
  obtain ⟨z, hz⟩ : ∃ z, szL zs = z := ⟨_, rfl⟩
  rw [hz] at HJ HZ z1 z2
  have tz : IntKind.i64.wrap (z - 1) = z - 1 := IntWalk.i64_in _ (by omega)
  clear hr hz hv hn hS h1
  go_enter Try.func51, Try.ntmps51
  go_wp2_with fail
  go_quiet ((first | (go_at_call 25; exact quiet_sm (HZ.out _)) | (go_at_call 24; with_reducible exact quiet_sm (HI.out _)) | (go_at_call 24; with_reducible exact quiet_sm (HJ.out _))))
  go_wp2_with fail
  go_ret
  exact ⟨rfl, below_drewN bel.out _⟩
def cnt3 (z way low high : Int) : Value := if lstI z way low ≤ high then .tuple #[.int .i64 (lstI z way low), .int .i64 (gstI z way high), .bool true] else .tuple #[.int .i64 0, .int .i64 0, .bool false]
theorem mul_any (x d : Int) (hx : -1000000 ≤ x ∧ x ≤ 1000000) (hd : 0 ≤ d ∧ d ≤ 100000) : -100000000000 ≤ x * d ∧ x * d ≤ 100000000000 := by
  have h1 := Int.mul_le_mul_of_nonneg_right hx.2 hd.1
  have h2 := Int.mul_le_mul_of_nonneg_left hd.2 (show (0 : Int) ≤ 1000000 by omega)
  have h3 := Int.mul_le_mul_of_nonneg_right hx.1 hd.1
  omega
set_option maxHeartbeats 4000000 in
theorem l04Counts_any (bS n cap : Nat) (zs : List Int) (hn : n = zs.length) (hv : okL zs = true) (a u b v lo hi : Int) (h : -1000000000000 ≤ v - u ∧ v - u ≤ 1000000000000) (hd : 0 ≤ b - a ∧ b - a ≤ 100000) (hl : 0 ≤ lo ∧ lo ≤ 1000000) (hh : 0 ≤ hi ∧ hi ≤ 1000000) (w : World) (hS : Stk w bS zs) :
    Calls Try.prog 28 #[.slice (some ⟨bS, 0, none⟩) n cap, .agg #[.int .i64 a, .int .i64 u], .agg #[.int .i64 b, .int .i64 v], .agg #[.int .i64 lo, .int .i64 hi]] w (GivesB w (cnt3 (szL zs) (v - u) (lo * (b - a)) (hi * (b - a)))) := by
  obtain ⟨W, hW⟩ : ∃ W, W = (((w.alloc (.cells #[.int .i64 a, .int .i64 u] 38)).alloc (.cells #[.int .i64 b, .int .i64 v] 38)).alloc (.cells #[.int .i64 lo, .int .i64 hi] 27)) := ⟨_, rfl⟩
  obtain ⟨q0, q1, q2, bW, sW⟩ := iv3_boxes w _ _ _ _ _ _ _ _ W hW
  have HS := hid (hS.below bW hS.1)
  have hbs := HS.out.1
  have bE := hid bW
  have SW := hid sW
  have hW2 := hid hW
  have Q0 := hid q0
  have Q1 := hid q1
  have Q2 := hid q2
  have HZ := hid (l01Size_is bS n cap zs hn hv W HS.out)
  obtain ⟨_, _, _, z1, z2⟩ := okL_out hv
  obtain ⟨m1, m2⟩ := mul_small lo (b - a) hl hd
  obtain ⟨m3, m4⟩ := mul_small hi (b - a) hh hd
  obtain ⟨z, hz⟩ : ∃ z, szL zs = z := ⟨_, rfl⟩
  rw [hz] at HZ z1 z2 ⊢
  obtain ⟨d, hd'⟩ : ∃ d, b - a = d := ⟨_, rfl⟩
  rw [hd'] at m1 m2 m3 m4 hd ⊢
  obtain ⟨y, hy⟩ : ∃ y, v - u = y := ⟨_, rfl⟩
  rw [hy] at h ⊢
  obtain ⟨low, hlow⟩ : ∃ x, lo * d = x := ⟨_, rfl⟩
  rw [hlow] at m1 m2 ⊢
  obtain ⟨high, hhigh⟩ : ∃ x, hi * d = x := ⟨_, rfl⟩
  rw [hhigh] at m3 m4 ⊢
  have M1 := hid (fun w => l04Mod_any y z (by omega) (by omega) w)
  have p1 := Int.emod_nonneg y (show z ≠ 0 by omega)
  have p2 := Int.emod_lt_of_pos y (show 0 < z by omega)
  have M2 := hid (fun w => l04Mod_any (y % z - low) z (by omega) (by omega) w)
  have M3 := hid (fun w => l04Mod_any (high - y % z) z (by omega) (by omega) w)
  rw [mod_gap] at M2
  rw [mod_gap'] at M3
  have p3 := Int.emod_nonneg (y - low) (show z ≠ 0 by omega)
  have p4 := Int.emod_lt_of_pos (y - low) (show 0 < z by omega)
  have p5 := Int.emod_nonneg (high - y) (show z ≠ 0 by omega)
  have p6 := Int.emod_lt_of_pos (high - y) (show 0 < z by omega)
  have E1 : lstI z y low = low + (y - low) % z := rfl
  have E2 : gstI z y high = high - (high - y) % z := rfl
  unfold cnt3
  rw [E1, E2]
  obtain ⟨g, hg⟩ : ∃ g, y % z = g := ⟨_, rfl⟩
  obtain ⟨r, hr⟩ : ∃ g, (y - low) % z = g := ⟨_, rfl⟩
  obtain ⟨t, ht⟩ : ∃ g, (high - y) % z = g := ⟨_, rfl⟩
  rw [hg] at M1 M2 M3 p1 p2
  rw [hr] at M2 p3 p4 ⊢
  rw [ht] at M3 p5 p6 ⊢
  have w1 : IntKind.i64.wrap d = d := IntWalk.i64_in _ (by omega)
  have w2 : IntKind.i64.wrap low = low := IntWalk.i64_in _ (by omega)
  have w3 : IntKind.i64.wrap high = high := IntWalk.i64_in _ (by omega)
  have w4 : IntKind.i64.wrap y = y := IntWalk.i64_in _ (by omega)
  have s0 := SW.out
  clear hg hr ht E1 E2 hz hn hv hS hW bW sW hl hh
  by_cases hc : low + r ≤ high
  · rw [if_pos hc]
    go_enter Try.func28, Try.ntmps28
    have x0 := Q0.out.cell 0
    have y0 := Q0.out.cell 1
    simp only [List.getElem?_cons_zero, List.getElem?_cons_succ] at x0 y0
    have x1 := Q1.out.cell 0
    have y1 := Q1.out.cell 1
    simp only [List.getElem?_cons_zero, List.getElem?_cons_succ] at x1 y1
    have x2 := Q2.out.cell 0
    have y2 := Q2.out.cell 1
    simp only [List.getElem?_cons_zero, List.getElem?_cons_succ] at x2 y2
    go_wp2_with fail
    rw [← hW2.out]
    refine HZ.out.mono ?_
    rintro e w' ⟨rfl, rfl⟩
    go_wp2_with fail
    refine (M1.out _).mono ?_
    rintro e w' ⟨rfl, rfl⟩
    go_wp2_with fail
    refine (M2.out _).mono ?_
    rintro e w' ⟨rfl, rfl⟩
    go_wp2_with fail
    refine (M3.out _).mono ?_
    rintro e w' ⟨rfl, rfl⟩
    go_wp2_with fail
    go_ret3
    exact ⟨rfl, bE.out⟩
  · rw [if_neg hc]
    have hc' : high < low + r := by omega
    go_enter Try.func28, Try.ntmps28
    have x0 := Q0.out.cell 0
    have y0 := Q0.out.cell 1
    simp only [List.getElem?_cons_zero, List.getElem?_cons_succ] at x0 y0
    have x1 := Q1.out.cell 0
    have y1 := Q1.out.cell 1
    simp only [List.getElem?_cons_zero, List.getElem?_cons_succ] at x1 y1
    have x2 := Q2.out.cell 0
    have y2 := Q2.out.cell 1
    simp only [List.getElem?_cons_zero, List.getElem?_cons_succ] at x2 y2
    go_wp2_with fail
    rw [← hW2.out]
    refine HZ.out.mono ?_
    rintro e w' ⟨rfl, rfl⟩
    go_wp2_with fail
    refine (M1.out _).mono ?_
    rintro e w' ⟨rfl, rfl⟩
    go_wp2_with fail
    refine (M2.out _).mono ?_
    rintro e w' ⟨rfl, rfl⟩
    go_wp2_with fail
    go_ret3
    exact ⟨rfl, bE.out⟩
end Go.Proofs.Ytofpgkbcodopiaa
