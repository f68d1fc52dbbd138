/- NearerRatio: the program's, the model's and the law's walk. -/
import Derived.Test.YtkpoaknjngankaaCompare
import Derived.Deep.QuietTactic
namespace Go.Proofs.Ytkpoaknjngankaa
open Go.RowKit
def sizeI (n : Int) : Int := if n < 0 then -n else n
theorem sizeI_neg {n : Int} (h : n < 0) : sizeI n = -n := by simp [sizeI, h]
theorem sizeI_pos {n : Int} (h : 0 ≤ n) : sizeI n = n := by simp [sizeI]; omega
/-- three ratios in boxes -/
theorem three_ratios (w : World) (T : TypeId) (a b x y s t : Value) : ∀ W, W = (((w.alloc (.cells #[a, b] T)).alloc (.cells #[x, y] T)).alloc (.cells #[s, t] T)) →
    Row W w.heap.size T [a, b] ∧ Row W (w.heap.size + 1) T [x, y] ∧ Row W (w.heap.size + 2) T [s, t] ∧ Below w.heap.size w W ∧ W.heap.size = w.heap.size + 1 + 1 + 1 := by
  rintro W rfl
  obtain ⟨h1, h2, h3, h4⟩ := two_ratios w T T a b x y _ rfl
  have h := Row.new ((w.alloc (.cells #[a, b] T)).alloc (.cells #[x, y] T)) T [s, t]
  rw [h4] at h
  exact ⟨h1.alloc _, h2.alloc _, h, h3.alloc (by rw [h4]; omega) _, by simp⟩
theorem size_any (n : Int) (hn : -1000000000000000000 ≤ n ∧ n ≤ 1000000000000000000) (w : World) : Calls Try.prog 80 #[.int .i64 n] w fun e w' => e = .returned (.int .i64 (sizeI n)) ∧ w = w' := by
  by_cases h : n < 0
  · rw [sizeI_neg h]
    have t1 : IntKind.i64.wrap (-n) = -n := IntWalk.i64_in _ (by omega)
    go_enter Try.func80, Try.ntmps80
    go_wp2_with fail
    go_ret
    exact ⟨rfl, rfl⟩
  · rw [sizeI_pos (by omega)]
    go_enter Try.func80, Try.ntmps80
    go_wp2_with fail
    go_ret
    exact ⟨rfl, rfl⟩
theorem max_any (a b : Int) (w : World) : Calls Try.prog 63 #[.int .i64 a, .int .i64 b] w fun e w' => e = .returned (.int .i64 (max a b)) ∧ w = w' := by
  by_cases h : b < a
  · have hm := hid (show max a b = a from by omega)
    go_enter Try.func63, Try.ntmps63
    go_wp2
    go_ret
    exact ⟨by rw [hm.out]; rfl, rfl⟩
  · have hm := hid (show max a b = b from by omega)
    go_enter Try.func63, Try.ntmps63
    go_wp2
    go_ret
    exact ⟨by rw [hm.out]; rfl, rfl⟩
set_option maxHeartbeats 1000000 in
theorem apart_any (p q a b : Int) (hX : -1000000000000000000 ≤ p * b ∧ p * b ≤ 1000000000000000000) (hY : -1000000000000000000 ≤ a * q ∧ a * q ≤ 1000000000000000000) (w : World) :
    Calls Try.prog 93 #[.agg #[.int .i64 p, .int .i64 q], .agg #[.int .i64 a, .int .i64 b]] w (GivesB w (.int .i64 (sizeI (p * b - a * q)))) := by
  obtain ⟨_, _, bW, _⟩ := two_ratios w 27 27 (.int .i64 p) (.int .i64 q) (.int .i64 a) (.int .i64 b) _ rfl
  have bE := hid bW
  clear bW
  have t1 : IntKind.i64.wrap (p * b) = p * b := IntWalk.i64_in _ (by omega)
  have t2 : IntKind.i64.wrap (a * q) = a * q := IntWalk.i64_in _ (by omega)
  obtain ⟨X, kX⟩ : ∃ X, p * b = X := ⟨_, rfl⟩
  obtain ⟨Y, kY⟩ : ∃ X, a * q = X := ⟨_, rfl⟩
  rw [kX] at hX t1 ⊢
  rw [kY] at hY t2 ⊢
  have t3 : IntKind.i64.wrap (X - Y) = X - Y := IntWalk.i64_in _ (by omega)
  have t4 : IntKind.i64.wrap (Y - X) = Y - X := IntWalk.i64_in _ (by omega)
  rcases Int.lt_trichotomy X Y with h | h | h
  · rw [sizeI_neg (show X - Y < 0 by omega), Int.neg_sub]
    have h1 : X - Y < Y - X := by omega
    go_enter Try.func93, Try.ntmps93
    go_wp2_with fail
    go_ret
    exact ⟨rfl, bE.out⟩
  · rw [sizeI_pos (show 0 ≤ X - Y by omega)]
    subst h
    rw [Int.sub_self] at t3 t4 ⊢
    go_enter Try.func93, Try.ntmps93
    go_wp2_with fail
    go_ret
    exact ⟨rfl, bE.out⟩
  · rw [sizeI_pos (show 0 ≤ X - Y by omega)]
    have h1 : Y - X < X - Y := by omega
    go_enter Try.func93, Try.ntmps93
    go_wp2_with fail
    go_ret
    exact ⟨rfl, bE.out⟩
/-- which of two small ratios is nearer -/
def nearI (p q a b c d : Int) : Int := cmp3 (sizeI (p * b - a * q) * d) (sizeI (p * d - c * q) * b)
theorem size_bd {n B : Int} (h : -B ≤ n ∧ n ≤ B) : 0 ≤ sizeI n ∧ sizeI n ≤ B := by unfold sizeI; split <;> omega
theorem mul12 {a b : Int} (h1 : 1 ≤ a) (h2 : a ≤ 1000000000) (h3 : 1 ≤ b) (h4 : b ≤ 1000) : 1 ≤ a * b ∧ a * b ≤ 1000000000000 := by
  have := mul_bd h1 h2 h3 h4
  omega
theorem mul15 {a b : Int} (h1 : 0 ≤ a) (h2 : a ≤ 1000000000000) (h3 : 1 ≤ b) (h4 : b ≤ 1000) : 0 ≤ a * b ∧ a * b ≤ 1000000000000000 := by
  have x := Int.mul_nonneg h1 (show 0 ≤ b by omega)
  have y := Int.mul_le_mul h2 h4 (by omega) (by omega)
  omega
/-- what the walks want of the numbers -/
structure NearFacts (p q a b c d X Y Z U : Int) : Prop where
  x : p * b = X
  y : a * q = Y
  z : p * d = Z
  u : c * q = U
  bx : 1 ≤ X ∧ X ≤ 1000000000000
  by_ : 1 ≤ Y ∧ Y ≤ 1000000000000
  bz : 1 ≤ Z ∧ Z ≤ 1000000000000
  bu : 1 ≤ U ∧ U ≤ 1000000000000
theorem near_facts {p q a b c d : Int} (hr : okR p q = true) (ha : okR a b = true) (hc : okR c d = true) (sa : a ≤ 1000) (sb : b ≤ 1000) (sc : c ≤ 1000) (sd : d ≤ 1000) : NearFacts p q a b c d (p * b) (a * q) (p * d) (c * q) := by
  obtain ⟨r1, r2, r3, r4, _⟩ := okR_out hr
  obtain ⟨a1, a2, a3, a4, _⟩ := okR_out ha
  obtain ⟨c1, c2, c3, c4, _⟩ := okR_out hc
  exact ⟨rfl, rfl, rfl, rfl, mul12 r1 r2 a3 sb, by rw [Int.mul_comm]; exact mul12 r3 r4 a1 sa, mul12 r1 r2 c3 sd, by rw [Int.mul_comm]; exact mul12 r3 r4 c1 sc⟩
set_option maxHeartbeats 2000000 in
theorem l03Nearer_any (p q a b c d : Int) (hr : okR p q = true) (ha : okR a b = true) (hc : okR c d = true) (sa : a ≤ 1000) (sb : b ≤ 1000) (sc : c ≤ 1000) (sd : d ≤ 1000) (w : World) :
    Calls Try.prog 65 #[.agg #[.int .i64 p, .int .i64 q], .int .i64 a, .int .i64 b, .int .i64 c, .int .i64 d] w (GivesB w (.int .i64 (nearI p q a b c d))) := by
  have bE := hid (box2_bel w 27 (.int .i64 p) (.int .i64 q))
  have F := near_facts hr ha hc sa sb sc sd
  have bpos := (okR_out ha).2.2.1
  have dpos := (okR_out hc).2.2.1
  unfold nearI
  obtain ⟨X, kX⟩ : ∃ X, p * b = X := ⟨_, rfl⟩
  obtain ⟨Y, kY⟩ : ∃ X, a * q = X := ⟨_, rfl⟩
  obtain ⟨Z, kZ⟩ : ∃ X, p * d = X := ⟨_, rfl⟩
  obtain ⟨U, kU⟩ : ∃ X, c * q = X := ⟨_, rfl⟩
  have fx := F.bx
  have fy := F.by_
  have fz := F.bz
  have fu := F.bu
  rw [kX] at fx ⊢
  rw [kY] at fy ⊢
  rw [kZ] at fz ⊢
  rw [kU] at fu ⊢
  have sx := size_bd (n := X - Y) (B := 1000000000000) (by omega)
  have sz := size_bd (n := Z - U) (B := 1000000000000) (by omega)
  have t1 : IntKind.i64.wrap X = X := IntWalk.i64_in _ (by omega)
  have t2 : IntKind.i64.wrap Y = Y := IntWalk.i64_in _ (by omega)
  have t3 : IntKind.i64.wrap Z = Z := IntWalk.i64_in _ (by omega)
  have t4 : IntKind.i64.wrap U = U := IntWalk.i64_in _ (by omega)
  have t5 : IntKind.i64.wrap (X - Y) = X - Y := IntWalk.i64_in _ (by omega)
  have t6 : IntKind.i64.wrap (Z - U) = Z - U := IntWalk.i64_in _ (by omega)
  have H1 := hid (fun w => size_any (X - Y) (by omega) w)
  have H2 := hid (fun w => size_any (Z - U) (by omega) w)
  obtain ⟨m, hm⟩ : ∃ m, sizeI (X - Y) = m := ⟨_, rfl⟩
  obtain ⟨n, hn⟩ : ∃ m, sizeI (Z - U) = m := ⟨_, rfl⟩
  rw [hm] at sx H1 ⊢
  rw [hn] at sz H2 ⊢
  have p1 := mul15 sx.1 sx.2 dpos sd
  have p2 := mul15 sz.1 sz.2 bpos sb
  have t7 : IntKind.i64.wrap (m * d) = m * d := IntWalk.i64_in _ (by omega)
  have t8 : IntKind.i64.wrap (n * b) = n * b := IntWalk.i64_in _ (by omega)
  obtain ⟨M, kM⟩ : ∃ X, m * d = X := ⟨_, rfl⟩
  obtain ⟨N, kN⟩ : ∃ X, n * b = X := ⟨_, rfl⟩
  rw [kM] at p1 t7 ⊢
  rw [kN] at p2 t8 ⊢
  clear F hr ha hc hm hn
  rcases Int.lt_trichotomy M N with h | h | h
  all_goals
    first | rw [cmp3_lt h] | rw [cmp3_gt h] | (subst h; rw [cmp3_eq])
    go_enter Try.func65, Try.ntmps65
    go_wp2_with fail
    refine (H1.out _).mono ?_
    rintro e w' ⟨rfl, rfl⟩
    go_wp2_with fail
    refine (H2.out _).mono ?_
    rintro e w' ⟨rfl, rfl⟩
    go_wp2_with fail
    go_ret
    exact ⟨rfl, bE.out⟩
set_option maxHeartbeats 4000000 in
theorem nearer_any (p q a b c d : Int) (hr : okR p q = true) (ha : okR a b = true) (hc : okR c d = true) (sa : a ≤ 1000) (sb : b ≤ 1000) (sc : c ≤ 1000) (sd : d ≤ 1000) (w : World) :
    Calls Try.prog 85 #[.agg #[.int .i64 p, .int .i64 q], .agg #[.int .i64 a, .int .i64 b], .agg #[.int .i64 c, .int .i64 d]] w (GivesB w (.int .i64 (nearI p q a b c d))) := by
  obtain ⟨W, hW⟩ : ∃ W, W = (((w.alloc (.cells #[.int .i64 p, .int .i64 q] 27)).alloc (.cells #[.int .i64 a, .int .i64 b] 27)).alloc (.cells #[.int .i64 c, .int .i64 d] 27)) := ⟨_, rfl⟩
  obtain ⟨q0, q1, q2, bW, sW⟩ := three_ratios w 27 (.int .i64 p) (.int .i64 q) (.int .i64 a) (.int .i64 b) (.int .i64 c) (.int .i64 d) W hW
  have bE := hid bW
  have hW2 := hid hW
  have l0 := q0.lt
  have l1 := q1.lt
  have l2 := q2.lt
  have hb0 := Below.refl W.heap.size W
  have Q0 := hid q0
  have Q1 := hid q1
  have Q2 := hid q2
  clear bW hW sW q0 q1 q2
  have F := near_facts hr ha hc sa sb sc sd
  have bpos := (okR_out ha).2.2.1
  have dpos := (okR_out hc).2.2.1
  unfold nearI
  obtain ⟨X, kX⟩ : ∃ X, p * b = X := ⟨_, rfl⟩
  obtain ⟨Y, kY⟩ : ∃ X, a * q = X := ⟨_, rfl⟩
  obtain ⟨Z, kZ⟩ : ∃ X, p * d = X := ⟨_, rfl⟩
  obtain ⟨U, kU⟩ : ∃ X, c * q = X := ⟨_, rfl⟩
  have fx := F.bx
  have fy := F.by_
  have fz := F.bz
  have fu := F.bu
  rw [kX] at fx ⊢
  rw [kY] at fy ⊢
  rw [kZ] at fz ⊢
  rw [kU] at fu ⊢
  have sx := size_bd (n := X - Y) (B := 1000000000000) (by omega)
  have sz := size_bd (n := Z - U) (B := 1000000000000) (by omega)
  have H1 := hid (fun w => apart_any p q a b (by rw [kX]; omega) (by rw [kY]; omega) w)
  have H2 := hid (fun w => apart_any p q c d (by rw [kZ]; omega) (by rw [kU]; omega) w)
  rw [kX, kY] at H1
  rw [kZ, kU] at H2
  obtain ⟨m, hm⟩ : ∃ m, sizeI (X - Y) = m := ⟨_, rfl⟩
  obtain ⟨n, hn⟩ : ∃ m, sizeI (Z - U) = m := ⟨_, rfl⟩
  rw [hm] at sx H1 ⊢
  rw [hn] at sz H2 ⊢
  have p1 := mul15 sx.1 sx.2 dpos sd
  have p2 := mul15 sz.1 sz.2 bpos sb
  have t7 : IntKind.i64.wrap (m * d) = m * d := IntWalk.i64_in _ (by omega)
  have t8 : IntKind.i64.wrap (n * b) = n * b := IntWalk.i64_in _ (by omega)
  obtain ⟨M, kM⟩ : ∃ X, m * d = X := ⟨_, rfl⟩
  obtain ⟨N, kN⟩ : ∃ X, n * b = X := ⟨_, rfl⟩
  rw [kM] at p1 t7 ⊢
  rw [kN] at p2 t8 ⊢
  have HC := hid (fun w => compare64 M N w)
  have cb := cmp3_bd M N
  clear F hr ha hc hm hn kX kY kZ kU
  go_enter Try.func85, Try.ntmps85
  go_wp2_with fail
  rw [← hW2.out]
  have c0 := Q0.out.cell 0
  have c1 := Q0.out.cell 1
  have c2 := Q1.out.cell 0
  have c3 := Q1.out.cell 1
  have c4 := Q2.out.cell 0
  have c5 := Q2.out.cell 1
  simp only [List.getElem?_cons_zero, List.getElem?_cons_succ] at c0 c1 c2 c3 c4 c5
  have hqs := (And.intro ((hb0.cell (p := ⟨w.heap.size, 0, none⟩) l0).trans c0) (And.intro ((hb0.cell (p := ⟨w.heap.size, 1, none⟩) l0).trans c1) (And.intro ((hb0.cell (p := ⟨w.heap.size + 1, 0, none⟩) l1).trans c2) (And.intro ((hb0.cell (p := ⟨w.heap.size + 1, 1, none⟩) l1).trans c3) (And.intro ((hb0.cell (p := ⟨w.heap.size + 2, 0, none⟩) l2).trans c4) ((hb0.cell (p := ⟨w.heap.size + 2, 1, none⟩) l2).trans c5))))))
  go_region_held3 (fun w' => w'.cell? ⟨w.heap.size, 0, none⟩ = some (.int .i64 p) ∧ w'.cell? ⟨w.heap.size, 1, none⟩ = some (.int .i64 q) ∧ w'.cell? ⟨w.heap.size + 1, 0, none⟩ = some (.int .i64 a) ∧ w'.cell? ⟨w.heap.size + 1, 1, none⟩ = some (.int .i64 b) ∧ w'.cell? ⟨w.heap.size + 2, 0, none⟩ = some (.int .i64 c) ∧ w'.cell? ⟨w.heap.size + 2, 1, none⟩ = some (.int .i64 d)) (first | with_reducible exact hq3 | with_reducible exact hq2 | with_reducible exact hq1 | exact hqs)
    ((first | (go_at_call 90; have hX := HC.out v2; refine hX.mono ?_; clear hX; rintro e v3 ⟨rfl, rfl⟩; have hq3 := hq2) | (go_at_call 93; have hX := H2.out v1; refine hX.mono ?_; clear hX; rintro e v2 ⟨rfl, hB2⟩; have hb2 := hb1.trans (hB2.mono hb1.size); have hq2 := (And.intro ((hb2.cell (p := ⟨w.heap.size, 0, none⟩) l0).trans c0) (And.intro ((hb2.cell (p := ⟨w.heap.size, 1, none⟩) l0).trans c1) (And.intro ((hb2.cell (p := ⟨w.heap.size + 1, 0, none⟩) l1).trans c2) (And.intro ((hb2.cell (p := ⟨w.heap.size + 1, 1, none⟩) l1).trans c3) (And.intro ((hb2.cell (p := ⟨w.heap.size + 2, 0, none⟩) l2).trans c4) ((hb2.cell (p := ⟨w.heap.size + 2, 1, none⟩) l2).trans c5))))))) | (go_at_call 93; have hX := H1.out W.drew; refine hX.mono ?_; clear hX; rintro e v1 ⟨rfl, hB1⟩; have hb1 := hb0.drew.trans (hB1.mono hb0.size); have hq1 := (And.intro ((hb1.cell (p := ⟨w.heap.size, 0, none⟩) l0).trans c0) (And.intro ((hb1.cell (p := ⟨w.heap.size, 1, none⟩) l0).trans c1) (And.intro ((hb1.cell (p := ⟨w.heap.size + 1, 0, none⟩) l1).trans c2) (And.intro ((hb1.cell (p := ⟨w.heap.size + 1, 1, none⟩) l1).trans c3) (And.intro ((hb1.cell (p := ⟨w.heap.size + 2, 0, none⟩) l2).trans c4) ((hb1.cell (p := ⟨w.heap.size + 2, 1, none⟩) l2).trans c5)))))))))
  go_wp2_with fail
  go_ret
  exact ⟨rfl, bE.out.trans (hb2.mono (by omega))⟩
end Go.Proofs.Ytkpoaknjngankaa
