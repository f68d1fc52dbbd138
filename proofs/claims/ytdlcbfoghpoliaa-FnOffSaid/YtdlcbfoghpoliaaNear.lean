/- NearerRatio: the program's, the model's and the law's walk. -/
import Derived.Test.YtdlcbfoghpoliaaCompare
import Derived.Deep.QuietTactic
namespace Go.Proofs.Ytdlcbfoghpoliaa
open Go.RowKit
def sizeI (n : Int) : Int := if n < 0 then -n else n
theorem sizeI_neg {n : Int} (h : n < 0) : sizeI n = -n := by simp [sizeI, h]
theorem sizeI_pos {n : Int} (h : 0 ≤ n) : sizeI n = n := by simp [sizeI]; omega
/-- three ratios in boxes -/
theorem three_ratios (w : World) (T : TypeId) (a b x y s t : Value) : ∀ W, W = (((w.alloc (.cells #[a, b] T)).alloc (.cells #[x, y] T)).alloc (.cells #[s, t] T)) →
    Row W w.heap.size T [a, b] ∧ Row W (w.heap.size + 1) T [x, y] ∧ Row W (w.heap.size + 2) T [s, t] ∧ Below w.heap.size w W ∧ W.heap.size = w.heap.size + 1 + 1 + 1 := by
  rintro W rfl
  obtain ⟨h1, h2, h3, h4⟩ := two_ratios w T T a b x y _ rfl
  have h := Row.new ((w.alloc (.cells #[a, b] T)).alloc (.cells #[x, y] T)) T [s, t]
  rw [h4] at h
  exact ⟨h1.alloc _, h2.alloc _, h, h3.alloc (by rw [h4]; omega) _, by simp⟩
theorem size_any (n : Int) (hn : -1000000000000000000 ≤ n ∧ n ≤ 1000000000000000000) (w : World) : Calls Try.prog 31 #[.int .i64 n] w fun e w' => e = .returned (.int .i64 (sizeI n)) ∧ w = w' := by
  by_cases h : n < 0
  · rw [sizeI_neg h]
    have t1 : IntKind.i64.wrap (-n) = -n := IntWalk.i64_in _ (by omega)
    go_enter Try.func31, Try.ntmps31
    go_wp2_with fail
    go_ret
    exact ⟨rfl, rfl⟩
  · rw [sizeI_pos (by omega)]
    go_enter Try.func31, Try.ntmps31
    go_wp2_with fail
    go_ret
    exact ⟨rfl, rfl⟩
theorem max_any (a b : Int) (w : World) : Calls Try.prog 18 #[.int .i64 a, .int .i64 b] w fun e w' => e = .returned (.int .i64 (max a b)) ∧ w = w' := by
  by_cases h : b < a
  · have hm := hid (show max a b = a from by omega)
    go_enter Try.func18, Try.ntmps18
    go_wp2
    go_ret
    exact ⟨by rw [hm.out]; rfl, rfl⟩
  · have hm := hid (show max a b = b from by omega)
    go_enter Try.func18, Try.ntmps18
    go_wp2
    go_ret
    exact ⟨by rw [hm.out]; rfl, rfl⟩
/-- which of two small ratios is nearer -/
def nearI (p q a b c d : Int) : Int := cmp3 (sizeI (p * b - a * q) * d) (sizeI (p * d - c * q) * b)
theorem size_bd {n B : Int} (h : -B ≤ n ∧ n ≤ B) : 0 ≤ sizeI n ∧ sizeI n ≤ B := by unfold sizeI; split <;> omega
theorem mul12 {a b : Int} (h1 : 1 ≤ a) (h2 : a ≤ 1000000000) (h3 : 1 ≤ b) (h4 : b ≤ 1000) : 1 ≤ a * b ∧ a * b ≤ 1000000000000 := by
  have := mul_bd h1 h2 h3 h4
  omega
theorem mul15 {a b : Int} (h1 : 0 ≤ a) (h2 : a ≤ 1000000000000) (h3 : 1 ≤ b) (h4 : b ≤ 1000) : 0 ≤ a * b ∧ a * b ≤ 1000000000000000 := by
  have x := Int.mul_nonneg h1 (show 0 ≤ b by omega)
  have y := Int.mul_le_mul h2 h4 (by omega) (by omega)
  omega
/-- what the walks want of the numbers -/
structure NearFacts (p q a b c d X Y Z U : Int) : Prop where
  x : p * b = X
  y : a * q = Y
  z : p * d = Z
  u : c * q = U
  bx : 1 ≤ X ∧ X ≤ 1000000000000
  by_ : 1 ≤ Y ∧ Y ≤ 1000000000000
  bz : 1 ≤ Z ∧ Z ≤ 1000000000000
  bu : 1 ≤ U ∧ U ≤ 1000000000000
theorem near_facts {p q a b c d : Int} (hr : okR p q = true) (ha : okR a b = true) (hc : okR c d = true) (sa : a ≤ 1000) (sb : b ≤ 1000) (sc : c ≤ 1000) (sd : d ≤ 1000) : NearFacts p q a b c d (p * b) (a * q) (p * d) (c * q) := by
  obtain ⟨r1, r2, r3, r4, _⟩ := okR_out hr
  obtain ⟨a1, a2, a3, a4, _⟩ := okR_out ha
  obtain ⟨c1, c2, c3, c4, _⟩ := okR_out hc
  exact ⟨rfl, rfl, rfl, rfl, mul12 r1 r2 a3 sb, by rw [Int.mul_comm]; exact mul12 r3 r4 a1 sa, mul12 r1 r2 c3 sd, by rw [Int.mul_comm]; exact mul12 r3 r4 c1 sc⟩
set_option maxHeartbeats 2000000 in
theorem l03Nearer_any (p q a b c d : Int) (hr : okR p q = true) (ha : okR a b = true) (hc : okR c d = true) (sa : a ≤ 1000) (sb : b ≤ 1000) (sc : c ≤ 1000) (sd : d ≤ 1000) (w : World) :
    Calls Try.prog 20 #[.agg #[.int .i64 p, .int .i64 q], .int .i64 a, .int .i64 b, .int .i64 c, .int .i64 d] w (GivesB w (.int .i64 (nearI p q a b c d))) := by
  have bE := hid (box2_bel w 28 (.int .i64 p) (.int .i64 q))
  have F := near_facts hr ha hc sa sb sc sd
  have bpos := (okR_out ha).2.2.1
  have dpos := (okR_out hc).2.2.1
  unfold nearI
  obtain ⟨X, kX⟩ : ∃ X, p * b = X := ⟨_, rfl⟩
  obtain ⟨Y, kY⟩ : ∃ X, a * q = X := ⟨_, rfl⟩
  obtain ⟨Z, kZ⟩ : ∃ X, p * d = X := ⟨_, rfl⟩
  obtain ⟨U, kU⟩ : ∃ X, c * q = X := ⟨_, rfl⟩
  have fx := F.bx
  have fy := F.by_
  have fz := F.bz
  have fu := F.bu
  rw [kX] at fx ⊢
  rw [kY] at fy ⊢
  rw [kZ] at fz ⊢
  rw [kU] at fu ⊢
  have sx := size_bd (n := X - Y) (B := 1000000000000) (by omega)
  have sz := size_bd (n := Z - U) (B := 1000000000000) (by omega)
  have t1 : IntKind.i64.wrap X = X := IntWalk.i64_in _ (by omega)
  have t2 : IntKind.i64.wrap Y = Y := IntWalk.i64_in _ (by omega)
  have t3 : IntKind.i64.wrap Z = Z := IntWalk.i64_in _ (by omega)
  have t4 : IntKind.i64.wrap U = U := IntWalk.i64_in _ (by omega)
  have t5 : IntKind.i64.wrap (X - Y) = X - Y := IntWalk.i64_in _ (by omega)
  have t6 : IntKind.i64.wrap (Z - U) = Z - U := IntWalk.i64_in _ (by omega)
  have H1 := hid (fun w => size_any (X - Y) (by omega) w)
  have H2 := hid (fun w => size_any (Z - U) (by omega) w)
  obtain ⟨m, hm⟩ : ∃ m, sizeI (X - Y) = m := ⟨_, rfl⟩
  obtain ⟨n, hn⟩ : ∃ m, sizeI (Z - U) = m := ⟨_, rfl⟩
  rw [hm] at sx H1 ⊢
  rw [hn] at sz H2 ⊢
  have p1 := mul15 sx.1 sx.2 dpos sd
  have p2 := mul15 sz.1 sz.2 bpos sb
  have t7 : IntKind.i64.wrap (m * d) = m * d := IntWalk.i64_in _ (by omega)
  have t8 : IntKind.i64.wrap (n * b) = n * b := IntWalk.i64_in _ (by omega)
  obtain ⟨M, kM⟩ : ∃ X, m * d = X := ⟨_, rfl⟩
  obtain ⟨N, kN⟩ : ∃ X, n * b = X := ⟨_, rfl⟩
  rw [kM] at p1 t7 ⊢
  rw [kN] at p2 t8 ⊢
  clear F hr ha hc hm hn
  rcases Int.lt_trichotomy M N with h | h | h
  all_goals
    first | rw [cmp3_lt h] | rw [cmp3_gt h] | (subst h; rw [cmp3_eq])
    go_enter Try.func20, Try.ntmps20
    go_wp2_with fail
    refine (H1.out _).mono ?_
    rintro e w' ⟨rfl, rfl⟩
    go_wp2_with fail
    refine (H2.out _).mono ?_
    rintro e w' ⟨rfl, rfl⟩
    go_wp2_with fail
    go_ret
    exact ⟨rfl, bE.out⟩
end Go.Proofs.Ytdlcbfoghpoliaa
