/- Ratios: common divisors, ratios without them, which are valid; of the program and of the model. -/
import Derived.Test.YtdlcbfoghpoliaaBase
import Derived.Test.YtdlcbfoghpoliaaGcd
import Derived.Test.YtdlcbfoghpoliaaValid
import Derived.Test.YtdlcbfoghpoliaaOpen
import Derived.RegionTactic
import Derived.Deep.RegionWith
import Derived.Deep.RegionHeld3
import Derived.OrdersHeld
namespace Go.Proofs.Ytdlcbfoghpoliaa
open Go.RowKit

def QuietR (w : World) (v : Value) (e : Ending) (w' : World) : Prop := e = .returned v ∧ ∃ d, w' = w.drewN d
theorem gcd_step (m n : Int) (hm : 0 ≤ m) (hn : 1 ≤ n) : ∃ r, m.tmod n = r ∧ 0 ≤ r ∧ r < n ∧ r ≤ m ∧ gcdI n r = gcdI m n := by
  refine ⟨m % n, Int.tmod_eq_emod_of_nonneg hm, Int.emod_nonneg _ (by omega), Int.emod_lt_of_pos _ (by omega), ?_, gcdI_flip m n hm (by omega)⟩
  have e := Int.mul_ediv_add_emod m n
  have q := Int.ediv_nonneg hm (show 0 ≤ n by omega)
  have := Int.mul_nonneg (show 0 ≤ n by omega) q
  omega
set_option maxHeartbeats 1000000 in
theorem gcd_any (a b : Int) (ha : 0 ≤ a) (hb : 0 ≤ b) (ha' : a ≤ 9223372036854775807) (hb' : b ≤ 9223372036854775807) (w : World) :
    Calls Try.prog 33 #[.int .i64 a, .int .i64 b] w (QuietR w (.int .i64 (gcdI a b))) := by
  go_enter Try.func33, Try.ntmps33
  go_wp2_with fail
  go_loopw [0, 1] (fun x y wr => ∃ m n : Int, x = .int .i64 m ∧ y = .int .i64 n ∧ 0 ≤ m ∧ 0 ≤ n ∧ m ≤ 9223372036854775807 ∧ n ≤ 9223372036854775807 ∧ gcdI m n = gcdI a b ∧ ∃ d, wr = w.drewN d) (fun _ y _ => (intOf y).toNat)
  case atStart => exact ⟨a, b, rfl, rfl, ha, hb, ha', hb', rfl, 0, rfl⟩
  case round =>
    obtain ⟨m, n, rfl, rfl, hm, hn, hm', hn', hg, d, rfl⟩ := hrel
    have HG := hid hg
    clear hg
    by_cases h0 : n = 0
    · subst h0
      have e := gcdI_zero m hm
      have HG2 : m = gcdI a b := e.symm.trans HG.out
      have HH := hid HG2
      clear e HG2
      go_wp2_with fail
      go_ret
      exact ⟨by rw [← HH.out]; rfl, d, rfl⟩
    · obtain ⟨r, e1, r0, r1, r2, hg2⟩ := gcd_step m n hm (by omega)
      have HG2 := hid (hg2.trans HG.out)
      have d1 : (n == 0) = false := by simp [h0]
      have d2 : (n != 0) = true := by simp [h0]
      clear hg2
      go_wp2_with fail
      go_quiet (fail)
      go_wp2_with fail
      go_roundw
      case rel => exact ⟨n, r, rfl, rfl, by omega, r0, hn', by omega, HG2.out, _, World.drewN_drewN _ _ _⟩
      case measure => simp [intOf]; omega
set_option maxHeartbeats 1000000 in
theorem l03Gcd_any (a b : Int) (ha : 0 ≤ a) (hb : 0 ≤ b) (ha' : a ≤ 9223372036854775807) (hb' : b ≤ 9223372036854775807) (w : World) :
    Calls Try.prog 30 #[.int .i64 a, .int .i64 b] w fun e w' => e = .returned (.int .i64 (gcdI a b)) ∧ w = w' := by
  go_enter Try.func30, Try.ntmps30
  go_wp2_with fail
  go_loop [0, 1] (fun x y => ∃ m n : Int, x = .int .i64 m ∧ y = .int .i64 n ∧ 0 ≤ m ∧ 0 ≤ n ∧ m ≤ 9223372036854775807 ∧ n ≤ 9223372036854775807 ∧ gcdI m n = gcdI a b) (fun _ y => (intOf y).toNat)
  case atStart => exact ⟨a, b, rfl, rfl, ha, hb, ha', hb', rfl⟩
  case round =>
    obtain ⟨m, n, rfl, rfl, hm, hn, hm', hn', hg⟩ := hrel
    have HG := hid hg
    clear hg
    by_cases h0 : n = 0
    · subst h0
      have e := gcdI_zero m hm
      have HG2 : m = gcdI a b := e.symm.trans HG.out
      have HH := hid HG2
      clear e HG2
      go_wp2_with fail
      go_ret
      exact ⟨by rw [← HH.out]; rfl, rfl⟩
    · obtain ⟨r, e1, r0, r1, r2, hg2⟩ := gcd_step m n hm (by omega)
      have HG2 := hid (hg2.trans HG.out)
      have d1 : (n == 0) = false := by simp [h0]
      have d2 : (n != 0) = true := by simp [h0]
      clear hg2
      go_wp2_with fail
      go_round
      case rel => exact ⟨n, r, rfl, rfl, by omega, r0, hn', by omega, HG2.out⟩
      case measure => simp [intOf]; omega
/-- a value is returned, and what was there before is as it was -/
def GivesB (w : World) (v : Value) (e : Ending) (w' : World) : Prop := e = .returned v ∧ Below w.heap.size w w'
theorem Row.drewN {w : World} {g : Nat} {e : TypeId} {xs : List Value} (h : Row w g e xs) (d : Nat) : Row (w.drewN d) g e xs := h
/-- a fresh pair of numbers into which two have been stored -/
theorem pair_stored (w : World) (T : TypeId) (a b x y : Value) (d : Nat) : ∀ W, W = ((((w.alloc (.cells #[a, b] T)).drewN d).setCell ⟨w.heap.size, 0, none⟩ x).setCell ⟨w.heap.size, 1, none⟩ y) →
    Row W w.heap.size T [x, y] ∧ Below w.heap.size w W ∧ W.heap.size = w.heap.size + 1 := by
  rintro W rfl
  have bel : Below w.heap.size w (w.alloc (.cells #[a, b] T)) := (Below.refl _ w).alloc (Nat.le_refl _) _
  refine ⟨(((Row.new w T [a, b]).drewN d).set 0 x).set 1 y, ((below_drewN bel d).setCell (p := ⟨w.heap.size, 0, none⟩) (Nat.le_refl _) x).setCell (p := ⟨w.heap.size, 1, none⟩) (Nat.le_refl _) y, by simp⟩
set_option maxHeartbeats 1000000 in
theorem reduced_any (p q : Int) (hp : 1 ≤ p) (hq : 1 ≤ q) (hp' : p ≤ 9223372036854775807) (hq' : q ≤ 9223372036854775807) (w : World) :
    Calls Try.prog 34 #[.int .i64 p, .int .i64 q] w (GivesB w (.agg #[.int .i64 (redP p q), .int .i64 (redQ p q)])) := by
  have HG := hid (fun w => gcd_any p q (by omega) (by omega) hp' hq' w)
  have R := red_bd hp hq
  have e1 : p.tdiv (gcdI p q) = redP p q := Int.tdiv_eq_ediv_of_nonneg (by omega)
  have e2 : q.tdiv (gcdI p q) = redQ p q := Int.tdiv_eq_ediv_of_nonneg (by omega)
  obtain ⟨g, hg⟩ : ∃ g, g = gcdI p q := ⟨_, rfl⟩
  obtain ⟨x, hx⟩ : ∃ x, x = redP p q := ⟨_, rfl⟩
  obtain ⟨y, hy⟩ : ∃ x, x = redQ p q := ⟨_, rfl⟩
  rw [← hg, ← hx, ← hy] at R
  rw [← hg, ← hx] at e1
  rw [← hg, ← hy] at e2
  rw [← hg] at HG
  rw [← hx, ← hy]
  obtain ⟨g1, g2, g3, x1, x2, y1, y2, _, _⟩ := R
  have g0 : (g == 0) = false := by simp; omega
  have w1 : IntKind.i64.wrap x = x := IntWalk.i64_in x (by omega)
  have w2 : IntKind.i64.wrap y = y := IntWalk.i64_in y (by omega)
  have rB := hid (Row.new w 28 [.int .i64 0, .int .i64 0])
  have bel : Below w.heap.size w (w.alloc (.cells #[.int .i64 0, .int .i64 0] 28)) := (Below.refl _ w).alloc (Nat.le_refl _) _
  clear hg hx hy hp hq
  go_enter Try.func34, Try.ntmps34
  go_wp2_with fail
  refine (HG.out _).mono ?_
  rintro e w' ⟨rfl, d, rfl⟩
  go_wp2_with fail
  go_region
  obtain ⟨W, hW⟩ : ∃ W, W = ((((w.alloc (.cells #[.int .i64 0, .int .i64 0] 28)).drewN (d + 1)).setCell ⟨w.heap.size, 0, none⟩ (.int .i64 x)).setCell ⟨w.heap.size, 1, none⟩ (.int .i64 y)) := ⟨_, rfl⟩
  obtain ⟨rw, bw, _⟩ := pair_stored w _ _ _ _ _ _ W hW
  rw [← hW]
  clear hW
  have c0 := rw.cell 0
  have c1 := rw.cell 1
  simp only [List.getElem?_cons_zero, List.getElem?_cons_succ] at c0 c1
  go_wp2_with fail
  exact bodyPost_ret (v := .agg #[.int .i64 x, .int .i64 y]) (by simp [results, Try.results34, go_sem, c0, c1]) rfl ⟨rfl, bw⟩

def I64 (n : Int) : Prop := -9223372036854775808 ≤ n ∧ n ≤ 9223372036854775807
theorem box2_bel (w : World) (T : TypeId) (x y : Value) : Below w.heap.size w (w.alloc (.cells #[x, y] T)) := (Below.refl _ w).alloc (Nat.le_refl _) _
set_option maxHeartbeats 1000000 in
theorem implValidRatio_any (p q : Int) (hp : I64 p) (hq : I64 q) (w : World) :
    Calls Try.prog 22 #[.agg #[.int .i64 p, .int .i64 q]] w (GivesB w (.bool (okR p q))) := by
  have bel := box2_bel w 28 (.int .i64 p) (.int .i64 q)
  obtain ⟨hp1, hp2⟩ := hp
  obtain ⟨hq1, hq2⟩ := hq
  by_cases h1 : p < 1
  · rw [okR_pl h1]
    rcases Int.lt_trichotomy p q with h | rfl | h
    all_goals
      go_enter Try.func22, Try.ntmps22
      go_wp2_with fail
      go_ret
      exact ⟨rfl, bel⟩
  by_cases h2 : q < 1
  · rw [okR_ql h2]
    have h3 : q < p := by omega
    go_enter Try.func22, Try.ntmps22
    go_wp2_with fail
    go_ret
    exact ⟨rfl, bel⟩
  by_cases h3 : 1000000000 < p
  · rw [okR_ph h3]
    rcases Int.lt_trichotomy p q with h | rfl | h
    all_goals
      go_enter Try.func22, Try.ntmps22
      go_wp2_with fail
      go_ret
      exact ⟨rfl, bel⟩
  by_cases h4 : 1000000000 < q
  · rw [okR_qh h4]
    have h5 : p < q := by omega
    go_enter Try.func22, Try.ntmps22
    go_wp2_with fail
    go_ret
    exact ⟨rfl, bel⟩
  rw [okR_mid (by omega) (by omega) (by omega) (by omega)]
  have HG := hid (fun w => gcd_any p q (by omega) (by omega) hp2 hq2 w)
  obtain ⟨g, hg⟩ : ∃ g, g = gcdI p q := ⟨_, rfl⟩
  rw [← hg] at HG
  rw [← hg]
  clear hg
  rcases Int.lt_trichotomy p q with h | rfl | h
  all_goals
    by_cases h6 : g = 1
    · subst h6
      rw [show decide ((1 : Int) = 1) = true from rfl]
      go_enter Try.func22, Try.ntmps22
      go_wp2_with fail
      refine (HG.out _).mono ?_
      rintro e w' ⟨rfl, d, rfl⟩
      go_wp2_with fail
      go_ret
      exact ⟨rfl, below_drewN bel d⟩
    · have d1 : (g == 1) = false := by simp [h6]
      have d2 : decide (g = 1) = false := by simp [h6]
      rw [d2]
      clear h6 d2
      go_enter Try.func22, Try.ntmps22
      go_wp2_with fail
      refine (HG.out _).mono ?_
      rintro e w' ⟨rfl, d, rfl⟩
      go_wp2_with fail
      go_ret
      exact ⟨rfl, below_drewN bel d⟩
set_option maxHeartbeats 1000000 in
theorem l03Ok_any (p q : Int) (hp : I64 p) (hq : I64 q) (w : World) :
    Calls Try.prog 16 #[.agg #[.int .i64 p, .int .i64 q]] w (GivesB w (.bool (okR p q))) := by
  have bel := box2_bel w 28 (.int .i64 p) (.int .i64 q)
  obtain ⟨hp1, hp2⟩ := hp
  obtain ⟨hq1, hq2⟩ := hq
  by_cases h1 : p < 1 ∨ 1000000000 < p
  · have e : okR p q = false := by rcases h1 with h | h; exact okR_pl h; exact okR_ph h
    rw [e]
    have HI := hid (fun w => inr_no p 1 1000000000 w h1)
    clear h1 e
    go_enter Try.func16, Try.ntmps16
    go_wp2_with fail
    refine (HI.out _).mono ?_
    rintro e w' ⟨rfl, rfl⟩
    go_wp2_with fail
    go_ret
    exact ⟨rfl, bel⟩
  have HI := hid (fun w => inr_yes p 1 1000000000 w (by omega))
  by_cases h2 : q < 1 ∨ 1000000000 < q
  · have e : okR p q = false := by rcases h2 with h | h; exact okR_ql h; exact okR_qh h
    rw [e]
    have HJ := hid (fun w => inr_no q 1 1000000000 w h2)
    clear h1 h2 e
    go_enter Try.func16, Try.ntmps16
    go_wp2_with fail
    refine (HI.out _).mono ?_
    rintro e w' ⟨rfl, rfl⟩
    go_wp2_with fail
    refine (HJ.out _).mono ?_
    rintro e w' ⟨rfl, rfl⟩
    go_wp2_with fail
    go_ret
    exact ⟨rfl, bel⟩
  have HJ := hid (fun w => inr_yes q 1 1000000000 w (by omega))
  have HG := hid (fun w => l03Gcd_any p q (by omega) (by omega) hp2 hq2 w)
  rw [okR_mid (by omega) (by omega) (by omega) (by omega)]
  obtain ⟨g, hg⟩ : ∃ g, g = gcdI p q := ⟨_, rfl⟩
  rw [← hg] at HG
  rw [← hg]
  clear hg h1 h2
  by_cases h6 : g = 1
  · subst h6
    rw [show decide ((1 : Int) = 1) = true from rfl]
    go_enter Try.func16, Try.ntmps16
    go_wp2_with fail
    refine (HI.out _).mono ?_
    rintro e w' ⟨rfl, rfl⟩
    go_wp2_with fail
    refine (HJ.out _).mono ?_
    rintro e w' ⟨rfl, rfl⟩
    go_wp2_with fail
    refine (HG.out _).mono ?_
    rintro e w' ⟨rfl, rfl⟩
    go_wp2_with fail
    go_ret
    exact ⟨rfl, bel⟩
  · have d1 : (g == 1) = false := by simp [h6]
    have d2 : decide (g = 1) = false := by simp [h6]
    rw [d2]
    clear h6 d2
    go_enter Try.func16, Try.ntmps16
    go_wp2_with fail
    refine (HI.out _).mono ?_
    rintro e w' ⟨rfl, rfl⟩
    go_wp2_with fail
    refine (HJ.out _).mono ?_
    rintro e w' ⟨rfl, rfl⟩
    go_wp2_with fail
    refine (HG.out _).mono ?_
    rintro e w' ⟨rfl, rfl⟩
    go_wp2_with fail
    go_ret
    exact ⟨rfl, bel⟩
end Go.Proofs.Ytdlcbfoghpoliaa
