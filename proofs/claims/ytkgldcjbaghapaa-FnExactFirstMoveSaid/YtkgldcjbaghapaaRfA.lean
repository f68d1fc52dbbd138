/- RightFrom: plain mathematics, the joints, the model's division. -/
import Derived.Test.YtkgldcjbaghapaaEyA
namespace Go.Proofs.Ytkgldcjbaghapaa
open Go.RowKit
/-- what a joint does to the next wheel -/
def beyJ (k f q b : Int) : Int := if k = 1 then (if q < (b - 1) * 1000 + f then 0 else (q - ((b - 1) * 1000 + f)) * 1000 / (1000 - f)) else q / b
theorem beyJ_even {f q b : Int} : beyJ 0 f q b = q / b := by simp [beyJ]
theorem beyJ_rest {f q b : Int} (h : q < (b - 1) * 1000 + f) : beyJ 1 f q b = 0 := by simp [beyJ, h]
theorem beyJ_late {f q b : Int} (h : ¬ q < (b - 1) * 1000 + f) : beyJ 1 f q b = (q - ((b - 1) * 1000 + f)) * 1000 / (1000 - f) := by
  simp only [beyJ, if_true]; rw [if_neg h]
theorem late_bd {f q b : Int} (hf : 0 ≤ f ∧ f < 1000) (hq : q < b * 1000) (h : ¬ q < (b - 1) * 1000 + f) : 0 ≤ (q - ((b - 1) * 1000 + f)) * 1000 / (1000 - f) ∧ (q - ((b - 1) * 1000 + f)) * 1000 / (1000 - f) < 1000 := by
  have h1 : 0 ≤ (q - ((b - 1) * 1000 + f)) * 1000 := by omega
  have h2 : 0 < 1000 - f := by omega
  refine ⟨Int.ediv_nonneg h1 (by omega), ?_⟩
  rw [Int.ediv_lt_iff_lt_mul h2]
  omega
theorem beyJ_bd {k f q b : Int} (hj : okJ k f = true) (hb : 2 ≤ b ∧ b ≤ 100) (hq : 0 ≤ q ∧ q < b * 1000) : 0 ≤ beyJ k f q b ∧ beyJ k f q b < 1000 := by
  rcases okJ_out hj with ⟨rfl, rfl⟩ | ⟨rfl, h0, h1⟩
  · rw [beyJ_even]
    refine ⟨Int.ediv_nonneg hq.1 (by omega), ?_⟩
    rw [Int.ediv_lt_iff_lt_mul (by omega)]
    have : 1000 * b = b * 1000 := Int.mul_comm _ _
    omega
  · by_cases h : q < (b - 1) * 1000 + f
    · rw [beyJ_rest h]; omega
    · rw [beyJ_late h]; exact late_bd ⟨h0, h1⟩ hq.2 h

/-- the digit that is nearest to what is left of the parts -/
def rdn (z b p : Int) : Int := (p - b + 500) / 1000 % z
def rq (zs : List Int) (js : List (Int × Int)) (ds : List Int) : Nat → Int
  | 0 => ds[0]?.getD 0
  | k + 1 => rdn (zs[k + 1]?.getD 0) (beyJ (jk js k) (jf js k) (rq zs js ds k) (zs[k]?.getD 0)) (ds[k + 1]?.getD 0) * 1000 + beyJ (jk js k) (jf js k) (rq zs js ds k) (zs[k]?.getD 0)
def rgd (zs : List Int) (js : List (Int × Int)) (ds : List Int) : Nat → Int
  | 0 => ds[0]?.getD 0 / 1000
  | k + 1 => rdn (zs[k + 1]?.getD 0) (beyJ (jk js k) (jf js k) (rq zs js ds k) (zs[k]?.getD 0)) (ds[k + 1]?.getD 0)
theorem rdn_bd (z b p : Int) (hz : 2 ≤ z ∧ z ≤ 100) : 0 ≤ rdn z b p ∧ rdn z b p < z := ⟨Int.emod_nonneg _ (by omega), Int.emod_lt_of_pos _ (by omega)⟩
theorem rq_bd {zs : List Int} {js : List (Int × Int)} {ds : List Int} (hin : inB zs zs.length) (hj : ∀ j, j < js.length → okJ (jk js j) (jf js j) = true) (hl : js.length + 1 = zs.length) (h8 : zs.length ≤ 8) (hp : okPs zs ds = true) : ∀ k, k < zs.length → 0 ≤ rq zs js ds k ∧ rq zs js ds k < zs[k]?.getD 0 * 1000
  | 0, h => by
    have := okPs_out hp 0 (by omega)
    rw [endP_low h] at this
    exact this
  | k + 1, h => by
    have ih := rq_bd hin hj hl h8 hp k (by omega)
    have b := beyJ_bd (hj k (by omega)) (hin k (by omega)) ih
    have d := rdn_bd (zs[k + 1]?.getD 0) (beyJ (jk js k) (jf js k) (rq zs js ds k) (zs[k]?.getD 0)) (ds[k + 1]?.getD 0) (hin (k + 1) h)
    simp only [rq]
    omega
def rfV (zs : List Int) (js : List (Int × Int)) (ds : List Int) (k : Nat) : List Value := (List.range 8).map fun j => .int .u8 (if j < k then rgd zs js ds j else 0)
def rpV (zs : List Int) (js : List (Int × Int)) (ds : List Int) (k : Nat) : List Value := (List.range 8).map fun j => .int .i64 (if j < k then rq zs js ds j else ds[j]?.getD 0)
theorem rfV_len (zs : List Int) (js : List (Int × Int)) (ds : List Int) (k : Nat) : (rfV zs js ds k).length = 8 := by simp [rfV]
theorem rpV_len (zs : List Int) (js : List (Int × Int)) (ds : List Int) (k : Nat) : (rpV zs js ds k).length = 8 := by simp [rpV]
theorem rfV_one (zs : List Int) (js : List (Int × Int)) (d0 d1 d2 d3 d4 d5 d6 d7 : Int) : rfV zs js [d0, d1, d2, d3, d4, d5, d6, d7] 1 = [.int .u8 (d0 / 1000), .int .u8 0, .int .u8 0, .int .u8 0, .int .u8 0, .int .u8 0, .int .u8 0, .int .u8 0] := by simp [rfV, List.range_succ, rgd]
theorem rpV_one (zs : List Int) (js : List (Int × Int)) (d0 d1 d2 d3 d4 d5 d6 d7 : Int) : rpV zs js [d0, d1, d2, d3, d4, d5, d6, d7] 1 = [.int .i64 d0, .int .i64 d1, .int .i64 d2, .int .i64 d3, .int .i64 d4, .int .i64 d5, .int .i64 d6, .int .i64 d7] := by simp [rpV, List.range_succ, rq]
theorem rfV_at (zs : List Int) (js : List (Int × Int)) (ds : List Int) (k : Nat) (hk : k < 8) : (rfV zs js ds k)[k]? = some (.int .u8 0) := by simp [rfV, hk]
theorem rpV_at (zs : List Int) (js : List (Int × Int)) (ds : List Int) (k : Nat) (hk : k < 8) : (rpV zs js ds (k + 1))[k]? = some (.int .i64 (rq zs js ds k)) := by simp [rpV, hk]
theorem rpV_next (zs : List Int) (js : List (Int × Int)) (ds : List Int) (k : Nat) (hk : k < 8) : (rpV zs js ds k)[k]? = some (.int .i64 (ds[k]?.getD 0)) := by simp [rpV, hk]
theorem rfV_set (zs : List Int) (js : List (Int × Int)) (ds : List Int) (k : Nat) (hk : k < 8) : (rfV zs js ds k).set k (.int .u8 (rgd zs js ds k)) = rfV zs js ds (k + 1) := by
  apply List.ext_getElem?
  intro j
  simp only [rfV, List.getElem?_set, List.getElem?_map, List.length_map, List.length_range]
  by_cases hj : k = j
  · subst hj
    simp [hk]
  · rw [if_neg hj]
    by_cases h8 : j < 8
    · simp only [List.getElem?_range h8, Option.map_some]
      by_cases h : j < k
      · rw [if_pos h, if_pos (by omega)]
      · rw [if_neg h, if_neg (by omega)]
    · simp [List.getElem?_eq_none (show (List.range 8).length ≤ j by simp; omega)]
theorem rpV_set (zs : List Int) (js : List (Int × Int)) (ds : List Int) (k : Nat) (hk : k < 8) : (rpV zs js ds k).set k (.int .i64 (rq zs js ds k)) = rpV zs js ds (k + 1) := by
  apply List.ext_getElem?
  intro j
  simp only [rpV, List.getElem?_set, List.getElem?_map, List.length_map, List.length_range]
  by_cases hj : k = j
  · subst hj
    simp [hk]
  · rw [if_neg hj]
    by_cases h8 : j < 8
    · simp only [List.getElem?_range h8, Option.map_some]
      by_cases h : j < k
      · rw [if_pos h, if_pos (by omega)]
      · rw [if_neg h, if_neg (by omega)]
    · simp [List.getElem?_eq_none (show (List.range 8).length ≤ j by simp; omega)]
theorem ints_rf (zs : List Int) (js : List (Int × Int)) (ds : List Int) (k : Nat) : ∀ v ∈ rfV zs js ds k, ∃ x : Int, v = .int .u8 x := by
  intro v hv
  simp only [rfV, List.mem_map] at hv
  obtain ⟨j, _, rfl⟩ := hv
  exact ⟨_, rfl⟩
def rfR (zs : List Int) (js : List (Int × Int)) (ds : List Int) : List Value × Int :=
  if hasR zs js ds then (rfV zs js ds zs.length, 0) else ([.int .u8 0, .int .u8 0, .int .u8 0, .int .u8 0, .int .u8 0, .int .u8 0, .int .u8 0, .int .u8 0], 1)
theorem rfR_no {zs : List Int} {js : List (Int × Int)} {ds : List Int} (h : hasR zs js ds = false) : rfR zs js ds = ([.int .u8 0, .int .u8 0, .int .u8 0, .int .u8 0, .int .u8 0, .int .u8 0, .int .u8 0, .int .u8 0], 1) := by simp [rfR, h]
theorem rfR_yes {zs : List Int} {js : List (Int × Int)} {ds : List Int} (h : hasR zs js ds = true) : rfR zs js ds = (rfV zs js ds zs.length, 0) := by simp [rfR, h]
theorem rfR_oct (zs : List Int) (js : List (Int × Int)) (d0 d1 d2 d3 d4 d5 d6 d7 : Int) : ∃ e0 e1 e2 e3 e4 e5 e6 e7 : Int, (rfR zs js [d0, d1, d2, d3, d4, d5, d6, d7]).1 = [.int .u8 e0, .int .u8 e1, .int .u8 e2, .int .u8 e3, .int .u8 e4, .int .u8 e5, .int .u8 e6, .int .u8 e7] := by
  unfold rfR
  split
  · exact oct_of8 _ (rfV_len _ _ _ _) (ints_rf _ _ _ _)
  · exact oct_of8 _ rfl zeros_int8
theorem near_two (x : Int) : (2 * x + 1000) / 2000 = (x + 500) / 1000 := by omega
theorem rem_twice (x b : Int) (hb : 0 < b) : (x.tmod b + b).tmod b = x % b := by
  have hb0 : b ≠ 0 := by omega
  by_cases h : 0 ≤ x
  · rw [Int.tmod_eq_emod_of_nonneg h]
    have h0 := Int.emod_nonneg x hb0
    rw [Int.tmod_eq_emod_of_nonneg (by omega), Int.add_emod_right, Int.emod_emod]
  · obtain ⟨m, rfl⟩ : ∃ m, x = -m := ⟨-x, by omega⟩
    have hm : 0 ≤ m := by omega
    have h0 := Int.emod_nonneg m hb0
    have h1 := Int.emod_lt_of_pos m hb
    rw [Int.neg_tmod, Int.tmod_eq_emod_of_nonneg hm, Int.tmod_eq_emod_of_nonneg (by omega), Int.add_emod_right]
    have e := Int.emod_add_mul_ediv m b
    have e2 : -m = -(m % b) + b * (-(m / b)) := by rw [Int.mul_neg]; omega
    conv => rhs; rw [e2]
    rw [Int.add_mul_emod_self_left]
theorem rem_small (x b : Int) (hb : 0 < b) : -b < x.tmod b ∧ x.tmod b < b := by
  by_cases h : 0 ≤ x
  · rw [Int.tmod_eq_emod_of_nonneg h]
    have := Int.emod_nonneg x (show b ≠ 0 by omega)
    have := Int.emod_lt_of_pos x hb
    omega
  · obtain ⟨m, rfl⟩ : ∃ m, x = -m := ⟨-x, by omega⟩
    rw [Int.neg_tmod, Int.tmod_eq_emod_of_nonneg (by omega)]
    have := Int.emod_nonneg m (show b ≠ 0 by omega)
    have := Int.emod_lt_of_pos m hb
    omega
theorem carry_late (f : Int) (w : World) (hf : 0 ≤ f ∧ f < 1000) : Calls Try.prog 37 #[.agg #[.int .i8 1, .int .i16 f]] w fun e w' => e = .returned (.iface 90 (.agg #[.int .i64 f])) ∧ Below w.heap.size w w' := by
  obtain ⟨h1, h2⟩ := hf
  have wf : IntKind.i64.wrap f = f := IntWalk.i64_in f (by omega)
  go_enter Try.func37, Try.ntmps37
  go_wp2_with fail
  go_ret
  exact ⟨rfl, (Below.refl _ _).alloc (Nat.le_refl _) _⟩
theorem carry_even (f : Int) (w : World) : Calls Try.prog 37 #[.agg #[.int .i8 0, .int .i16 f]] w fun e w' => e = .returned (.iface 92 (.agg #[])) ∧ Below w.heap.size w w' := by
  go_enter Try.func37, Try.ntmps37
  go_wp2_with fail
  go_ret
  exact ⟨rfl, (Below.refl _ _).alloc (Nat.le_refl _) _⟩
theorem beyond_even (q b : Int) (w : World) (hq : 0 ≤ q ∧ q ≤ 100000) (hb : 2 ≤ b ∧ b ≤ 100) : Calls Try.prog 80 #[.agg #[], .int .i64 q, .int .i64 b] w fun e w' => e = .returned (.int .i64 (q / b)) ∧ Below w.heap.size w w' := by
  have hb0 : b ≠ 0 := by omega
  have e1 : q.tdiv b = q / b := Int.tdiv_eq_ediv_of_nonneg hq.1
  have q0 := Int.ediv_nonneg hq.1 (show 0 ≤ b by omega)
  have q1 := Int.ediv_le_self b hq.1
  obtain ⟨x, hx⟩ : ∃ x, x = q / b := ⟨_, rfl⟩
  rw [← hx] at e1 q0 q1
  rw [← hx]
  clear hx
  obtain ⟨h1, h2⟩ := hq
  have wx : IntKind.i64.wrap x = x := IntWalk.i64_in x (by omega)
  go_enter Try.func80, Try.ntmps80
  go_wp2_with fail
  go_ret
  exact ⟨rfl, (Below.refl _ _).alloc (Nat.le_refl _) _⟩
theorem beyond_late (f q b : Int) (w : World) (hf : 0 ≤ f ∧ f < 1000) (hq : 0 ≤ q ∧ q < b * 1000) (hb : 2 ≤ b ∧ b ≤ 100) : Calls Try.prog 79 #[.agg #[.int .i64 f], .int .i64 q, .int .i64 b] w fun e w' => e = .returned (.int .i64 (beyJ 1 f q b)) ∧ Below w.heap.size w w' := by
  have bel := (Below.refl w.heap.size w).alloc (Nat.le_refl _) (.cells #[.int .i64 f] 90)
  by_cases h : q ≤ (b - 1) * 1000 + f
  · have h0 : beyJ 1 f q b = 0 := by
      by_cases h1 : q < (b - 1) * 1000 + f
      · exact beyJ_rest h1
      · rw [beyJ_late h1, show q - ((b - 1) * 1000 + f) = 0 by omega]; simp
    rw [h0]
    have n1 : 1000 - f ≠ 0 := by omega
    have hx : q - ((b - 1) * 1000 + f) ≤ 0 := by omega
    clear h0
    go_enter Try.func79, Try.ntmps79
    go_wp2_with fail
    go_ret
    exact ⟨rfl, bel⟩
  · have h1 : ¬ q < (b - 1) * 1000 + f := by omega
    rw [beyJ_late h1]
    have lb := late_bd hf hq.2 h1
    have hx : 0 < q - ((b - 1) * 1000 + f) := by omega
    have hx2 : q - ((b - 1) * 1000 + f) < 1000 := by omega
    have n1 : 1000 - f ≠ 0 := by omega
    have h2 : (b - 1) * 1000 + f < q := by omega
    clear h h1
    go_enter Try.func79, Try.ntmps79
    go_wp2_with fail
    go_ret
    exact ⟨rfl, bel⟩
set_option maxHeartbeats 1000000 in
theorem l02Beyond_any (B b n cap g m cap' : Nat) (zs : List Int) (js : List (Int × Int)) (k : Nat) (q : Int) (w : World) (hM : MoAt w B b n cap g m cap' zs js) (hn : n = zs.length) (hm : m = js.length) (hk : k < js.length) (hkz : k < zs.length) (hz : 2 ≤ zs[k]?.getD 0 ∧ zs[k]?.getD 0 ≤ 100) (hj : okJ (jk js k) (jf js k) = true) (hq : 0 ≤ q ∧ q < zs[k]?.getD 0 * 1000) :
    Calls Try.prog 34 #[.pointer (some ⟨B, 0, none⟩), .int .i64 ((k : Int) + 1), .int .i64 q] w fun e w' => e = .returned (.int .i64 (beyJ (jk js k) (jf js k) q (zs[k]?.getD 0))) ∧ Below w.heap.size w w' := by
  have bd := beyJ_bd hj hz hq
  have hBl := hM.1.lt
  have hbl := hM.2.1.1
  have hln := hM.2.1.2.2.2
  have hlm := hM.2.2.2.2
  rw [← hn] at hln
  rw [← hm] at hlm
  have cs := hM.2.1.2.1 k hkz
  have g0 := (hM.2.2.2.1 k hk).1
  have g1 := (hM.2.2.2.1 k hk).2
  have c0 := hM.cells.1
  have c1 := hM.cells.2
  have kn : (k : Int) < (n : Int) := by omega
  have km : (k : Int) < (m : Int) := by omega
  have e1 : (k : Int) + 1 - 1 = (k : Int) := by omega
  have k0 : (0 : Int) ≤ (k : Int) := by omega
  obtain ⟨z, hzz⟩ : ∃ z, z = zs[k]?.getD 0 := ⟨_, rfl⟩
  obtain ⟨kk, hkk⟩ : ∃ x, x = jk js k := ⟨_, rfl⟩
  obtain ⟨f, hff⟩ : ∃ x, x = jf js k := ⟨_, rfl⟩
  rw [← hzz] at cs hz hq bd
  rw [← hkk] at g0 hj bd
  rw [← hff] at g1 hj bd
  rw [← hzz, ← hkk, ← hff]
  have wz : IntKind.i64.wrap z = z := IntWalk.i64_in z (by omega)
  have bA : Below w.heap.size w (w.alloc (.cells #[.int .i8 kk, .int .i16 f] 74)) := (Below.refl _ w).alloc (Nat.le_refl _) _
  clear hM hn hm hk hkz hzz hkk hff
  have hz0 : z ≠ 0 := by omega
  rcases okJ_out hj with ⟨rfl, rfl⟩ | ⟨rfl, f0, f1⟩
  · rw [beyJ_even] at bd ⊢
    have e2 : q.tdiv z = q / z := Int.tdiv_eq_ediv_of_nonneg hq.1
    obtain ⟨x, hx⟩ : ∃ x, x = q / z := ⟨_, rfl⟩
    rw [← hx] at e2 bd
    rw [← hx]
    have wx : IntKind.i64.wrap x = x := IntWalk.i64_in x (by omega)
    clear hx hj
    go_enter Try.func34, Try.ntmps34
    go_wp2_with fail
    go_ret
    exact ⟨rfl, bA⟩
  · have wf : IntKind.i64.wrap f = f := IntWalk.i64_in f (by omega)
    by_cases h : q < (z - 1) * 1000 + f
    · rw [beyJ_rest h]
      clear hj bd
      go_enter Try.func34, Try.ntmps34
      go_wp2_with fail
      go_ret
      exact ⟨rfl, bA⟩
    · rw [beyJ_late h] at bd ⊢
      have hx : 0 ≤ q - ((z - 1) * 1000 + f) := by omega
      have hx2 : q - ((z - 1) * 1000 + f) < 1000 := by omega
      have n1 : 1000 - f ≠ 0 := by omega
      have hge : (z - 1) * 1000 + f ≤ q := by omega
      clear hj h
      go_enter Try.func34, Try.ntmps34
      go_wp2_with fail
      go_ret
      exact ⟨rfl, bA⟩

theorem l02Down_any (a c : Int) (ha : -1000000000000000000 ≤ a ∧ a ≤ 1000000000000000000) (hc : 1 ≤ c ∧ c ≤ 10000000000000000) (w : World) :
    Calls Try.prog 35 #[.int .i64 a, .int .i64 c] w fun e w' => e = .returned (.int .i64 (a / c)) ∧ w = w' := by
  have hc0 : c ≠ 0 := by omega
  by_cases h0 : 0 ≤ a
  · have e1 : a.tmod c = a % c := Int.tmod_eq_emod_of_nonneg h0
    have e2 : a.tdiv c = a / c := Int.tdiv_eq_ediv_of_nonneg h0
    have m0 := Int.emod_nonneg a hc0
    have m1 := Int.emod_lt_of_pos a (show 0 < c by omega)
    have q0 := Int.ediv_nonneg h0 (show 0 ≤ c by omega)
    have q1 := Int.ediv_le_self c h0
    obtain ⟨r, hr⟩ : ∃ r, r = a % c := ⟨_, rfl⟩
    obtain ⟨q, hq⟩ : ∃ q, q = a / c := ⟨_, rfl⟩
    rw [← hr] at e1 m0 m1
    rw [← hq] at e2 q0 q1
    rw [← hq]
    have d1 : decide (r < 0) = false := by simp; omega
    replace e1 := e1
    clear hr hq h0
    go_enter Try.func35, Try.ntmps35
    go_wp2_with fail
    go_ret
    exact ⟨rfl, rfl⟩
  · obtain ⟨m, rfl⟩ : ∃ m, a = -m := ⟨-a, by omega⟩
    have hm : 0 ≤ m := by omega
    have e1 : (-m).tmod c = -(m % c) := by rw [Int.neg_tmod, Int.tmod_eq_emod_of_nonneg hm]
    have e2 : (-m).tdiv c = -(m / c) := by rw [Int.neg_tdiv, Int.tdiv_eq_ediv_of_nonneg hm]
    have e3 := ediv_neg_of m c hc.1
    have m0 := Int.emod_nonneg m hc0
    have m1 := Int.emod_lt_of_pos m (show 0 < c by omega)
    have q0 := Int.ediv_nonneg hm (show 0 ≤ c by omega)
    have q1 := Int.ediv_le_self c hm
    obtain ⟨r, hr⟩ : ∃ r, r = m % c := ⟨_, rfl⟩
    obtain ⟨q, hq⟩ : ∃ q, q = m / c := ⟨_, rfl⟩
    rw [← hr] at e1 e3 m0 m1
    rw [← hq] at e2 e3 q0 q1
    obtain ⟨a, hA⟩ : ∃ a, a = -m := ⟨_, rfl⟩
    rw [← hA] at e1 e2 e3 ha
    rw [← hA, e3]
    by_cases hz : r = 0
    · subst hz
      simp only [if_true]
      simp only [Int.neg_zero] at e1
      have d1 : decide ((0 : Int) < 0) = false := rfl
      have q2 : -1000000000000000000 ≤ -q ∧ -q ≤ 0 := by omega
      clear e3 hr hq hA h0 q0 q1
      generalize -q = q' at e2 q2 ⊢
      go_enter Try.func35, Try.ntmps35
      go_wp2_with fail
      go_ret
      exact ⟨rfl, rfl⟩
    · rw [if_neg hz]
      have d0 : -10000000000000000 ≤ -r ∧ -r < 0 := by omega
      have q2 : -1000000000000000000 ≤ -q ∧ -q ≤ 0 := by omega
      clear e3 hr hq hA h0 hz q0 q1 m0 m1
      generalize -q = q' at e2 q2 ⊢
      generalize -r = r' at e1 d0
      have d1 : decide (r' < 0) = true := by simp; omega
      go_enter Try.func35, Try.ntmps35
      go_wp2_with fail
      go_ret
      exact ⟨rfl, rfl⟩


end Go.Proofs.Ytkgldcjbaghapaa
