/- Possible counts, the program's: the least and the greatest one; which readings and flows are valid. -/
import Derived.Test.YtofpgkbcodopiaaFlowA
import Derived.OrdersHeld
namespace Go.Proofs.Ytofpgkbcodopiaa
open Go.RowKit
theorem bel_step {W w w' : World} (h : Below W.heap.size W w) (hB : Below w.heap.size w w') : Below W.heap.size W w' := h.trans (hB.mono h.size)
def tup2 (x y : Int) : Value := .tuple #[.int .i64 x, .int .i64 y]
/-- an interval's box and a flow's -/
theorem ivfl_boxes (w : World) (T T' : TypeId) (a b c d x y : Value) : ∀ W, W = ((w.alloc (.cells #[a, b, c, d] T)).alloc (.cells #[x, y] T')) →
    Row W w.heap.size T [a, b, c, d] ∧ Row W (w.heap.size + 1) T' [x, y] ∧ Below w.heap.size w W ∧ W.heap.size = w.heap.size + 1 + 1 := by
  rintro W rfl
  have h := Row.new (w.alloc (.cells #[a, b, c, d] T)) T' [x, y]
  simp only [World.size_alloc] at h
  exact ⟨(Row.new w T [a, b, c, d]).alloc _, h, (box4_bel w T a b c d).alloc (by simp) _, by simp⟩
theorem mul_small (x d : Int) (hx : 0 ≤ x ∧ x ≤ 1000000) (hd : 0 ≤ d ∧ d ≤ 100000) : 0 ≤ x * d ∧ x * d ≤ 100000000000 := by
  have := Int.mul_nonneg hx.1 hd.1
  have h1 := Int.mul_le_mul_of_nonneg_right hx.2 hd.1
  have h2 := Int.mul_le_mul_of_nonneg_left hd.2 (show (0 : Int) ≤ 1000000 by omega)
  omega
set_option maxHeartbeats 2000000 in
theorem counts_any (bS n cap : Nat) (zs : List Int) (hn : n = zs.length) (hv : okL zs = true) (a u b v lo hi : Int) (h : -1000000000000 ≤ v - u ∧ v - u ≤ 1000000000000) (hd : 0 ≤ b - a ∧ b - a ≤ 100000) (hl : 0 ≤ lo ∧ lo ≤ 1000000) (hh : 0 ≤ hi ∧ hi ≤ 1000000) (w : World) (hS : Stk w bS zs) :
    Calls Try.prog 52 #[.slice (some ⟨bS, 0, none⟩) n cap, .agg #[.int .i64 a, .int .i64 u, .int .i64 b, .int .i64 v], .agg #[.int .i64 lo, .int .i64 hi]] w (GivesB w (tup2 (lstI (szL zs) (v - u) (lo * (b - a))) (gstI (szL zs) (v - u) (hi * (b - a))))) := by
  obtain ⟨W, hW⟩ : ∃ W, W = ((w.alloc (.cells #[.int .i64 a, .int .i64 u, .int .i64 b, .int .i64 v] 56)).alloc (.cells #[.int .i64 lo, .int .i64 hi] 27)) := ⟨_, rfl⟩
  obtain ⟨q0, q1, bW, sW⟩ := ivfl_boxes w _ _ _ _ _ _ _ _ W hW
  have HD := hid (fun w => days_any a u b v (by omega) w)
  have l0 := q0.lt
  have l1 := q1.lt
  have c0 := q0.cell 0
  have c1 := q0.cell 1
  have c2 := q0.cell 2
  have c3 := q0.cell 3
  have c4 := q1.cell 0
  have c5 := q1.cell 1
  simp only [List.getElem?_cons_zero, List.getElem?_cons_succ] at c0 c1 c2 c3 c4 c5
  have HS := hid (hS.below bW hS.1)
  have bE := hid bW
  have hW2 := hid hW
  obtain ⟨m1, m2⟩ := mul_small lo (b - a) hl hd
  obtain ⟨m3, m4⟩ := mul_small hi (b - a) hh hd
  have HL := hid (fun w hS => leastFrom_any bS n cap zs hn hv a u b v (lo * (b - a)) h (by omega) w hS)
  have HG := hid (fun w hS => greatestTo_any bS n cap zs hn hv a u b v (hi * (b - a)) h (by omega) w hS)
  obtain ⟨d, hd'⟩ : ∃ d, b - a = d := ⟨_, rfl⟩
  rw [hd'] at HD HL HG m1 m2 m3 m4 ⊢
  obtain ⟨x, hx⟩ : ∃ x, lo * d = x := ⟨_, rfl⟩
  rw [hx] at HL m1 m2 ⊢
  obtain ⟨y, hy⟩ : ∃ y, hi * d = y := ⟨_, rfl⟩
  rw [hy] at HG m3 m4 ⊢
  obtain ⟨r, hr⟩ : ∃ r, lstI (szL zs) (v - u) x = r := ⟨_, rfl⟩
  obtain ⟨t, ht⟩ : ∃ t, gstI (szL zs) (v - u) y = t := ⟨_, rfl⟩
  rw [hr] at HL ⊢
  rw [ht] at HG ⊢
  have t1 : IntKind.i64.wrap x = x := IntWalk.i64_in _ (by omega)
  have t2 : IntKind.i64.wrap y = y := IntWalk.i64_in _ (by omega)
  have hb0 := Below.refl W.heap.size W
  have hk := hid hS.1
  have hbs := HS.out.1
  clear hr ht hd' hv hn hS q0 q1 bW hW m1 m2 m3 m4 hl hh hd h
  go_enter Try.func52, Try.ntmps52
  go_wp2_with fail
  rw [← hW2.out]
  have SOF := hid (fun (v : World) (h : Below W.heap.size W v) => (And.intro ((h.cell (p := ⟨w.heap.size, 0, none⟩) l0).trans c0) (And.intro ((h.cell (p := ⟨w.heap.size, 1, none⟩) l0).trans c1) (And.intro ((h.cell (p := ⟨w.heap.size, 2, none⟩) l0).trans c2) (And.intro ((h.cell (p := ⟨w.heap.size, 3, none⟩) l0).trans c3) (And.intro ((h.cell (p := ⟨w.heap.size + 1, 0, none⟩) l1).trans c4) ((h.cell (p := ⟨w.heap.size + 1, 1, none⟩) l1).trans c5)))))))
  go_region_held3 (fun w' => w'.cell? ⟨w.heap.size, 0, none⟩ = some (.int .i64 a) ∧ w'.cell? ⟨w.heap.size, 1, none⟩ = some (.int .i64 u) ∧ w'.cell? ⟨w.heap.size, 2, none⟩ = some (.int .i64 b) ∧ w'.cell? ⟨w.heap.size, 3, none⟩ = some (.int .i64 v) ∧ w'.cell? ⟨w.heap.size + 1, 0, none⟩ = some (.int .i64 lo) ∧ w'.cell? ⟨w.heap.size + 1, 1, none⟩ = some (.int .i64 hi)) (exact SOF.out _ (by (repeat (first | assumption | refine Below.drew ?_ | refine Below.setCell ?_ (by first | omega | (simp; done) | (simp; omega)) _ | refine Below.alloc ?_ (by first | omega | (simp; done) | (simp; omega)) _))))
    ((first | (go_at_call 22; have _t := hb3; (with_reducible refine (HG.out _ (HS.out.below (n := W.heap.size) (by (repeat (first | assumption | refine Below.drew ?_ | refine Below.setCell ?_ (by first | omega | (simp; done) | (simp; omega)) _ | refine Below.alloc ?_ (by first | omega | (simp; done) | (simp; omega)) _))) hbs)).mono ?_); rintro e v4 ⟨rfl, hB4⟩; have hb4 : Below W.heap.size W v4 := bel_step (by (repeat (first | assumption | refine Below.drew ?_ | refine Below.setCell ?_ (by first | omega | (simp; done) | (simp; omega)) _ | refine Below.alloc ?_ (by first | omega | (simp; done) | (simp; omega)) _))) hB4; have hz4 := hb4.size; have hy4 := hB4.size; (try simp only [World.size_drew, World.size_alloc] at hy4); (first | skip)) | (go_at_call 21; have _t := hb2; (with_reducible refine (HD.out _).mono ?_); rintro e v3 ⟨rfl, hB3⟩; have hb3 : Below W.heap.size W v3 := bel_step (by (repeat (first | assumption | refine Below.drew ?_ | refine Below.setCell ?_ (by first | omega | (simp; done) | (simp; omega)) _ | refine Below.alloc ?_ (by first | omega | (simp; done) | (simp; omega)) _))) hB3; have hz3 := hb3.size; have hy3 := hB3.size; (try simp only [World.size_drew, World.size_alloc] at hy3); (first | skip)) | (go_at_call 20; have _t := hb1; (with_reducible refine (HL.out _ (HS.out.below (n := W.heap.size) (by (repeat (first | assumption | refine Below.drew ?_ | refine Below.setCell ?_ (by first | omega | (simp; done) | (simp; omega)) _ | refine Below.alloc ?_ (by first | omega | (simp; done) | (simp; omega)) _))) hbs)).mono ?_); rintro e v2 ⟨rfl, hB2⟩; have hb2 : Below W.heap.size W v2 := bel_step (by (repeat (first | assumption | refine Below.drew ?_ | refine Below.setCell ?_ (by first | omega | (simp; done) | (simp; omega)) _ | refine Below.alloc ?_ (by first | omega | (simp; done) | (simp; omega)) _))) hB2; have hz2 := hb2.size; have hy2 := hB2.size; (try simp only [World.size_drew, World.size_alloc] at hy2); (first | skip)) | (go_at_call 21; have _t := hb0; (with_reducible refine (HD.out _).mono ?_); rintro e v1 ⟨rfl, hB1⟩; have hb1 : Below W.heap.size W v1 := bel_step (by (repeat (first | assumption | refine Below.drew ?_ | refine Below.setCell ?_ (by first | omega | (simp; done) | (simp; omega)) _ | refine Below.alloc ?_ (by first | omega | (simp; done) | (simp; omega)) _))) hB1; have hz1 := hb1.size; have hy1 := hB1.size; (try simp only [World.size_drew, World.size_alloc] at hy1); (first | skip))))
  go_wp2_with fail
  go_ret2
  exact ⟨rfl, bE.out.trans (hb4.mono (by omega))⟩
set_option maxHeartbeats 1000000 in
theorem possible_any (bS n cap : Nat) (zs : List Int) (hn : n = zs.length) (hv : okL zs = true) (a u b v lo hi : Int) (h : -1000000000000 ≤ v - u ∧ v - u ≤ 1000000000000) (hd : 0 ≤ b - a ∧ b - a ≤ 100000) (hl : 0 ≤ lo ∧ lo ≤ 1000000) (hh : 0 ≤ hi ∧ hi ≤ 1000000) (w : World) (hS : Stk w bS zs) :
    Calls Try.prog 33 #[.slice (some ⟨bS, 0, none⟩) n cap, .agg #[.int .i64 a, .int .i64 u, .int .i64 b, .int .i64 v], .agg #[.int .i64 lo, .int .i64 hi]] w (GivesB w (.bool (posI (szL zs) (v - u) (lo * (b - a)) (hi * (b - a))))) := by
  obtain ⟨W, hW⟩ : ∃ W, W = ((w.alloc (.cells #[.int .i64 a, .int .i64 u, .int .i64 b, .int .i64 v] 56)).alloc (.cells #[.int .i64 lo, .int .i64 hi] 27)) := ⟨_, rfl⟩
  obtain ⟨q0, q1, bW, sW⟩ := ivfl_boxes w _ _ _ _ _ _ _ _ W hW
  have HC := hid (fun w hS => counts_any bS n cap zs hn hv a u b v lo hi h hd hl hh w hS)
  have HS := hid (hS.below bW hS.1)
  have bE := hid bW
  unfold posI
  unfold tup2 at HC
  obtain ⟨x, hx⟩ : ∃ x, lstI (szL zs) (v - u) (lo * (b - a)) = x := ⟨_, rfl⟩
  obtain ⟨y, hy⟩ : ∃ y, gstI (szL zs) (v - u) (hi * (b - a)) = y := ⟨_, rfl⟩
  rw [hx, hy] at HC ⊢
  have hW2 := hid hW
  have s1 := hid sW
  have l0 := q0.lt
  have l1 := q1.lt
  have c0 := q0.cell 0
  have c1 := q0.cell 1
  have c2 := q0.cell 2
  have c3 := q0.cell 3
  have c4 := q1.cell 0
  have c5 := q1.cell 1
  simp only [List.getElem?_cons_zero, List.getElem?_cons_succ] at c0 c1 c2 c3 c4 c5
  clear hx hy hn hv h hd hl hh q0 q1 bW hW sW hS
  go_enter Try.func33, Try.ntmps33
  go_wp2_with fail
  rw [← hW2.out]
  refine (HC.out W HS.out).mono ?_
  rintro e w1 ⟨rfl, hB1⟩
  go_wp2_with fail
  go_ret
  exact ⟨rfl, bE.out.trans (hB1.mono (by have := s1.out; omega))⟩
theorem okF_low {lo hi : Int} (h : lo < 0) : okF lo hi = false := by simp [okF]; omega
theorem okF_mid {lo hi : Int} (h : hi < lo) : okF lo hi = false := by simp [okF]; omega
theorem okF_high {lo hi : Int} (h : 1000000 < hi) : okF lo hi = false := by simp [okF]; omega
theorem okF_yes {lo hi : Int} (h1 : 0 ≤ lo) (h2 : lo ≤ hi) (h3 : hi ≤ 1000000) : okF lo hi = true := by simp [okF]; omega
theorem okF_out {lo hi : Int} (h : okF lo hi = true) : 0 ≤ lo ∧ lo ≤ hi ∧ hi ≤ 1000000 := by simpa [okF] using h
set_option maxHeartbeats 1000000 in
theorem implValidFlow_any (lo hi : Int) (w : World) : Calls Try.prog 30 #[.agg #[.int .i64 lo, .int .i64 hi]] w (GivesB w (.bool (okF lo hi))) := by
  have bel := hid (box2_bel w 27 (.int .i64 lo) (.int .i64 hi))
  by_cases h1 : lo < 0
  · rw [okF_low h1]
    go_enter Try.func30, Try.ntmps30
    go_wp2_with fail
    go_ret
    exact ⟨rfl, bel.out⟩
  by_cases h2 : hi < lo
  · rw [okF_mid h2]
    go_enter Try.func30, Try.ntmps30
    go_wp2_with fail
    go_ret
    exact ⟨rfl, bel.out⟩
  by_cases h3 : 1000000 < hi
  · rw [okF_high h3]
    have h4 : lo ≤ hi := by omega
    go_enter Try.func30, Try.ntmps30
    go_wp2_with fail
    go_ret
    exact ⟨by show Ending.returned (.bool (decide (hi ≤ 1000000))) = _; rw [decide_eq_false (by omega)], bel.out⟩
  rw [okF_yes (by omega) (by omega) (by omega)]
  have h4 : lo ≤ hi := by omega
  have h5 : hi ≤ 1000000 := by omega
  go_enter Try.func30, Try.ntmps30
  go_wp2_with fail
  go_ret
  exact ⟨rfl, bel.out⟩
theorem hasValue_any (bS n cap : Nat) (zs : List Int) (hn : n = zs.length) (hv : okL zs = true) (x : Int) (w : World) (hS : Stk w bS zs) :
    Calls Try.prog 58 #[.slice (some ⟨bS, 0, none⟩) n cap, .int .i64 x] w (GivesB w (.bool (decide (0 ≤ x ∧ x < szL zs)))) := by
  have Z := hid (size_any bS n cap zs hn hv w hS)
  obtain ⟨_, _, _, z1, z2⟩ := okL_out hv
  obtain ⟨z, hz⟩ : ∃ z, szL zs = z := ⟨_, rfl⟩
  rw [hz] at Z z1 z2 ⊢
  clear hz hv hn hS
  by_cases h1 : x < 0
  · rw [decide_eq_false (by omega)]
    go_enter Try.func58, Try.ntmps58
    go_wp2_with fail
    go_ret
    exact ⟨rfl, Below.refl _ _⟩
  by_cases h2 : x < z
  · rw [decide_eq_true (by omega)]
    go_enter Try.func58, Try.ntmps58
    go_wp2_with fail
    refine Z.out.mono ?_
    rintro e w1 ⟨rfl, hB⟩
    go_wp2_with fail
    go_ret
    exact ⟨rfl, hB⟩
  · rw [decide_eq_false (by omega)]
    go_enter Try.func58, Try.ntmps58
    go_wp2_with fail
    refine Z.out.mono ?_
    rintro e w1 ⟨rfl, hB⟩
    go_wp2_with fail
    go_ret
    exact ⟨by show Ending.returned (.bool (decide (x < z))) = _; rw [decide_eq_false (by omega)], hB⟩
theorem okRd_low {z d v : Int} (h : d < 0) : okRd z d v = false := by simp [okRd]; omega
theorem okRd_high {z d v : Int} (h : 100000 < d) : okRd z d v = false := by simp [okRd]; omega
theorem okRd_val {z d v : Int} (h1 : 0 ≤ d) (h2 : d ≤ 100000) : okRd z d v = decide (0 ≤ v ∧ v < z) := by simp [okRd, h1, h2]
theorem okRd_out {z d v : Int} (h : okRd z d v = true) : 0 ≤ d ∧ d ≤ 100000 ∧ 0 ≤ v ∧ v < z := by simpa [okRd] using h
theorem hasReading_any (bS n cap : Nat) (zs : List Int) (hn : n = zs.length) (hv : okL zs = true) (d x : Int) (w : World) (hS : Stk w bS zs) :
    Calls Try.prog 47 #[.slice (some ⟨bS, 0, none⟩) n cap, .agg #[.int .i64 d, .int .i64 x]] w (GivesB w (.bool (okRd (szL zs) d x))) := by
  have bel := hid (box2_bel w 38 (.int .i64 d) (.int .i64 x))
  by_cases h1 : d < 0
  · rw [okRd_low h1]
    go_enter Try.func47, Try.ntmps47
    go_wp2_with fail
    go_ret
    exact ⟨rfl, bel.out⟩
  by_cases h2 : 100000 < d
  · rw [okRd_high h2]
    go_enter Try.func47, Try.ntmps47
    go_wp2_with fail
    go_ret
    exact ⟨rfl, bel.out⟩
  rw [okRd_val (by omega) (by omega)]
  have HV := hid (hasValue_any bS n cap zs hn hv x _ (hS.below bel.out hS.1))
  obtain ⟨r, hr⟩ : ∃ r, decide (0 ≤ x ∧ x < szL zs) = r := ⟨_, rfl⟩
  rw [hr] at HV ⊢
  clear hr hv hn hS
  go_enter Try.func47, Try.ntmps47
  go_wp2_with fail
  refine HV.out.mono ?_
  rintro e w1 ⟨rfl, hB⟩
  have b1 := hid (bel.out.trans (hB.mono (by simp)))
  clear hB
  go_wp2_with fail
  go_ret
  exact ⟨rfl, b1.out⟩
end Go.Proofs.Ytofpgkbcodopiaa
