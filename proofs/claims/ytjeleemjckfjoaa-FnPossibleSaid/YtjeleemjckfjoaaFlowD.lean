/- Counts between two readings, their rounds, and by how much a stack has been set back; the program's. -/
import Derived.Test.YtjeleemjckfjoaaFlowC
import Derived.OwnWalk
import Derived.Deep.QuietTactic
namespace Go.Proofs.Ytjeleemjckfjoaa
open Go.RowKit
theorem tupI_ne {c : Int} (a u b v : Int) (h : c ≠ 0) : tupI c a u b v = .tuple #[.agg #[.int .i64 0, .int .i64 0, .int .i64 0, .int .i64 0], .int .i64 c] := by simp [tupI, ivR, h]
def cntR (zs : List Int) (a u b v lo hi : Int) : (Int × Int) × Int :=
  if codeP zs a u b v lo hi = 0 then (if posI (szL zs) (v - u) (lo * (b - a)) (hi * (b - a)) then ((lstI (szL zs) (v - u) (lo * (b - a)), gstI (szL zs) (v - u) (hi * (b - a))), 0) else ((0, 0), 6)) else ((0, 0), codeP zs a u b v lo hi)
theorem cntR_no {zs : List Int} {a u b v lo hi : Int} (h : codeP zs a u b v lo hi ≠ 0) : cntR zs a u b v lo hi = ((0, 0), codeP zs a u b v lo hi) := by simp [cntR, h]
theorem cntR_none {zs : List Int} {a u b v lo hi : Int} (h : codeP zs a u b v lo hi = 0) (k : posI (szL zs) (v - u) (lo * (b - a)) (hi * (b - a)) = false) : cntR zs a u b v lo hi = ((0, 0), 6) := by simp [cntR, h, k]
theorem cntR_yes {zs : List Int} {a u b v lo hi : Int} (h : codeP zs a u b v lo hi = 0) (k : posI (szL zs) (v - u) (lo * (b - a)) (hi * (b - a)) = true) : cntR zs a u b v lo hi = ((lstI (szL zs) (v - u) (lo * (b - a)), gstI (szL zs) (v - u) (hi * (b - a))), 0) := by simp [cntR, h, k]
def tup3 (r : (Int × Int) × Int) : Value := .tuple #[.int .i64 r.1.1, .int .i64 r.1.2, .int .i64 r.2]
theorem iv3_boxes (w : World) (T1 T2 : TypeId) (a u b v x y : Value) : ∀ W, W = (((w.alloc (.cells #[a, u] T1)).alloc (.cells #[b, v] T1)).alloc (.cells #[x, y] T2)) →
    Row W w.heap.size T1 [a, u] ∧ Row W (w.heap.size + 1) T1 [b, v] ∧ Row W (w.heap.size + 1 + 1) T2 [x, y] ∧ Below w.heap.size w W ∧ W.heap.size = w.heap.size + 1 + 1 + 1 := by
  rintro W rfl
  have h1 := Row.new (w.alloc (.cells #[a, u] T1)) T1 [b, v]
  have h2 := Row.new ((w.alloc (.cells #[a, u] T1)).alloc (.cells #[b, v] T1)) T2 [x, y]
  simp only [World.size_alloc] at h1 h2
  exact ⟨((Row.new w T1 [a, u]).alloc _).alloc _, h1.alloc _, h2, ((box2_bel w T1 a u).alloc (by simp) _).alloc (by simp; omega) _, by simp⟩
set_option maxHeartbeats 4000000 in
theorem implCounts_any (bS n cap : Nat) (zs : List Int) (hn : n = zs.length) (a u b v lo hi : Int) (w : World) (hS : Stk w bS zs) :
    Calls Try.prog 8 #[.slice (some ⟨bS, 0, none⟩) n cap, .agg #[.int .i64 a, .int .i64 u], .agg #[.int .i64 b, .int .i64 v], .agg #[.int .i64 lo, .int .i64 hi]] w (GivesB w (tup3 (cntR zs a u b v lo hi))) := by
  obtain ⟨W, hW⟩ : ∃ W, W = (((w.alloc (.cells #[.int .i64 a, .int .i64 u] 32)).alloc (.cells #[.int .i64 b, .int .i64 v] 32)).alloc (.cells #[.int .i64 lo, .int .i64 hi] 27)) := ⟨_, rfl⟩
  obtain ⟨q0, q1, q2, bW, sW⟩ := iv3_boxes w _ _ _ _ _ _ _ _ W hW
  have HS := hid (hS.below bW hS.1)
  have hbs := HS.out.1
  have bE := hid bW
  have SW := hid sW
  have hW2 := hid hW
  have Q0 := hid q0
  have Q1 := hid q1
  have Q2 := hid q2
  have HI := hid (implIntervalOf_any bS n cap zs hn a u b v lo hi W HS.out)
  by_cases h0 : codeP zs a u b v lo hi = 0
  · obtain ⟨o1, o2, o3, o4, o5⟩ := codeP_out h0
    obtain ⟨a1, a2, a3, a4⟩ := okRd_out o2
    obtain ⟨a5, a6, a7, a8⟩ := okRd_out o3
    obtain ⟨f1, f2, f3⟩ := okF_out o4
    obtain ⟨_, _, _, z1, z2⟩ := okL_out o1
    have HP := hid (fun w hS => possible_any bS n cap zs hn o1 a u b v lo hi (by omega) (by omega) (by omega) (by omega) w hS)
    have HC := hid (fun w hS => counts_any bS n cap zs hn o1 a u b v lo hi (by omega) (by omega) (by omega) (by omega) w hS)
    rw [h0, tupI_0] at HI
    cases hp : posI (szL zs) (v - u) (lo * (b - a)) (hi * (b - a)) with
    | false =>
      rw [cntR_none h0 hp]
      rw [hp] at HP
      unfold tup3
      clear h0 hp HC hn hS hW bW sW q0 q1 q2 o1 o2 o3 o4 o5 a1 a2 a3 a4 a5 a6 a7 a8 f1 f2 f3 z1 z2
      go_enter Try.func8, Try.ntmps8
      have s0 := SW.out
      have x0 := Q0.out.cell 0
      have y0 := Q0.out.cell 1
      simp only [List.getElem?_cons_zero, List.getElem?_cons_succ] at x0 y0
      have x1 := Q1.out.cell 0
      have y1 := Q1.out.cell 1
      simp only [List.getElem?_cons_zero, List.getElem?_cons_succ] at x1 y1
      have x2 := Q2.out.cell 0
      have y2 := Q2.out.cell 1
      simp only [List.getElem?_cons_zero, List.getElem?_cons_succ] at x2 y2
      go_wp2_with fail
      rw [← hW2.out]
      refine HI.out.mono ?_
      rintro e w1 ⟨rfl, hB1⟩
      have hz1 := hB1.size
      have r1_0 := Q0.out.below hB1 (by omega)
      have r1_2 := Q2.out.below hB1 (by omega)
      have b1 := hid hB1
      clear x0 y0 x1 y1 x2 y2 hB1
      have N1 := Row.new w1 46 [.int .i64 a, .int .i64 u, .int .i64 b, .int .i64 v]
      have b2 := hid (b1.out.alloc (by omega) (.cells #[.int .i64 a, .int .i64 u, .int .i64 b, .int .i64 v] 46))
      have r2_2 := r1_2.alloc (.cells #[.int .i64 a, .int .i64 u, .int .i64 b, .int .i64 v] 46)
      have r2_0 := r1_0.alloc (.cells #[.int .i64 a, .int .i64 u, .int .i64 b, .int .i64 v] 46)
      have sV : (w1.alloc (.cells #[.int .i64 a, .int .i64 u, .int .i64 b, .int .i64 v] 46)).heap.size = w1.heap.size + 1 := by simp
      have e0 := N1.cell 0
      have e1 := N1.cell 1
      have e2 := N1.cell 2
      have e3 := N1.cell 3
      simp only [List.getElem?_cons_zero, List.getElem?_cons_succ] at e0 e1 e2 e3
      have x2 := r2_2.cell 0
      have y2 := r2_2.cell 1
      simp only [List.getElem?_cons_zero, List.getElem?_cons_succ] at x2 y2
      go_wp2_with fail
      refine (HP.out _ (HS.out.below b2.out hbs)).mono ?_
      rintro e w2 ⟨rfl, hB2⟩
      simp only [World.size_alloc] at hB2
      have hz2 := hB2.size
      have b3 := hid (b2.out.trans (hB2.mono (by omega)))
      go_wp2_with fail
      go_ret3
      exact ⟨rfl, bE.out.trans (b3.out.mono (by omega))⟩
    | true =>
      rw [cntR_yes h0 hp]
      rw [hp] at HP
      unfold tup3
      unfold tup2 at HC
      obtain ⟨x, hx⟩ : ∃ x, lstI (szL zs) (v - u) (lo * (b - a)) = x := ⟨_, rfl⟩
      obtain ⟨y, hy⟩ : ∃ y, gstI (szL zs) (v - u) (hi * (b - a)) = y := ⟨_, rfl⟩
      rw [hx, hy] at HC ⊢
      clear hx hy h0 hp hn hS hW bW sW q0 q1 q2 o1 o2 o3 o4 o5 a1 a2 a3 a4 a5 a6 a7 a8 f1 f2 f3 z1 z2
      go_enter Try.func8, Try.ntmps8
      have s0 := SW.out
      have x0 := Q0.out.cell 0
      have y0 := Q0.out.cell 1
      simp only [List.getElem?_cons_zero, List.getElem?_cons_succ] at x0 y0
      have x1 := Q1.out.cell 0
      have y1 := Q1.out.cell 1
      simp only [List.getElem?_cons_zero, List.getElem?_cons_succ] at x1 y1
      have x2 := Q2.out.cell 0
      have y2 := Q2.out.cell 1
      simp only [List.getElem?_cons_zero, List.getElem?_cons_succ] at x2 y2
      go_wp2_with fail
      rw [← hW2.out]
      refine HI.out.mono ?_
      rintro e w1 ⟨rfl, hB1⟩
      have hz1 := hB1.size
      have r1_0 := Q0.out.below hB1 (by omega)
      have r1_2 := Q2.out.below hB1 (by omega)
      have b1 := hid hB1
      clear x0 y0 x1 y1 x2 y2 hB1
      have N1 := Row.new w1 46 [.int .i64 a, .int .i64 u, .int .i64 b, .int .i64 v]
      have b2 := hid (b1.out.alloc (by omega) (.cells #[.int .i64 a, .int .i64 u, .int .i64 b, .int .i64 v] 46))
      have r2_2 := r1_2.alloc (.cells #[.int .i64 a, .int .i64 u, .int .i64 b, .int .i64 v] 46)
      have r2_0 := r1_0.alloc (.cells #[.int .i64 a, .int .i64 u, .int .i64 b, .int .i64 v] 46)
      have sV : (w1.alloc (.cells #[.int .i64 a, .int .i64 u, .int .i64 b, .int .i64 v] 46)).heap.size = w1.heap.size + 1 := by simp
      have e0 := N1.cell 0
      have e1 := N1.cell 1
      have e2 := N1.cell 2
      have e3 := N1.cell 3
      simp only [List.getElem?_cons_zero, List.getElem?_cons_succ] at e0 e1 e2 e3
      have x2 := r2_2.cell 0
      have y2 := r2_2.cell 1
      simp only [List.getElem?_cons_zero, List.getElem?_cons_succ] at x2 y2
      go_wp2_with fail
      refine (HP.out _ (HS.out.below b2.out hbs)).mono ?_
      rintro e w2 ⟨rfl, hB2⟩
      simp only [World.size_alloc] at hB2
      have hz2 := hB2.size
      have b3 := hid (b2.out.trans (hB2.mono (by omega)))
      have r3_2 := r2_2.below hB2 (by omega)
      have n3 := N1.below hB2 (by omega)
      clear e0 e1 e2 e3 x2 y2 hB2
      have e0 := n3.cell 0
      have e1 := n3.cell 1
      have e2 := n3.cell 2
      have e3 := n3.cell 3
      simp only [List.getElem?_cons_zero, List.getElem?_cons_succ] at e0 e1 e2 e3
      have x2 := r3_2.cell 0
      have y2 := r3_2.cell 1
      simp only [List.getElem?_cons_zero, List.getElem?_cons_succ] at x2 y2
      go_wp2_with fail
      refine (HC.out w2 (HS.out.below b3.out hbs)).mono ?_
      rintro e w3 ⟨rfl, hB3⟩
      have b4 := hid (b3.out.trans (hB3.mono (by omega)))
      go_wp2_with fail
      go_ret3
      exact ⟨rfl, bE.out.trans (b4.out.mono (by omega))⟩
  · rw [cntR_no h0]
    rw [tupI_ne a u b v h0] at HI
    unfold tup3
    obtain ⟨c, hc⟩ : ∃ c, codeP zs a u b v lo hi = c := ⟨_, rfl⟩
    rw [hc] at HI h0 ⊢
    have d0 : (c != 0) = true := by simp [h0]
    clear hc hn hS hW bW sW q0 q1 q2
    go_enter Try.func8, Try.ntmps8
    have s0 := SW.out
    have x0 := Q0.out.cell 0
    have y0 := Q0.out.cell 1
    simp only [List.getElem?_cons_zero, List.getElem?_cons_succ] at x0 y0
    have x1 := Q1.out.cell 0
    have y1 := Q1.out.cell 1
    simp only [List.getElem?_cons_zero, List.getElem?_cons_succ] at x1 y1
    have x2 := Q2.out.cell 0
    have y2 := Q2.out.cell 1
    simp only [List.getElem?_cons_zero, List.getElem?_cons_succ] at x2 y2
    go_wp2_with fail
    rw [← hW2.out]
    refine HI.out.mono ?_
    rintro e w1 ⟨rfl, hB1⟩
    have hz1 := hB1.size
    have r1_0 := Q0.out.below hB1 (by omega)
    have r1_2 := Q2.out.below hB1 (by omega)
    have b1 := hid hB1
    clear x0 y0 x1 y1 x2 y2 hB1
    have b2 := hid (b1.out.alloc (by omega) (.cells #[.int .i64 0, .int .i64 0, .int .i64 0, .int .i64 0] 46))
    go_wp2_with fail
    go_ret3
    exact ⟨rfl, bE.out.trans (b2.out.mono (by omega))⟩
def rndR (zs : List Int) (a u b v lo hi : Int) : (Int × Int) × Int :=
  if (cntR zs a u b v lo hi).2 = 0 then (((u + (cntR zs a u b v lo hi).1.1) / szL zs, (u + (cntR zs a u b v lo hi).1.2) / szL zs), 0) else ((0, 0), (cntR zs a u b v lo hi).2)
theorem rndR_no {zs : List Int} {a u b v lo hi : Int} (h : (cntR zs a u b v lo hi).2 ≠ 0) : rndR zs a u b v lo hi = ((0, 0), (cntR zs a u b v lo hi).2) := by simp [rndR, h]
theorem rndR_yes {zs : List Int} {a u b v lo hi : Int} (h : (cntR zs a u b v lo hi).2 = 0) : rndR zs a u b v lo hi = (((u + (cntR zs a u b v lo hi).1.1) / szL zs, (u + (cntR zs a u b v lo hi).1.2) / szL zs), 0) := by simp [rndR, h]
/-- what is known of counts that are possible -/
theorem cntR_out {zs : List Int} {a u b v lo hi : Int} (h : (cntR zs a u b v lo hi).2 = 0) : codeP zs a u b v lo hi = 0 ∧ 0 ≤ (cntR zs a u b v lo hi).1.1 ∧ (cntR zs a u b v lo hi).1.1 ≤ 2000000000000 ∧ 0 ≤ (cntR zs a u b v lo hi).1.2 ∧ (cntR zs a u b v lo hi).1.2 ≤ 2000000000000 := by
  by_cases h0 : codeP zs a u b v lo hi = 0
  · obtain ⟨o1, o2, o3, o4, o5⟩ := codeP_out h0
    obtain ⟨a1, a2, a3, a4⟩ := okRd_out o2
    obtain ⟨a5, a6, a7, a8⟩ := okRd_out o3
    obtain ⟨f1, f2, f3⟩ := okF_out o4
    obtain ⟨_, _, _, z1, z2⟩ := okL_out o1
    cases hp : posI (szL zs) (v - u) (lo * (b - a)) (hi * (b - a)) with
    | false => rw [cntR_none h0 hp] at h; simp at h
    | true =>
      rw [cntR_yes h0 hp]
      have hp' := hp
      unfold posI at hp'
      have hp2 := of_decide_eq_true hp'
      have g := gst_le (szL zs) (v - u) (hi * (b - a)) (by omega)
      obtain ⟨m1, m2⟩ := mul_small lo (b - a) (by omega) (by omega)
      obtain ⟨m3, m4⟩ := mul_small hi (b - a) (by omega) (by omega)
      have e := Int.emod_nonneg (v - u - lo * (b - a)) (show szL zs ≠ 0 by omega)
      have hl : 0 ≤ lstI (szL zs) (v - u) (lo * (b - a)) := by unfold lstI; omega
      exact ⟨h0, hl, by show lstI (szL zs) (v - u) (lo * (b - a)) ≤ _; omega, by show 0 ≤ gstI (szL zs) (v - u) (hi * (b - a)); omega, by show gstI (szL zs) (v - u) (hi * (b - a)) ≤ _; omega⟩
  · rw [cntR_no h0] at h
    exact absurd h h0
theorem quo_small (m z : Int) (h : 0 ≤ m ∧ m ≤ 3000000000000) (hz : 1 ≤ z) : m.tdiv z = m / z ∧ 0 ≤ m / z ∧ m / z ≤ 3000000000000 := by
  refine ⟨Int.tdiv_eq_ediv_of_nonneg h.1, Int.ediv_nonneg h.1 (by omega), ?_⟩
  have := Int.ediv_le_self z h.1
  omega
set_option maxHeartbeats 4000000 in
theorem implRounds_any (bS n cap : Nat) (zs : List Int) (hn : n = zs.length) (a u b v lo hi : Int) (w : World) (hS : Stk w bS zs) :
    Calls Try.prog 12 #[.slice (some ⟨bS, 0, none⟩) n cap, .agg #[.int .i64 a, .int .i64 u], .agg #[.int .i64 b, .int .i64 v], .agg #[.int .i64 lo, .int .i64 hi]] w (GivesB w (tup3 (rndR zs a u b v lo hi))) := by
  obtain ⟨W, hW⟩ : ∃ W, W = (((w.alloc (.cells #[.int .i64 a, .int .i64 u] 32)).alloc (.cells #[.int .i64 b, .int .i64 v] 32)).alloc (.cells #[.int .i64 lo, .int .i64 hi] 27)) := ⟨_, rfl⟩
  obtain ⟨q0, q1, q2, bW, sW⟩ := iv3_boxes w _ _ _ _ _ _ _ _ W hW
  have HS := hid (hS.below bW hS.1)
  have hbs := HS.out.1
  have bE := hid bW
  have SW := hid sW
  have hW2 := hid hW
  have Q0 := hid q0
  have Q1 := hid q1
  have Q2 := hid q2
  have HI := hid (implCounts_any bS n cap zs hn a u b v lo hi W HS.out)
  by_cases h0 : (cntR zs a u b v lo hi).2 = 0
  · obtain ⟨k0, k1, k2, k3, k4⟩ := cntR_out h0
    obtain ⟨o1, o2, o3, o4, o5⟩ := codeP_out k0
    obtain ⟨a1, a2, a3, a4⟩ := okRd_out o2
    obtain ⟨_, _, _, z1, z2⟩ := okL_out o1
    have Z := hid (fun w hS => size_any bS n cap zs hn o1 w hS)
    rw [rndR_yes h0]
    unfold tup3 at HI ⊢
    rw [h0] at HI
    obtain ⟨x, hx⟩ : ∃ x, (cntR zs a u b v lo hi).1.1 = x := ⟨_, rfl⟩
    obtain ⟨y, hy⟩ : ∃ x, (cntR zs a u b v lo hi).1.2 = x := ⟨_, rfl⟩
    rw [hx, hy] at HI ⊢
    rw [hx] at k1 k2
    rw [hy] at k3 k4
    obtain ⟨z, hz⟩ : ∃ z, szL zs = z := ⟨_, rfl⟩
    rw [hz] at Z z1 z2 a4 ⊢
    obtain ⟨e1, p1, p2⟩ := quo_small (u + x) z (by omega) z1
    obtain ⟨e2, p3, p4⟩ := quo_small (u + y) z (by omega) z1
    obtain ⟨X, hX⟩ : ∃ X, (u + x) / z = X := ⟨_, rfl⟩
    obtain ⟨Y, hY⟩ : ∃ X, (u + y) / z = X := ⟨_, rfl⟩
    rw [hX] at e1 p1 p2 ⊢
    rw [hY] at e2 p3 p4 ⊢
    obtain ⟨m, hm⟩ : ∃ m, u + x = m := ⟨_, rfl⟩
    obtain ⟨q, hq⟩ : ∃ m, u + y = m := ⟨_, rfl⟩
    rw [hm] at e1
    rw [hq] at e2
    have t1 : IntKind.i64.wrap m = m := IntWalk.i64_in _ (by omega)
    have t2 : IntKind.i64.wrap q = q := IntWalk.i64_in _ (by omega)
    have t3 : IntKind.i64.wrap X = X := IntWalk.i64_in _ (by omega)
    have t4 : IntKind.i64.wrap Y = Y := IntWalk.i64_in _ (by omega)
    have zn : z ≠ 0 := by omega
    have zb : (z == 0) = false := by simp [zn]
    clear hx hy hz hX hY h0 k0 hn hS hW bW sW q0 q1 q2 o1 o2 o3 o4 o5 a1 a2
    go_enter Try.func12, Try.ntmps12
    have s0 := SW.out
    have x0 := Q0.out.cell 0
    have y0 := Q0.out.cell 1
    simp only [List.getElem?_cons_zero, List.getElem?_cons_succ] at x0 y0
    have x1 := Q1.out.cell 0
    have y1 := Q1.out.cell 1
    simp only [List.getElem?_cons_zero, List.getElem?_cons_succ] at x1 y1
    have x2 := Q2.out.cell 0
    have y2 := Q2.out.cell 1
    simp only [List.getElem?_cons_zero, List.getElem?_cons_succ] at x2 y2
    go_wp2_with fail
    rw [← hW2.out]
    refine HI.out.mono ?_
    rintro e w1 ⟨rfl, hB1⟩
    have hz1 := hB1.size
    have r1_0 := Q0.out.below hB1 (by omega)
    have b1 := hid hB1
    clear x0 y0 x1 y1 x2 y2 hB1
    go_wp2_with fail
    refine (Z.out w1 (HS.out.below b1.out hbs)).mono ?_
    rintro e w2 ⟨rfl, hB2⟩
    have hz2 := hB2.size
    have r2_0 := r1_0.below hB2 (by omega)
    have b2 := hid (b1.out.trans (hB2.mono b1.out.size))
    clear hB2 r1_0
    have x0 := r2_0.cell 0
    have y0 := r2_0.cell 1
    simp only [List.getElem?_cons_zero, List.getElem?_cons_succ] at x0 y0
    go_wp2_with fail
    have s0' := SW.out
    have bF := hid (bE.out.trans (b2.out.mono (by omega)))
    go_quiet (fail)
    go_wp2_with fail
    go_ret3
    exact ⟨rfl, below_drewN bF.out _⟩
  · rw [rndR_no h0]
    unfold tup3 at HI ⊢
    have HC0 := hid (show cntR zs a u b v lo hi = ((0, 0), (cntR zs a u b v lo hi).2) by
      unfold cntR at h0 ⊢
      split
      · split
        · rename_i hc hp
          rw [if_pos hc, if_pos hp] at h0
          exact absurd rfl h0
        · rfl
      · rfl)
    have hc1 : (cntR zs a u b v lo hi).1.1 = 0 := by rw [HC0.out]
    have hc2 : (cntR zs a u b v lo hi).1.2 = 0 := by rw [HC0.out]
    rw [hc1, hc2] at HI
    obtain ⟨c, hc⟩ : ∃ c, (cntR zs a u b v lo hi).2 = c := ⟨_, rfl⟩
    rw [hc] at HI h0 ⊢
    have d0 : (c != 0) = true := by simp [h0]
    clear hc hc1 hc2 HC0 hn hS hW bW sW q0 q1 q2
    go_enter Try.func12, Try.ntmps12
    have s0 := SW.out
    have x0 := Q0.out.cell 0
    have y0 := Q0.out.cell 1
    simp only [List.getElem?_cons_zero, List.getElem?_cons_succ] at x0 y0
    have x1 := Q1.out.cell 0
    have y1 := Q1.out.cell 1
    simp only [List.getElem?_cons_zero, List.getElem?_cons_succ] at x1 y1
    have x2 := Q2.out.cell 0
    have y2 := Q2.out.cell 1
    simp only [List.getElem?_cons_zero, List.getElem?_cons_succ] at x2 y2
    go_wp2_with fail
    rw [← hW2.out]
    refine HI.out.mono ?_
    rintro e w1 ⟨rfl, hB1⟩
    have hz1 := hB1.size
    have r1_0 := Q0.out.below hB1 (by omega)
    have r1_2 := Q2.out.below hB1 (by omega)
    have b1 := hid hB1
    clear x0 y0 x1 y1 x2 y2 hB1
    go_wp2_with fail
    go_ret3
    exact ⟨rfl, bE.out.trans (b1.out.mono (by omega))⟩
end Go.Proofs.Ytjeleemjckfjoaa
