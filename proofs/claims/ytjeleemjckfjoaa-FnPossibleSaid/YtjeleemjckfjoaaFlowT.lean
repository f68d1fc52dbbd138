/- Counts between two readings, their rounds, and by how much a stack has been set back; the model's. -/
import Derived.Test.YtjeleemjckfjoaaFlowS
namespace Go.Proofs.Ytjeleemjckfjoaa
open Go.RowKit
theorem cnt3_yes {z way low high : Int} (hz : 1 ≤ z) (h : posI z way low high = true) : cnt3 z way low high = .tuple #[.int .i64 (lstI z way low), .int .i64 (gstI z way high), .bool true] := by
  rw [pos_iff z way low high hz] at h
  unfold cnt3
  rw [if_pos (of_decide_eq_true h)]
theorem cnt3_no {z way low high : Int} (hz : 1 ≤ z) (h : posI z way low high = false) : cnt3 z way low high = .tuple #[.int .i64 0, .int .i64 0, .bool false] := by
  rw [pos_iff z way low high hz] at h
  unfold cnt3
  rw [if_neg (of_decide_eq_false h)]
set_option maxHeartbeats 4000000 in
theorem specCounts_any (bS n cap : Nat) (zs : List Int) (hn : n = zs.length) (a u b v lo hi : Int) (w : World) (hS : Stk w bS zs) :
    Calls Try.prog 9 #[.slice (some ⟨bS, 0, none⟩) n cap, .agg #[.int .i64 a, .int .i64 u], .agg #[.int .i64 b, .int .i64 v], .agg #[.int .i64 lo, .int .i64 hi]] w (GivesB w (tup3 (cntR zs a u b v lo hi))) := by
  obtain ⟨W, hW⟩ : ∃ W, W = (((w.alloc (.cells #[.int .i64 a, .int .i64 u] 32)).alloc (.cells #[.int .i64 b, .int .i64 v] 32)).alloc (.cells #[.int .i64 lo, .int .i64 hi] 27)) := ⟨_, rfl⟩
  obtain ⟨q0, q1, q2, bW, sW⟩ := iv3_boxes w _ _ _ _ _ _ _ _ W hW
  have HS := hid (hS.below bW hS.1)
  have hbs := HS.out.1
  have bE := hid bW
  have SW := hid sW
  have hW2 := hid hW
  have Q0 := hid q0
  have Q1 := hid q1
  have Q2 := hid q2
  have HI := hid (l04Pair_any bS n cap zs hn a u b v lo hi W HS.out)
  by_cases h0 : codeP zs a u b v lo hi = 0
  · obtain ⟨o1, o2, o3, o4, o5⟩ := codeP_out h0
    obtain ⟨a1, a2, a3, a4⟩ := okRd_out o2
    obtain ⟨a5, a6, a7, a8⟩ := okRd_out o3
    obtain ⟨f1, f2, f3⟩ := okF_out o4
    obtain ⟨_, _, _, z1, z2⟩ := okL_out o1
    have HC := hid (fun w hS => l04Counts_any bS n cap zs hn o1 a u b v lo hi (by omega) (by omega) (by omega) (by omega) w hS)
    rw [h0] at HI
    cases hp : posI (szL zs) (v - u) (lo * (b - a)) (hi * (b - a)) with
    | false =>
      rw [cntR_none h0 hp]
      rw [cnt3_no z1 hp] at HC
      unfold tup3
      clear h0 hp hn hS hW bW sW q0 q1 q2 o1 o2 o3 o4 o5 a1 a2 a3 a4 a5 a6 a7 a8 f1 f2 f3 z1 z2
      go_enter Try.func9, Try.ntmps9
      have s0 := SW.out
      have x0 := Q0.out.cell 0
      have y0 := Q0.out.cell 1
      simp only [List.getElem?_cons_zero, List.getElem?_cons_succ] at x0 y0
      have x1 := Q1.out.cell 0
      have y1 := Q1.out.cell 1
      simp only [List.getElem?_cons_zero, List.getElem?_cons_succ] at x1 y1
      have x2 := Q2.out.cell 0
      have y2 := Q2.out.cell 1
      simp only [List.getElem?_cons_zero, List.getElem?_cons_succ] at x2 y2
      go_wp2_with fail
      rw [← hW2.out]
      refine HI.out.mono ?_
      rintro e w1 ⟨rfl, hB1⟩
      have hz1 := hB1.size
      have r1_0 := Q0.out.below hB1 (by omega)
      have r1_1 := Q1.out.below hB1 (by omega)
      have r1_2 := Q2.out.below hB1 (by omega)
      have b1 := hid hB1
      clear x0 y0 x1 y1 x2 y2 hB1
      have x0 := r1_0.cell 0
      have y0 := r1_0.cell 1
      simp only [List.getElem?_cons_zero, List.getElem?_cons_succ] at x0 y0
      have x1 := r1_1.cell 0
      have y1 := r1_1.cell 1
      simp only [List.getElem?_cons_zero, List.getElem?_cons_succ] at x1 y1
      have x2 := r1_2.cell 0
      have y2 := r1_2.cell 1
      simp only [List.getElem?_cons_zero, List.getElem?_cons_succ] at x2 y2
      go_wp2_with fail
      refine (HC.out _ (HS.out.below b1.out hbs)).mono ?_
      rintro e w2 ⟨rfl, hB2⟩
      have b2 := hid (b1.out.trans (hB2.mono b1.out.size))
      go_wp2_with fail
      go_ret3
      exact ⟨rfl, bE.out.trans (b2.out.mono (by omega))⟩
    | true =>
      rw [cntR_yes h0 hp]
      rw [cnt3_yes z1 hp] at HC
      unfold tup3
      obtain ⟨x, hx⟩ : ∃ x, lstI (szL zs) (v - u) (lo * (b - a)) = x := ⟨_, rfl⟩
      obtain ⟨y, hy⟩ : ∃ y, gstI (szL zs) (v - u) (hi * (b - a)) = y := ⟨_, rfl⟩
      rw [hx, hy] at HC ⊢
      clear hx hy h0 hp hn hS hW bW sW q0 q1 q2 o1 o2 o3 o4 o5 a1 a2 a3 a4 a5 a6 a7 a8 f1 f2 f3 z1 z2
      go_enter Try.func9, Try.ntmps9
      have s0 := SW.out
      have x0 := Q0.out.cell 0
      have y0 := Q0.out.cell 1
      simp only [List.getElem?_cons_zero, List.getElem?_cons_succ] at x0 y0
      have x1 := Q1.out.cell 0
      have y1 := Q1.out.cell 1
      simp only [List.getElem?_cons_zero, List.getElem?_cons_succ] at x1 y1
      have x2 := Q2.out.cell 0
      have y2 := Q2.out.cell 1
      simp only [List.getElem?_cons_zero, List.getElem?_cons_succ] at x2 y2
      go_wp2_with fail
      rw [← hW2.out]
      refine HI.out.mono ?_
      rintro e w1 ⟨rfl, hB1⟩
      have hz1 := hB1.size
      have r1_0 := Q0.out.below hB1 (by omega)
      have r1_1 := Q1.out.below hB1 (by omega)
      have r1_2 := Q2.out.below hB1 (by omega)
      have b1 := hid hB1
      clear x0 y0 x1 y1 x2 y2 hB1
      have x0 := r1_0.cell 0
      have y0 := r1_0.cell 1
      simp only [List.getElem?_cons_zero, List.getElem?_cons_succ] at x0 y0
      have x1 := r1_1.cell 0
      have y1 := r1_1.cell 1
      simp only [List.getElem?_cons_zero, List.getElem?_cons_succ] at x1 y1
      have x2 := r1_2.cell 0
      have y2 := r1_2.cell 1
      simp only [List.getElem?_cons_zero, List.getElem?_cons_succ] at x2 y2
      go_wp2_with fail
      refine (HC.out _ (HS.out.below b1.out hbs)).mono ?_
      rintro e w2 ⟨rfl, hB2⟩
      have b2 := hid (b1.out.trans (hB2.mono b1.out.size))
      go_wp2_with fail
      go_ret3
      exact ⟨rfl, bE.out.trans (b2.out.mono (by omega))⟩
  · rw [cntR_no h0]
    unfold tup3
    obtain ⟨c, hc⟩ : ∃ c, codeP zs a u b v lo hi = c := ⟨_, rfl⟩
    rw [hc] at HI h0 ⊢
    have d0 : (c != 0) = true := by simp [h0]
    clear hc hn hS hW bW sW q0 q1 q2
    go_enter Try.func9, Try.ntmps9
    have s0 := SW.out
    have x0 := Q0.out.cell 0
    have y0 := Q0.out.cell 1
    simp only [List.getElem?_cons_zero, List.getElem?_cons_succ] at x0 y0
    have x1 := Q1.out.cell 0
    have y1 := Q1.out.cell 1
    simp only [List.getElem?_cons_zero, List.getElem?_cons_succ] at x1 y1
    have x2 := Q2.out.cell 0
    have y2 := Q2.out.cell 1
    simp only [List.getElem?_cons_zero, List.getElem?_cons_succ] at x2 y2
    go_wp2_with fail
    rw [← hW2.out]
    refine HI.out.mono ?_
    rintro e w1 ⟨rfl, hB1⟩
    have hz1 := hB1.size
    have r1_0 := Q0.out.below hB1 (by omega)
    have r1_1 := Q1.out.below hB1 (by omega)
    have r1_2 := Q2.out.below hB1 (by omega)
    have b1 := hid hB1
    clear x0 y0 x1 y1 x2 y2 hB1
    go_wp2_with fail
    go_ret3
    exact ⟨rfl, bE.out.trans (b1.out.mono (by omega))⟩
set_option maxHeartbeats 4000000 in
theorem specBack_any (bS n cap : Nat) (zs : List Int) (hn : n = zs.length) (a u b v lo hi : Int) (w : World) (hS : Stk w bS zs) :
    Calls Try.prog 11 #[.slice (some ⟨bS, 0, none⟩) n cap, .agg #[.int .i64 a, .int .i64 u], .agg #[.int .i64 b, .int .i64 v], .agg #[.int .i64 lo, .int .i64 hi]] w (GivesB w (tup2 (backR zs a u b v lo hi).1 (backR zs a u b v lo hi).2)) := by
  obtain ⟨W, hW⟩ : ∃ W, W = (((w.alloc (.cells #[.int .i64 a, .int .i64 u] 32)).alloc (.cells #[.int .i64 b, .int .i64 v] 32)).alloc (.cells #[.int .i64 lo, .int .i64 hi] 27)) := ⟨_, rfl⟩
  obtain ⟨q0, q1, q2, bW, sW⟩ := iv3_boxes w _ _ _ _ _ _ _ _ W hW
  have HS := hid (hS.below bW hS.1)
  have hbs := HS.out.1
  have bE := hid bW
  have SW := hid sW
  have hW2 := hid hW
  have Q0 := hid q0
  have Q1 := hid q1
  have Q2 := hid q2
  have HI := hid (l04Pair_any bS n cap zs hn a u b v lo hi W HS.out)
  by_cases h0 : codeP zs a u b v lo hi = 0
  · obtain ⟨o1, o2, o3, o4, o5⟩ := codeP_out h0
    obtain ⟨a1, a2, a3, a4⟩ := okRd_out o2
    obtain ⟨a5, a6, a7, a8⟩ := okRd_out o3
    obtain ⟨f1, f2, f3⟩ := okF_out o4
    obtain ⟨_, _, _, z1, z2⟩ := okL_out o1
    have HZ := hid (fun w hS => l01Size_is bS n cap zs hn o1 w hS)
    rw [h0] at HI
    rw [backR_yes h0]
    obtain ⟨m1, m2⟩ := mul_small lo (b - a) (by omega) (by omega)
    obtain ⟨m3, m4⟩ := mul_small (hi - lo) (b - a) (by omega) (by omega)
    have BE := back_eq (szL zs) (v - u) (lo * (b - a)) (hi * (b - a)) z1
    rw [← Int.sub_mul] at BE
    rw [← BE]
    have HM := hid (fun w => l04Mod_any (u + lo * (b - a) - v) (szL zs) (by omega) (by omega) w)
    rw [show u + lo * (b - a) - v = lo * (b - a) - (v - u) by omega] at HM
    have p1 := Int.emod_nonneg (lo * (b - a) - (v - u)) (show szL zs ≠ 0 by omega)
    have p2 := Int.emod_lt_of_pos (lo * (b - a) - (v - u)) (show 0 < szL zs by omega)
    obtain ⟨z, hz⟩ : ∃ z, szL zs = z := ⟨_, rfl⟩
    rw [hz] at HZ HM p1 p2 z1 z2 a4 a8 ⊢
    obtain ⟨r, hr⟩ : ∃ r, (lo * (b - a) - (v - u)) % z = r := ⟨_, rfl⟩
    rw [hr] at HM p1 p2 ⊢
    have HM2 := hid (show ∀ (x : Int) w, x = u + lo * (b - a) - v → Calls Try.prog 27 #[.int .i64 x, .int .i64 z] w fun e w' => e = .returned (.int .i64 r) ∧ w = w' from fun x w e => by rw [e, show u + lo * (b - a) - v = lo * (b - a) - (v - u) by omega]; exact HM.out w)
    obtain ⟨d, hd⟩ : ∃ d, b - a = d := ⟨_, rfl⟩
    rw [hd] at m1 m2 m3 m4 HM2 ⊢
    obtain ⟨x, hx⟩ : ∃ x, lo * d = x := ⟨_, rfl⟩
    rw [hx] at m1 m2 HM2
    obtain ⟨f, hf⟩ : ∃ f, hi - lo = f := ⟨_, rfl⟩
    rw [hf] at m3 m4 ⊢
    obtain ⟨q, hq⟩ : ∃ q, f * d = q := ⟨_, rfl⟩
    rw [hq] at m3 m4 ⊢
    have fb : 0 ≤ f ∧ f ≤ 1000000 := by omega
    have db : 0 ≤ d ∧ d ≤ 100000 := by omega
    have t1 : IntKind.i64.wrap d = d := IntWalk.i64_in _ (by omega)
    have t2 : IntKind.i64.wrap x = x := IntWalk.i64_in _ (by omega)
    have t3 : IntKind.i64.wrap f = f := IntWalk.i64_in _ (by omega)
    have t4 : IntKind.i64.wrap q = q := IntWalk.i64_in _ (by omega)
    have t5 : IntKind.i64.wrap (u + x - v) = u + x - v := IntWalk.i64_in _ (by omega)
    have t6 : IntKind.i64.wrap (u + x) = u + x := IntWalk.i64_in _ (by omega)
    have t7 : IntKind.i64.wrap (r + q) = r + q := IntWalk.i64_in _ (by omega)
    unfold tup2
    clear BE HM hr hz h0 hn hS hW bW sW q0 q1 q2 o1 o2 o3 o4 o5 a1 a2 a5 a6 f1 f2 f3
    by_cases hc : z ≤ r + q
    · rw [if_pos hc]
      go_enter Try.func11, Try.ntmps11
      have s0 := SW.out
      have x0 := Q0.out.cell 0
      have y0 := Q0.out.cell 1
      simp only [List.getElem?_cons_zero, List.getElem?_cons_succ] at x0 y0
      have x1 := Q1.out.cell 0
      have y1 := Q1.out.cell 1
      simp only [List.getElem?_cons_zero, List.getElem?_cons_succ] at x1 y1
      have x2 := Q2.out.cell 0
      have y2 := Q2.out.cell 1
      simp only [List.getElem?_cons_zero, List.getElem?_cons_succ] at x2 y2
      go_wp2_with fail
      rw [← hW2.out]
      refine HI.out.mono ?_
      rintro e w1 ⟨rfl, hB1⟩
      have hz1 := hB1.size
      have r1_0 := Q0.out.below hB1 (by omega)
      have r1_1 := Q1.out.below hB1 (by omega)
      have r1_2 := Q2.out.below hB1 (by omega)
      have b1 := hid hB1
      clear x0 y0 x1 y1 x2 y2 hB1
      go_wp2_with fail
      refine (HZ.out _ (HS.out.below b1.out hbs)).mono ?_
      rintro e w' ⟨rfl, rfl⟩
      have x0 := r1_0.cell 0
      have y0 := r1_0.cell 1
      simp only [List.getElem?_cons_zero, List.getElem?_cons_succ] at x0 y0
      have x1 := r1_1.cell 0
      have y1 := r1_1.cell 1
      simp only [List.getElem?_cons_zero, List.getElem?_cons_succ] at x1 y1
      have x2 := r1_2.cell 0
      have y2 := r1_2.cell 1
      simp only [List.getElem?_cons_zero, List.getElem?_cons_succ] at x2 y2
      go_wp2_with fail
      refine (HM2.out _ _ rfl).mono ?_
      rintro e w' ⟨rfl, rfl⟩
      go_wp2_with fail
      go_ret2
      exact ⟨rfl, bE.out.trans (b1.out.mono (by omega))⟩
    · rw [if_neg hc]
      have hc' : r + q < z := by omega
      go_enter Try.func11, Try.ntmps11
      have s0 := SW.out
      have x0 := Q0.out.cell 0
      have y0 := Q0.out.cell 1
      simp only [List.getElem?_cons_zero, List.getElem?_cons_succ] at x0 y0
      have x1 := Q1.out.cell 0
      have y1 := Q1.out.cell 1
      simp only [List.getElem?_cons_zero, List.getElem?_cons_succ] at x1 y1
      have x2 := Q2.out.cell 0
      have y2 := Q2.out.cell 1
      simp only [List.getElem?_cons_zero, List.getElem?_cons_succ] at x2 y2
      go_wp2_with fail
      rw [← hW2.out]
      refine HI.out.mono ?_
      rintro e w1 ⟨rfl, hB1⟩
      have hz1 := hB1.size
      have r1_0 := Q0.out.below hB1 (by omega)
      have r1_1 := Q1.out.below hB1 (by omega)
      have r1_2 := Q2.out.below hB1 (by omega)
      have b1 := hid hB1
      clear x0 y0 x1 y1 x2 y2 hB1
      go_wp2_with fail
      refine (HZ.out _ (HS.out.below b1.out hbs)).mono ?_
      rintro e w' ⟨rfl, rfl⟩
      have x0 := r1_0.cell 0
      have y0 := r1_0.cell 1
      simp only [List.getElem?_cons_zero, List.getElem?_cons_succ] at x0 y0
      have x1 := r1_1.cell 0
      have y1 := r1_1.cell 1
      simp only [List.getElem?_cons_zero, List.getElem?_cons_succ] at x1 y1
      have x2 := r1_2.cell 0
      have y2 := r1_2.cell 1
      simp only [List.getElem?_cons_zero, List.getElem?_cons_succ] at x2 y2
      go_wp2_with fail
      refine (HM2.out _ _ rfl).mono ?_
      rintro e w' ⟨rfl, rfl⟩
      go_wp2_with fail
      go_ret2
      exact ⟨rfl, bE.out.trans (b1.out.mono (by omega))⟩
  · rw [backR_no h0]
    unfold tup2
    obtain ⟨c, hc⟩ : ∃ c, codeP zs a u b v lo hi = c := ⟨_, rfl⟩
    rw [hc] at HI h0 ⊢
    have d0 : (c != 0) = true := by simp [h0]
    clear hc hn hS hW bW sW q0 q1 q2
    go_enter Try.func11, Try.ntmps11
    have s0 := SW.out
    have x0 := Q0.out.cell 0
    have y0 := Q0.out.cell 1
    simp only [List.getElem?_cons_zero, List.getElem?_cons_succ] at x0 y0
    have x1 := Q1.out.cell 0
    have y1 := Q1.out.cell 1
    simp only [List.getElem?_cons_zero, List.getElem?_cons_succ] at x1 y1
    have x2 := Q2.out.cell 0
    have y2 := Q2.out.cell 1
    simp only [List.getElem?_cons_zero, List.getElem?_cons_succ] at x2 y2
    go_wp2_with fail
    rw [← hW2.out]
    refine HI.out.mono ?_
    rintro e w1 ⟨rfl, hB1⟩
    have hz1 := hB1.size
    have r1_0 := Q0.out.below hB1 (by omega)
    have r1_1 := Q1.out.below hB1 (by omega)
    have r1_2 := Q2.out.below hB1 (by omega)
    have b1 := hid hB1
    clear x0 y0 x1 y1 x2 y2 hB1
    go_wp2_with fail
    go_ret2
    exact ⟨rfl, bE.out.trans (b1.out.mono (by omega))⟩
end Go.Proofs.Ytjeleemjckfjoaa
