/- FlowsFor: the program's answer. -/
import Derived.Test.YtoenpfjnjpgbfaaMetG
namespace Go.Proofs.Ytoenpfjnjpgbfaa
open Go.RowKit
set_option linter.unusedVariables false
set_option maxRecDepth 100000 in
set_option maxHeartbeats 8000000 in
theorem implFlowsFor_any (B n cap : Nat) (zs : List Int) (x y s r v : Int) (hv64 : I64 v) (w : World) (hS : Stk w B zs) (hn : n = zs.length) :
    Calls Try.prog 11 #[.agg #[.slice (some ⟨B, 0, none⟩) n cap, .int .i64 x, .int .i64 y, .int .i64 s], .int .i64 r, .int .i64 v] w (GivesB w (.tuple #[.int .i64 (flwA zs x y s r v).1, .int .i64 (flwA zs x y s r v).2.1, .int .i64 (flwA zs x y s r v).2.2])) := by
  obtain ⟨W, hW⟩ : ∃ W, W = w.alloc (.cells #[.slice (some ⟨B, 0, none⟩) n cap, .int .i64 x, .int .i64 y, .int .i64 s] 26) := ⟨_, rfl⟩
  have bel : Below w.heap.size w W := by rw [hW]; exact box4_belM _ _ _ _ _ _
  have r0 : Row W w.heap.size 26 [.slice (some ⟨B, 0, none⟩) n cap, .int .i64 x, .int .i64 y, .int .i64 s] := by rw [hW]; exact Row.new _ _ _
  have hK := hS.below bel hS.1
  have HK := hid hK
  have H := hid (implValidMeter_any B n cap zs x y s W hK hn)
  have HC := hid (fun w => isCount_any r w)
  have HN := hid hn
  have c0 := r0.cell 0; have c1 := r0.cell 1; have c2 := r0.cell 2; have c3 := r0.cell 3
  simp only [List.getElem?_cons_zero, List.getElem?_cons_succ] at c0 c1 c2 c3
  have R := hid r0
  have BE := hid bel
  have HW := hid hW
  have lt := r0.lt
  clear hS hn r0 bel hW hK
  cases hv : okMe zs x y s with
  | false =>
    rw [flwA_no hv]
    rw [hv] at H
    clear hv
    go_enter Try.func11, Try.ntmps11
    go_wp2_with fail
    rw [← HW.out]
    refine H.out.mono ?_
    rintro e w1 ⟨rfl, hB⟩
    clear c0 c1 c2 c3
    go_wp2_with fail
    go_ret3
    exact ⟨rfl, BE.out.trans (hB.mono BE.out.size)⟩
  | true =>
    rw [hv] at H
    obtain ⟨hok, x1, x2, y1, y2, s1, s2⟩ := okMe_out hv
    obtain ⟨_, _, _, z1, z2⟩ := okL_out hok
    have HY := hid (fun (w : World) (h : Stk w B zs) (hx : 0 ≤ v ∧ v < szL zs) => hasValue_yes B n cap zs v w h HN.out hok hx)
    have HX := hid (fun (w : World) (h : Stk w B zs) (hx : ¬ (0 ≤ v ∧ v < szL zs)) => hasValue_no B n cap zs v w h HN.out hok hx)
    have HZ := hid (fun w h => size_any B n cap zs HN.out hok w h)
    by_cases hf : 0 ≤ r ∧ r ≤ 1000000000000
    · rw [in_yes hf] at HC
      by_cases h2 : 0 ≤ v ∧ v ≤ szL zs - 1
      · have HV := hid (fun w h => HY.out w h (by omega))
        obtain ⟨h0, h1⟩ := mul_upto (f := 1000000000000) (x := x) (by omega) (by omega) x1 x2
        have HA := hid (fun w => after_any B n cap x y s 1000000000000 h0 h1 y1 (by omega) w)
        by_cases h3 : (s + flwM x y) / szL zs < r
        · rw [flwA_rounds hv hf h2 h3]
          have mq := quo_bd (X := 1000000000000 * x) (y := y) (by omega) y1
          have m0 : 0 ≤ flwM x y := mq.2.1
          have m1 : flwM x y ≤ 1000000000000 * x := mq.2.2
          rw [show 1000000000000 * x / y = flwM x y from rfl] at HA
          obtain ⟨z, hz⟩ : ∃ z, szL zs = z := ⟨_, rfl⟩
          rw [hz] at HZ z1 z2 s2 h3
          obtain ⟨t, ht⟩ : ∃ t, s + flwM x y = t := ⟨_, rfl⟩
          obtain ⟨d1, d2, d3⟩ := quo_bd (X := t) (y := z) (by omega) z1
          rw [ht] at h3 HA
          obtain ⟨u, hu⟩ : ∃ u, t / z = u := ⟨_, rfl⟩
          rw [hu] at d1 d2 d3 h3
          have tt : IntKind.i64.wrap t = t := IntWalk.i64_in _ (by omega)
          have tu : IntKind.i64.wrap u = u := IntWalk.i64_in _ (by omega)
          have nz : z ≠ 0 := by omega
          clear HY HX hv hf h2 mq m0 m1 hz ht hu d2 d3 h0 h1 x1 x2 y1 y2 s1 s2 z1 z2 hok
          go_enter Try.func11, Try.ntmps11
          go_wp2_with fail
          rw [← HW.out]
          refine H.out.mono ?_
          rintro e w1 ⟨rfl, hB⟩
          have r1 := R.out.below hB lt
          have b1 := hid (BE.out.trans (hB.mono BE.out.size))
          have K1 := hid (HK.out.below hB HK.out.1)
          clear c0 c1 c2 c3 hB
          have c0 := r1.cell 0; have c1 := r1.cell 1; have c2 := r1.cell 2; have c3 := r1.cell 3
          simp only [List.getElem?_cons_zero, List.getElem?_cons_succ] at c0 c1 c2 c3
          clear r1
          go_wp2_with fail
          refine (gauge_any B n cap x y s _).mono ?_
          rintro e w2 ⟨rfl, hB⟩
          have b2 := hid (b1.out.trans (hB.mono b1.out.size))
          have K2 := hid (K1.out.below hB K1.out.1)
          clear c0 c1 c2 c3 hB
          obtain ⟨V, hV⟩ : ∃ V, V = w2.alloc (.cells #[.slice (some ⟨B, 0, none⟩) n cap, .int .i64 x, .int .i64 y, .int .i64 s] 45) := ⟨_, rfl⟩
          have bV : Below w2.heap.size w2 V := by rw [hV]; exact box4_belM _ _ _ _ _ _
          have rV : Row V w2.heap.size 45 [.slice (some ⟨B, 0, none⟩) n cap, .int .i64 x, .int .i64 y, .int .i64 s] := by rw [hV]; exact Row.new _ _ _
          have b3 := hid (b2.out.trans (bV.mono b2.out.size))
          have K3 := hid (K2.out.below bV K2.out.1)
          have c0 := rV.cell 0; have c1 := rV.cell 1; have c2 := rV.cell 2; have c3 := rV.cell 3
          simp only [List.getElem?_cons_zero, List.getElem?_cons_succ] at c0 c1 c2 c3
          have HVV := hid hV
          have RV := hid rV
          clear rV bV hV
          go_wp2_with fail
          rw [← HVV.out]
          refine (HC.out _).mono ?_
          rintro e w3 ⟨rfl, rfl⟩
          go_wp2_with fail
          refine (HV.out _ K3.out).mono ?_
          rintro e w3 ⟨rfl, hB⟩
          have b4 := hid (b3.out.trans (hB.mono b3.out.size))
          have K4 := hid (K3.out.below hB K3.out.1)
          have R3 := hid (RV.out.below hB RV.out.lt)
          clear c0 c1 c2 c3 hB
          have HS0 := hid (held4 R3.out (Below.refl _ _).drew)
          have HA2 := hid (fun (w' : World) (h : (fun w' : World => Below w3.heap.size w3 w' ∧ w'.cell? ⟨w2.heap.size, 0, none⟩ = some (.slice (some ⟨B, 0, none⟩) n cap) ∧ w'.cell? ⟨w2.heap.size, 1, none⟩ = some (.int .i64 x) ∧ w'.cell? ⟨w2.heap.size, 2, none⟩ = some (.int .i64 y) ∧ w'.cell? ⟨w2.heap.size, 3, none⟩ = some (.int .i64 s)) w') => (HA.out w').mono fun e w'' ⟨he, hB⟩ => And.intro he (held4 R3.out (h.1.trans (hB.mono h.1.size))))
          have HZ2 := hid (fun (w' : World) (h : (fun w' : World => Below w3.heap.size w3 w' ∧ w'.cell? ⟨w2.heap.size, 0, none⟩ = some (.slice (some ⟨B, 0, none⟩) n cap) ∧ w'.cell? ⟨w2.heap.size, 1, none⟩ = some (.int .i64 x) ∧ w'.cell? ⟨w2.heap.size, 2, none⟩ = some (.int .i64 y) ∧ w'.cell? ⟨w2.heap.size, 3, none⟩ = some (.int .i64 s)) w') => (HZ.out w' (K4.out.below h.1 K4.out.1)).mono fun e w'' ⟨he, hB⟩ => And.intro he (held4 R3.out (h.1.trans (hB.mono h.1.size))))
          have r3 := R3.out
          have c0 := r3.cell 0; have c1 := r3.cell 1; have c2 := r3.cell 2; have c3 := r3.cell 3
          simp only [List.getElem?_cons_zero, List.getElem?_cons_succ] at c0 c1 c2 c3
          clear r3
          go_wp2_with fail
          go_region_held3 (fun w' : World => Below w3.heap.size w3 w' ∧ w'.cell? ⟨w2.heap.size, 0, none⟩ = some (.slice (some ⟨B, 0, none⟩) n cap) ∧ w'.cell? ⟨w2.heap.size, 1, none⟩ = some (.int .i64 x) ∧ w'.cell? ⟨w2.heap.size, 2, none⟩ = some (.int .i64 y) ∧ w'.cell? ⟨w2.heap.size, 3, none⟩ = some (.int .i64 s)) (first | assumption | exact HS0.out)
            ((first | (go_at_call 21; refine (HA2.out _ (by assumption)).mono ?_; rintro e w4 ⟨rfl, hw⟩) | (go_at_call 22; refine (HZ2.out _ (by assumption)).mono ?_; rintro e w4 ⟨rfl, hw⟩)))
          clear c0 c1 c2 c3
          have b5 := hid (b4.out.trans (hw.1.mono b4.out.size))
          go_wp2_with fail
          go_ret3
          exact ⟨rfl, b5.out⟩
        · obtain ⟨⟨b1, b2⟩, ⟨b3, b4⟩, b5, b6, b7⟩ := flw_bd ⟨x1, x2⟩ ⟨y1, y2⟩ ⟨z1, z2⟩ ⟨s1, s2⟩ hf.1 h2 h3
          have HF := hid (fun w => flows_any B n cap x y s (r * szL zs + v) ⟨x1, x2⟩ ⟨y1, y2⟩ (by omega) (by omega) w)
          rw [show r * szL zs + v - s = flwC zs s r v from rfl] at HF b5
          by_cases h4 : (0 ≤ flwC zs s r v ∧ flwC zs s r v ≤ flwM x y) ∧ ¬ flwH x y (flwC zs s r v) < flwL x y (flwC zs s r v)
          · rw [flwA_yes hv hf h2 h3 h4.1 h4.2]
            obtain ⟨f1, f2⟩ := flow_some ⟨x1, x2⟩ ⟨y1, y2⟩ h4.1.1 h4.2
            rw [f1, f2] at HF
            have hl := h4.2
            have hhi : flwH x y (flwC zs s r v) ≤ 1000000000000 := by unfold flwH; omega
            have hlo : 0 ≤ flwL x y (flwC zs s r v) := by
              have := Int.mul_nonneg h4.1.1 (show 0 ≤ y by omega)
              exact Int.ediv_nonneg (by omega) (by omega)
            obtain ⟨C, hC⟩ : ∃ C, flwC zs s r v = C := ⟨_, rfl⟩
            have hC2 : r * szL zs + v - s = C := hC
            rw [hC] at HF hl hhi hlo f1 f2 b5 ⊢
            have mq := quo_bd (X := 1000000000000 * x) (y := y) (by omega) y1
            have m0 : 0 ≤ flwM x y := mq.2.1
            have m1 : flwM x y ≤ 1000000000000 * x := mq.2.2
            rw [show 1000000000000 * x / y = flwM x y from rfl] at HA
            obtain ⟨z, hz⟩ : ∃ z, szL zs = z := ⟨_, rfl⟩
            rw [hz] at HZ z1 z2 s2 h3 hC2 b3 b4 HF
            obtain ⟨t, ht⟩ : ∃ t, s + flwM x y = t := ⟨_, rfl⟩
            obtain ⟨d1, d2, d3⟩ := quo_bd (X := t) (y := z) (by omega) z1
            rw [ht] at h3 HA
            obtain ⟨u, hu⟩ : ∃ u, t / z = u := ⟨_, rfl⟩
            rw [hu] at d1 d2 d3 h3
            have tt : IntKind.i64.wrap t = t := IntWalk.i64_in _ (by omega)
            have tu : IntKind.i64.wrap u = u := IntWalk.i64_in _ (by omega)
            have nz : z ≠ 0 := by omega
            obtain ⟨P, hP⟩ : ∃ P, r * z = P := ⟨_, rfl⟩
            rw [hP] at b3 b4 hC2 HF
            have tP : IntKind.i64.wrap P = P := IntWalk.i64_in _ (by omega)
            have tP2 : IntKind.i64.wrap (P + v) = P + v := IntWalk.i64_in _ (by omega)
            have h3' : u ≥ r := by omega
            have hPP := hid hP
            obtain ⟨LO, hLO⟩ : ∃ l, flwL x y C = l := ⟨_, rfl⟩
            obtain ⟨HI, hHI⟩ : ∃ l, flwH x y C = l := ⟨_, rfl⟩
            rw [hLO, hHI] at HF hl ⊢
            rw [hLO] at hlo
            rw [hHI] at hhi
            have hlt : LO < HI + 1 := by omega
            have hlt2 : ¬ HI + 1 ≤ LO := by omega
            have tH : IntKind.i64.wrap HI = HI := IntWalk.i64_in _ (by omega)
            clear HY HX hv hf h2 mq m0 m1 hz ht hu d2 d3 h0 h1 x1 x2 y1 y2 s1 s2 z1 z2 hok b2 b3 b4 b5 b6 b7 h4 hC hC2 hLO hHI f1 f2 b1 hl hlo hhi
            go_enter Try.func11, Try.ntmps11
            go_wp2_with fail
            rw [← HW.out]
            refine H.out.mono ?_
            rintro e w1 ⟨rfl, hB⟩
            have r1 := R.out.below hB lt
            have b1 := hid (BE.out.trans (hB.mono BE.out.size))
            have K1 := hid (HK.out.below hB HK.out.1)
            clear c0 c1 c2 c3 hB
            have c0 := r1.cell 0; have c1 := r1.cell 1; have c2 := r1.cell 2; have c3 := r1.cell 3
            simp only [List.getElem?_cons_zero, List.getElem?_cons_succ] at c0 c1 c2 c3
            clear r1
            go_wp2_with fail
            refine (gauge_any B n cap x y s _).mono ?_
            rintro e w2 ⟨rfl, hB⟩
            have b2 := hid (b1.out.trans (hB.mono b1.out.size))
            have K2 := hid (K1.out.below hB K1.out.1)
            clear c0 c1 c2 c3 hB
            obtain ⟨V, hV⟩ : ∃ V, V = w2.alloc (.cells #[.slice (some ⟨B, 0, none⟩) n cap, .int .i64 x, .int .i64 y, .int .i64 s] 45) := ⟨_, rfl⟩
            have bV : Below w2.heap.size w2 V := by rw [hV]; exact box4_belM _ _ _ _ _ _
            have rV : Row V w2.heap.size 45 [.slice (some ⟨B, 0, none⟩) n cap, .int .i64 x, .int .i64 y, .int .i64 s] := by rw [hV]; exact Row.new _ _ _
            have b3 := hid (b2.out.trans (bV.mono b2.out.size))
            have K3 := hid (K2.out.below bV K2.out.1)
            have c0 := rV.cell 0; have c1 := rV.cell 1; have c2 := rV.cell 2; have c3 := rV.cell 3
            simp only [List.getElem?_cons_zero, List.getElem?_cons_succ] at c0 c1 c2 c3
            have HVV := hid hV
            have RV := hid rV
            clear rV bV hV
            go_wp2_with fail
            rw [← HVV.out]
            refine (HC.out _).mono ?_
            rintro e w3 ⟨rfl, rfl⟩
            go_wp2_with fail
            refine (HV.out _ K3.out).mono ?_
            rintro e w3 ⟨rfl, hB⟩
            have b4 := hid (b3.out.trans (hB.mono b3.out.size))
            have K4 := hid (K3.out.below hB K3.out.1)
            have R3 := hid (RV.out.below hB RV.out.lt)
            clear c0 c1 c2 c3 hB
            have HS0 := hid (held4 R3.out (Below.refl _ _).drew)
            have HA2 := hid (fun (w' : World) (h : (fun w' : World => Below w3.heap.size w3 w' ∧ w'.cell? ⟨w2.heap.size, 0, none⟩ = some (.slice (some ⟨B, 0, none⟩) n cap) ∧ w'.cell? ⟨w2.heap.size, 1, none⟩ = some (.int .i64 x) ∧ w'.cell? ⟨w2.heap.size, 2, none⟩ = some (.int .i64 y) ∧ w'.cell? ⟨w2.heap.size, 3, none⟩ = some (.int .i64 s)) w') => (HA.out w').mono fun e w'' ⟨he, hB⟩ => And.intro he (held4 R3.out (h.1.trans (hB.mono h.1.size))))
            have HZ2 := hid (fun (w' : World) (h : (fun w' : World => Below w3.heap.size w3 w' ∧ w'.cell? ⟨w2.heap.size, 0, none⟩ = some (.slice (some ⟨B, 0, none⟩) n cap) ∧ w'.cell? ⟨w2.heap.size, 1, none⟩ = some (.int .i64 x) ∧ w'.cell? ⟨w2.heap.size, 2, none⟩ = some (.int .i64 y) ∧ w'.cell? ⟨w2.heap.size, 3, none⟩ = some (.int .i64 s)) w') => (HZ.out w' (K4.out.below h.1 K4.out.1)).mono fun e w'' ⟨he, hB⟩ => And.intro he (held4 R3.out (h.1.trans (hB.mono h.1.size))))
            have r3 := R3.out
            have c0 := r3.cell 0; have c1 := r3.cell 1; have c2 := r3.cell 2; have c3 := r3.cell 3
            simp only [List.getElem?_cons_zero, List.getElem?_cons_succ] at c0 c1 c2 c3
            clear r3
            go_wp2_with fail
            go_region_held3 (fun w' : World => Below w3.heap.size w3 w' ∧ w'.cell? ⟨w2.heap.size, 0, none⟩ = some (.slice (some ⟨B, 0, none⟩) n cap) ∧ w'.cell? ⟨w2.heap.size, 1, none⟩ = some (.int .i64 x) ∧ w'.cell? ⟨w2.heap.size, 2, none⟩ = some (.int .i64 y) ∧ w'.cell? ⟨w2.heap.size, 3, none⟩ = some (.int .i64 s)) (first | assumption | exact HS0.out)
              ((first | (go_at_call 21; refine (HA2.out _ (by assumption)).mono ?_; rintro e w4 ⟨rfl, hw⟩) | (go_at_call 22; refine (HZ2.out _ (by assumption)).mono ?_; rintro e w4 ⟨rfl, hw⟩)))
            clear c0 c1 c2 c3
            have b5 := hid (b4.out.trans (hw.1.mono b4.out.size))
            have R4 := hid (R3.out.below hw.1 R3.out.lt)
            have K5 := hid (K4.out.below hw.1 K4.out.1)
            have HZ3 := hid (fun (w' : World) (h : Below w4.heap.size w4 w') => HZ.out w' (K5.out.below h K5.out.1))
            clear hw
            go_upto_region 8 with fail
            go_cut [10] (fun s10 wx => ∃ (g : Nat) (X : World), X = wx ∧ s10 = .pointer (some ⟨g, 0, none⟩) ∧ Row X g 52 [.int .i64 LO, .int .i64 (HI + 1)] ∧ Below w4.heap.size w4 X)
            case first =>
              have r4 := R4.out
              have lg := r4.lt
              have c0 := r4.cell 0; have c1 := r4.cell 1; have c2 := r4.cell 2; have c3 := r4.cell 3
              simp only [List.getElem?_cons_zero, List.getElem?_cons_succ] at c0 c1 c2 c3
              have hb0 := Below.refl w4.heap.size w4
              clear r4
              have SOF := hid (fun (v : World) (h : Below w4.heap.size w4 v) => (And.intro ((h.cell (p := ⟨w2.heap.size, 0, none⟩) lg).trans c0) (And.intro ((h.cell (p := ⟨w2.heap.size, 1, none⟩) lg).trans c1) (And.intro ((h.cell (p := ⟨w2.heap.size, 2, none⟩) lg).trans c2) ((h.cell (p := ⟨w2.heap.size, 3, none⟩) lg).trans c3)))))
              go_region_held3 (fun w' => w'.cell? ⟨w2.heap.size, 0, none⟩ = some (.slice (some ⟨B, 0, none⟩) n cap) ∧ w'.cell? ⟨w2.heap.size, 1, none⟩ = some (.int .i64 x) ∧ w'.cell? ⟨w2.heap.size, 2, none⟩ = some (.int .i64 y) ∧ w'.cell? ⟨w2.heap.size, 3, none⟩ = some (.int .i64 s)) (exact SOF.out _ (by (repeat (first | assumption | refine Below.drew ?_ | refine Below.setCell ?_ (by first | omega | (simp; done) | (simp; omega)) _ | refine Below.alloc ?_ (by first | omega | (simp; done) | (simp; omega)) _))))
                ((first | (go_at_call 25; have _t := hb1; (with_reducible refine (HF.out _).mono ?_); rintro e v2 ⟨rfl, hB2⟩; have hb2 : Below w4.heap.size w4 v2 := bel_step (by (repeat (first | assumption | refine Below.drew ?_ | refine Below.setCell ?_ (by first | omega | (simp; done) | (simp; omega)) _ | refine Below.alloc ?_ (by first | omega | (simp; done) | (simp; omega)) _))) hB2; have hz2 := hb2.size; have hy2 := hB2.size; (try simp only [World.size_drew, World.size_alloc] at hy2); (first | (have rb1 := Row.below rb1 hB2 (by first | omega | (simp; done) | (simp; omega))) | (have rb1 := Row.below (Row.new _ 52 [.int .i64 0, .int .i64 0]) hB2 (by first | omega | (simp; done) | (simp; omega))) | (have rb1 := Row.below (Row.drewN (Row.new _ 52 [.int .i64 0, .int .i64 0]) 1) hB2 (by first | omega | (simp; done) | (simp; omega))) | skip); (try (have cb10 := rb1.cell 0; have cb11 := rb1.cell 1; have fb10 := rb1.frozen 0; have fb11 := rb1.frozen 1; simp only [List.getElem?_cons_zero, List.getElem?_cons_succ] at cb10 cb11))) | (go_at_call 22; have _t := hb0; (with_reducible refine (HZ3.out _ (by (repeat (first | assumption | refine Below.drew ?_ | refine Below.setCell ?_ (by first | omega | (simp; done) | (simp; omega)) _ | refine Below.alloc ?_ (by first | omega | (simp; done) | (simp; omega)) _)))).mono ?_); rintro e v1 ⟨rfl, hB1⟩; have hb1 : Below w4.heap.size w4 v1 := bel_step (by (repeat (first | assumption | refine Below.drew ?_ | refine Below.setCell ?_ (by first | omega | (simp; done) | (simp; omega)) _ | refine Below.alloc ?_ (by first | omega | (simp; done) | (simp; omega)) _))) hB1; have hz1 := hb1.size; have hy1 := hB1.size; (try simp only [World.size_drew, World.size_alloc] at hy1); (first | (have rb1 := Row.below rb1 hB1 (by first | omega | (simp; done) | (simp; omega))) | (have rb1 := Row.below (Row.new _ 52 [.int .i64 0, .int .i64 0]) hB1 (by first | omega | (simp; done) | (simp; omega))) | (have rb1 := Row.below (Row.drewN (Row.new _ 52 [.int .i64 0, .int .i64 0]) 1) hB1 (by first | omega | (simp; done) | (simp; omega))) | skip); (try (have cb10 := rb1.cell 0; have cb11 := rb1.cell 1; have fb10 := rb1.frozen 0; have fb11 := rb1.frozen 1; simp only [List.getElem?_cons_zero, List.getElem?_cons_succ] at cb10 cb11)))))
              all_goals (go_wp2_with fail)
              all_goals go_meet
              all_goals exact ⟨_, _, rfl, rfl, by (repeat (first | exact Row.new _ _ _ | exact rb1 | exact rb2 | apply Row.set2 | refine Row.alloc ?_ _ | refine Row.other ?_ (by first | omega | (simp; done) | (simp; omega)) _ | exact (Row.drewN (Row.new _ _ _) 1))), by (repeat (first | assumption | refine Below.drew ?_ | refine Below.setCell ?_ (by first | omega | (simp; done) | (simp; omega)) _ | refine Below.alloc ?_ (by first | omega | (simp; done) | (simp; omega)) _))⟩
            case rest =>
              obtain ⟨g, X, rfl, rfl, hrow, hBX⟩ := hcut
              have b6 := hid (b5.out.trans (hBX.mono b5.out.size))
              have k0 := hrow.cell 0; have k1 := hrow.cell 1
              simp only [List.getElem?_cons_zero, List.getElem?_cons_succ] at k0 k1
              clear hrow hBX
              go_wp2_with fail
              go_quiet (fail)
              go_wp2_with fail
              go_ret3
              exact ⟨rfl, below_drewN b6.out _⟩
          · have hfl : flwA zs x y s r v = (0, 0, 6) := by
              by_cases h5 : 0 ≤ flwC zs s r v ∧ flwC zs s r v ≤ flwM x y
              · exact flwA_none hv hf h2 h3 h5 (by omega)
              · exact flwA_count hv hf h2 h3 h5
            have f1 := flow_none (c := flwC zs s r v) ⟨x1, x2⟩ ⟨y1, y2⟩ b7 (by omega)
            rw [hfl]
            obtain ⟨C, hC⟩ : ∃ C, flwC zs s r v = C := ⟨_, rfl⟩
            have hC2 : r * szL zs + v - s = C := hC
            rw [hC] at HF f1 b5
            have mq := quo_bd (X := 1000000000000 * x) (y := y) (by omega) y1
            have m0 : 0 ≤ flwM x y := mq.2.1
            have m1 : flwM x y ≤ 1000000000000 * x := mq.2.2
            rw [show 1000000000000 * x / y = flwM x y from rfl] at HA
            obtain ⟨z, hz⟩ : ∃ z, szL zs = z := ⟨_, rfl⟩
            rw [hz] at HZ z1 z2 s2 h3 hC2 b3 b4 HF
            obtain ⟨t, ht⟩ : ∃ t, s + flwM x y = t := ⟨_, rfl⟩
            obtain ⟨d1, d2, d3⟩ := quo_bd (X := t) (y := z) (by omega) z1
            rw [ht] at h3 HA
            obtain ⟨u, hu⟩ : ∃ u, t / z = u := ⟨_, rfl⟩
            rw [hu] at d1 d2 d3 h3
            have tt : IntKind.i64.wrap t = t := IntWalk.i64_in _ (by omega)
            have tu : IntKind.i64.wrap u = u := IntWalk.i64_in _ (by omega)
            have nz : z ≠ 0 := by omega
            obtain ⟨P, hP⟩ : ∃ P, r * z = P := ⟨_, rfl⟩
            rw [hP] at b3 b4 hC2 HF
            have tP : IntKind.i64.wrap P = P := IntWalk.i64_in _ (by omega)
            have tP2 : IntKind.i64.wrap (P + v) = P + v := IntWalk.i64_in _ (by omega)
            have h3' : u ≥ r := by omega
            have hPP := hid hP
            obtain ⟨LO, hLO⟩ : ∃ l, max 0 (ceilI (C * y) x) = l := ⟨_, rfl⟩
            obtain ⟨HI, hHI⟩ : ∃ l, min 1000000000001 (ceilI ((C + 1) * y) x) = l := ⟨_, rfl⟩
            rw [hLO, hHI] at HF
            rw [hLO, hHI] at f1
            clear HY HX hv hf h2 mq m0 m1 hz ht hu d2 d3 h0 h1 x1 x2 y1 y2 s1 s2 z1 z2 hok b2 b3 b4 b5 b6 b7 h4 hC hC2 hLO hHI hfl b1
            go_enter Try.func11, Try.ntmps11
            go_wp2_with fail
            rw [← HW.out]
            refine H.out.mono ?_
            rintro e w1 ⟨rfl, hB⟩
            have r1 := R.out.below hB lt
            have b1 := hid (BE.out.trans (hB.mono BE.out.size))
            have K1 := hid (HK.out.below hB HK.out.1)
            clear c0 c1 c2 c3 hB
            have c0 := r1.cell 0; have c1 := r1.cell 1; have c2 := r1.cell 2; have c3 := r1.cell 3
            simp only [List.getElem?_cons_zero, List.getElem?_cons_succ] at c0 c1 c2 c3
            clear r1
            go_wp2_with fail
            refine (gauge_any B n cap x y s _).mono ?_
            rintro e w2 ⟨rfl, hB⟩
            have b2 := hid (b1.out.trans (hB.mono b1.out.size))
            have K2 := hid (K1.out.below hB K1.out.1)
            clear c0 c1 c2 c3 hB
            obtain ⟨V, hV⟩ : ∃ V, V = w2.alloc (.cells #[.slice (some ⟨B, 0, none⟩) n cap, .int .i64 x, .int .i64 y, .int .i64 s] 45) := ⟨_, rfl⟩
            have bV : Below w2.heap.size w2 V := by rw [hV]; exact box4_belM _ _ _ _ _ _
            have rV : Row V w2.heap.size 45 [.slice (some ⟨B, 0, none⟩) n cap, .int .i64 x, .int .i64 y, .int .i64 s] := by rw [hV]; exact Row.new _ _ _
            have b3 := hid (b2.out.trans (bV.mono b2.out.size))
            have K3 := hid (K2.out.below bV K2.out.1)
            have c0 := rV.cell 0; have c1 := rV.cell 1; have c2 := rV.cell 2; have c3 := rV.cell 3
            simp only [List.getElem?_cons_zero, List.getElem?_cons_succ] at c0 c1 c2 c3
            have HVV := hid hV
            have RV := hid rV
            clear rV bV hV
            go_wp2_with fail
            rw [← HVV.out]
            refine (HC.out _).mono ?_
            rintro e w3 ⟨rfl, rfl⟩
            go_wp2_with fail
            refine (HV.out _ K3.out).mono ?_
            rintro e w3 ⟨rfl, hB⟩
            have b4 := hid (b3.out.trans (hB.mono b3.out.size))
            have K4 := hid (K3.out.below hB K3.out.1)
            have R3 := hid (RV.out.below hB RV.out.lt)
            clear c0 c1 c2 c3 hB
            have HS0 := hid (held4 R3.out (Below.refl _ _).drew)
            have HA2 := hid (fun (w' : World) (h : (fun w' : World => Below w3.heap.size w3 w' ∧ w'.cell? ⟨w2.heap.size, 0, none⟩ = some (.slice (some ⟨B, 0, none⟩) n cap) ∧ w'.cell? ⟨w2.heap.size, 1, none⟩ = some (.int .i64 x) ∧ w'.cell? ⟨w2.heap.size, 2, none⟩ = some (.int .i64 y) ∧ w'.cell? ⟨w2.heap.size, 3, none⟩ = some (.int .i64 s)) w') => (HA.out w').mono fun e w'' ⟨he, hB⟩ => And.intro he (held4 R3.out (h.1.trans (hB.mono h.1.size))))
            have HZ2 := hid (fun (w' : World) (h : (fun w' : World => Below w3.heap.size w3 w' ∧ w'.cell? ⟨w2.heap.size, 0, none⟩ = some (.slice (some ⟨B, 0, none⟩) n cap) ∧ w'.cell? ⟨w2.heap.size, 1, none⟩ = some (.int .i64 x) ∧ w'.cell? ⟨w2.heap.size, 2, none⟩ = some (.int .i64 y) ∧ w'.cell? ⟨w2.heap.size, 3, none⟩ = some (.int .i64 s)) w') => (HZ.out w' (K4.out.below h.1 K4.out.1)).mono fun e w'' ⟨he, hB⟩ => And.intro he (held4 R3.out (h.1.trans (hB.mono h.1.size))))
            have r3 := R3.out
            have c0 := r3.cell 0; have c1 := r3.cell 1; have c2 := r3.cell 2; have c3 := r3.cell 3
            simp only [List.getElem?_cons_zero, List.getElem?_cons_succ] at c0 c1 c2 c3
            clear r3
            go_wp2_with fail
            go_region_held3 (fun w' : World => Below w3.heap.size w3 w' ∧ w'.cell? ⟨w2.heap.size, 0, none⟩ = some (.slice (some ⟨B, 0, none⟩) n cap) ∧ w'.cell? ⟨w2.heap.size, 1, none⟩ = some (.int .i64 x) ∧ w'.cell? ⟨w2.heap.size, 2, none⟩ = some (.int .i64 y) ∧ w'.cell? ⟨w2.heap.size, 3, none⟩ = some (.int .i64 s)) (first | assumption | exact HS0.out)
              ((first | (go_at_call 21; refine (HA2.out _ (by assumption)).mono ?_; rintro e w4 ⟨rfl, hw⟩) | (go_at_call 22; refine (HZ2.out _ (by assumption)).mono ?_; rintro e w4 ⟨rfl, hw⟩)))
            clear c0 c1 c2 c3
            have b5 := hid (b4.out.trans (hw.1.mono b4.out.size))
            have R4 := hid (R3.out.below hw.1 R3.out.lt)
            have K5 := hid (K4.out.below hw.1 K4.out.1)
            have HZ3 := hid (fun (w' : World) (h : Below w4.heap.size w4 w') => HZ.out w' (K5.out.below h K5.out.1))
            clear hw
            go_upto_region 8 with fail
            go_cut [10] (fun s10 wx => ∃ (g : Nat) (X : World), X = wx ∧ s10 = .pointer (some ⟨g, 0, none⟩) ∧ Row X g 52 [.int .i64 LO, .int .i64 HI] ∧ Below w4.heap.size w4 X)
            case first =>
              have r4 := R4.out
              have lg := r4.lt
              have c0 := r4.cell 0; have c1 := r4.cell 1; have c2 := r4.cell 2; have c3 := r4.cell 3
              simp only [List.getElem?_cons_zero, List.getElem?_cons_succ] at c0 c1 c2 c3
              have hb0 := Below.refl w4.heap.size w4
              clear r4
              have SOF := hid (fun (v : World) (h : Below w4.heap.size w4 v) => (And.intro ((h.cell (p := ⟨w2.heap.size, 0, none⟩) lg).trans c0) (And.intro ((h.cell (p := ⟨w2.heap.size, 1, none⟩) lg).trans c1) (And.intro ((h.cell (p := ⟨w2.heap.size, 2, none⟩) lg).trans c2) ((h.cell (p := ⟨w2.heap.size, 3, none⟩) lg).trans c3)))))
              go_region_held3 (fun w' => w'.cell? ⟨w2.heap.size, 0, none⟩ = some (.slice (some ⟨B, 0, none⟩) n cap) ∧ w'.cell? ⟨w2.heap.size, 1, none⟩ = some (.int .i64 x) ∧ w'.cell? ⟨w2.heap.size, 2, none⟩ = some (.int .i64 y) ∧ w'.cell? ⟨w2.heap.size, 3, none⟩ = some (.int .i64 s)) (exact SOF.out _ (by (repeat (first | assumption | refine Below.drew ?_ | refine Below.setCell ?_ (by first | omega | (simp; done) | (simp; omega)) _ | refine Below.alloc ?_ (by first | omega | (simp; done) | (simp; omega)) _))))
                ((first | (go_at_call 25; have _t := hb1; (with_reducible refine (HF.out _).mono ?_); rintro e v2 ⟨rfl, hB2⟩; have hb2 : Below w4.heap.size w4 v2 := bel_step (by (repeat (first | assumption | refine Below.drew ?_ | refine Below.setCell ?_ (by first | omega | (simp; done) | (simp; omega)) _ | refine Below.alloc ?_ (by first | omega | (simp; done) | (simp; omega)) _))) hB2; have hz2 := hb2.size; have hy2 := hB2.size; (try simp only [World.size_drew, World.size_alloc] at hy2); (first | (have rb1 := Row.below rb1 hB2 (by first | omega | (simp; done) | (simp; omega))) | (have rb1 := Row.below (Row.new _ 52 [.int .i64 0, .int .i64 0]) hB2 (by first | omega | (simp; done) | (simp; omega))) | (have rb1 := Row.below (Row.drewN (Row.new _ 52 [.int .i64 0, .int .i64 0]) 1) hB2 (by first | omega | (simp; done) | (simp; omega))) | skip); (try (have cb10 := rb1.cell 0; have cb11 := rb1.cell 1; have fb10 := rb1.frozen 0; have fb11 := rb1.frozen 1; simp only [List.getElem?_cons_zero, List.getElem?_cons_succ] at cb10 cb11))) | (go_at_call 22; have _t := hb0; (with_reducible refine (HZ3.out _ (by (repeat (first | assumption | refine Below.drew ?_ | refine Below.setCell ?_ (by first | omega | (simp; done) | (simp; omega)) _ | refine Below.alloc ?_ (by first | omega | (simp; done) | (simp; omega)) _)))).mono ?_); rintro e v1 ⟨rfl, hB1⟩; have hb1 : Below w4.heap.size w4 v1 := bel_step (by (repeat (first | assumption | refine Below.drew ?_ | refine Below.setCell ?_ (by first | omega | (simp; done) | (simp; omega)) _ | refine Below.alloc ?_ (by first | omega | (simp; done) | (simp; omega)) _))) hB1; have hz1 := hb1.size; have hy1 := hB1.size; (try simp only [World.size_drew, World.size_alloc] at hy1); (first | (have rb1 := Row.below rb1 hB1 (by first | omega | (simp; done) | (simp; omega))) | (have rb1 := Row.below (Row.new _ 52 [.int .i64 0, .int .i64 0]) hB1 (by first | omega | (simp; done) | (simp; omega))) | (have rb1 := Row.below (Row.drewN (Row.new _ 52 [.int .i64 0, .int .i64 0]) 1) hB1 (by first | omega | (simp; done) | (simp; omega))) | skip); (try (have cb10 := rb1.cell 0; have cb11 := rb1.cell 1; have fb10 := rb1.frozen 0; have fb11 := rb1.frozen 1; simp only [List.getElem?_cons_zero, List.getElem?_cons_succ] at cb10 cb11)))))
              all_goals (go_wp2_with fail)
              all_goals go_meet
              all_goals exact ⟨_, _, rfl, rfl, by (repeat (first | exact Row.new _ _ _ | exact rb1 | exact rb2 | apply Row.set2 | refine Row.alloc ?_ _ | refine Row.other ?_ (by first | omega | (simp; done) | (simp; omega)) _ | exact (Row.drewN (Row.new _ _ _) 1))), by (repeat (first | assumption | refine Below.drew ?_ | refine Below.setCell ?_ (by first | omega | (simp; done) | (simp; omega)) _ | refine Below.alloc ?_ (by first | omega | (simp; done) | (simp; omega)) _))⟩
            case rest =>
              obtain ⟨g, X, rfl, rfl, hrow, hBX⟩ := hcut
              have b6 := hid (b5.out.trans (hBX.mono b5.out.size))
              have k0 := hrow.cell 0; have k1 := hrow.cell 1
              simp only [List.getElem?_cons_zero, List.getElem?_cons_succ] at k0 k1
              clear hrow hBX
              go_wp2_with fail
              go_ret3
              exact ⟨rfl, b6.out⟩
      · rw [flwA_value hv hf h2]
        have HV := hid (fun w h => HX.out w h (by omega))
        clear HY HX hv hf HZ h2
        go_enter Try.func11, Try.ntmps11
        go_wp2_with fail
        rw [← HW.out]
        refine H.out.mono ?_
        rintro e w1 ⟨rfl, hB⟩
        have r1 := R.out.below hB lt
        have b1 := hid (BE.out.trans (hB.mono BE.out.size))
        have K1 := hid (HK.out.below hB HK.out.1)
        clear c0 c1 c2 c3 hB
        have c0 := r1.cell 0; have c1 := r1.cell 1; have c2 := r1.cell 2; have c3 := r1.cell 3
        simp only [List.getElem?_cons_zero, List.getElem?_cons_succ] at c0 c1 c2 c3
        clear r1
        go_wp2_with fail
        refine (gauge_any B n cap x y s _).mono ?_
        rintro e w2 ⟨rfl, hB⟩
        have b2 := hid (b1.out.trans (hB.mono b1.out.size))
        have K2 := hid (K1.out.below hB K1.out.1)
        clear c0 c1 c2 c3 hB
        obtain ⟨V, hV⟩ : ∃ V, V = w2.alloc (.cells #[.slice (some ⟨B, 0, none⟩) n cap, .int .i64 x, .int .i64 y, .int .i64 s] 45) := ⟨_, rfl⟩
        have bV : Below w2.heap.size w2 V := by rw [hV]; exact box4_belM _ _ _ _ _ _
        have rV : Row V w2.heap.size 45 [.slice (some ⟨B, 0, none⟩) n cap, .int .i64 x, .int .i64 y, .int .i64 s] := by rw [hV]; exact Row.new _ _ _
        have b3 := hid (b2.out.trans (bV.mono b2.out.size))
        have K3 := hid (K2.out.below bV K2.out.1)
        have c0 := rV.cell 0; have c1 := rV.cell 1; have c2 := rV.cell 2; have c3 := rV.cell 3
        simp only [List.getElem?_cons_zero, List.getElem?_cons_succ] at c0 c1 c2 c3
        have HVV := hid hV
        have RV := hid rV
        clear rV bV hV
        go_wp2_with fail
        rw [← HVV.out]
        refine (HC.out _).mono ?_
        rintro e w3 ⟨rfl, rfl⟩
        go_wp2_with fail
        refine (HV.out _ K3.out).mono ?_
        rintro e w3 ⟨rfl, hB⟩
        have b4 := hid (b3.out.trans (hB.mono b3.out.size))
        go_wp2_with fail
        go_ret3
        exact ⟨rfl, b4.out⟩
    · rw [flwA_range hv hf]
      rw [in_no hf] at HC
      clear HY HX hv hf HZ
      go_enter Try.func11, Try.ntmps11
      go_wp2_with fail
      rw [← HW.out]
      refine H.out.mono ?_
      rintro e w1 ⟨rfl, hB⟩
      have r1 := R.out.below hB lt
      have b1 := hid (BE.out.trans (hB.mono BE.out.size))
      have K1 := hid (HK.out.below hB HK.out.1)
      clear c0 c1 c2 c3 hB
      have c0 := r1.cell 0; have c1 := r1.cell 1; have c2 := r1.cell 2; have c3 := r1.cell 3
      simp only [List.getElem?_cons_zero, List.getElem?_cons_succ] at c0 c1 c2 c3
      clear r1
      go_wp2_with fail
      refine (gauge_any B n cap x y s _).mono ?_
      rintro e w2 ⟨rfl, hB⟩
      have b2 := hid (b1.out.trans (hB.mono b1.out.size))
      have K2 := hid (K1.out.below hB K1.out.1)
      clear c0 c1 c2 c3 hB
      obtain ⟨V, hV⟩ : ∃ V, V = w2.alloc (.cells #[.slice (some ⟨B, 0, none⟩) n cap, .int .i64 x, .int .i64 y, .int .i64 s] 45) := ⟨_, rfl⟩
      have bV : Below w2.heap.size w2 V := by rw [hV]; exact box4_belM _ _ _ _ _ _
      have rV : Row V w2.heap.size 45 [.slice (some ⟨B, 0, none⟩) n cap, .int .i64 x, .int .i64 y, .int .i64 s] := by rw [hV]; exact Row.new _ _ _
      have b3 := hid (b2.out.trans (bV.mono b2.out.size))
      have K3 := hid (K2.out.below bV K2.out.1)
      have c0 := rV.cell 0; have c1 := rV.cell 1; have c2 := rV.cell 2; have c3 := rV.cell 3
      simp only [List.getElem?_cons_zero, List.getElem?_cons_succ] at c0 c1 c2 c3
      have HVV := hid hV
      have RV := hid rV
      clear rV bV hV
      go_wp2_with fail
      rw [← HVV.out]
      refine (HC.out _).mono ?_
      rintro e w3 ⟨rfl, rfl⟩
      go_wp2_with fail
      go_ret3
      exact ⟨rfl, b3.out⟩
end Go.Proofs.Ytoenpfjnjpgbfaa
