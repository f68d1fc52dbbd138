/- The law on meters. -/
import Derived.Test.YtoenpfjnjpgbfaaFmeS
import Derived.Test.YtoenpfjnjpgbfaaMetH
import Derived.Test.YtoenpfjnjpgbfaaMetV
namespace Go.Proofs.Ytoenpfjnjpgbfaa
open Go.RowKit
set_option linter.unusedVariables false
set_option linter.unusedSimpArgs false
theorem mul_small {a b A B : Int} (h0 : 0 ≤ a) (h1 : a ≤ A) (h2 : 0 ≤ b) (h3 : b ≤ B) : a * b ≤ A * B := Int.mul_le_mul h1 h3 h2 (by omega)
set_option maxRecDepth 100000 in
set_option maxHeartbeats 4000000 in
theorem law_FnMeters_in (a : Option Addr) (len cap : Nat) (zs : List Int) (a' : Option Addr) (len' cap' : Nat) (zs' : List Int) (w : World) (h : InB w a len zs) (h' : InB w a' len' zs') (hl : len ≤ 3000) (hl' : len' ≤ 3000) :
    Calls Try.prog 3 #[.slice a len cap, .slice a' len' cap'] w fun e w' => e = .returned (.bool true) ∧ Below w.heap.size w w' := by
  have H2 := hid h'
  have F1 := hid (a2Long_no a len cap a' len' cap' w hl hl')
  have MET := hid (a2Meter_any a len cap zs w h (by omega))
  have AT1 := hid (fun (W : World) (hI : InB W a' len' zs') => show Calls Try.prog 6 #[.slice a' len' cap', .int .i64 0, .int .i64 256] W (NumIn 0 256 W) from a2At_any a' len' cap' zs' 0 256 W hI hl' (by omega) (by omega))
  clear h h' hl hl'
  go_enter Try.func3, Try.ntmps3
  go_wp2_with fail
  with_reducible refine F1.out.mono ?_
  rintro e w1 ⟨rfl, hw⟩
  subst hw
  go_wp2_with fail
  with_reducible refine MET.out.mono ?_
  rintro e w1 ⟨Z, x, y, s, B, rfl, hZ, hx, hy, hs, hst, hB⟩
  obtain ⟨n, hn⟩ : ∃ n, Z.length = n := ⟨_, rfl⟩
  rw [hn]
  have hok : okL Z = true := by rcases hZ with rfl | rfl <;> decide
  have hz : szL Z = 100 ∨ szL Z = 72 := by rcases hZ with rfl | rfl <;> decide
  have hme : okMe Z x y s = true := okMe_yes hok ⟨hx.1, by omega, hy.1, by omega, hs.1, hs.2⟩
  have rM := Row.new w1 26 [.slice (some ⟨B, 0, none⟩) n n, .int .i64 x, .int .i64 y, .int .i64 s]
  have a2 : Below w1.heap.size w1 (w1.alloc (.cells #[.slice (some ⟨B, 0, none⟩) n n, .int .i64 x, .int .i64 y, .int .i64 s] 26)) := (Below.refl _ _).alloc (Nat.le_refl _) _
  have b2 := hB.trans (a2.mono hB.size)
  have st2 := hst.below a2 hst.1
  obtain ⟨V2, hV2⟩ : ∃ X, X = w1.alloc (.cells #[.slice (some ⟨B, 0, none⟩) n n, .int .i64 x, .int .i64 y, .int .i64 s] 26) := ⟨_, rfl⟩
  obtain ⟨M, hM⟩ : ∃ M, w1.heap.size = M := ⟨_, rfl⟩
  rw [← hV2] at rM b2 st2
  rw [hM] at rM
  have hV := hV2
  have HV2 := hid hV2; have RM := hid rM; have HST := hid st2; have HLT := hid st2.1; have B2 := hid b2; have HME := hid hme; have HOK := hid hok; have HN := hid hn.symm; have HX := hid hx; have HY := hid hy; have HS := hid hs; have HZ := hid hz
  clear hZ hx hy hs hst hB hn hok hz hme rM a2 b2 st2 hV2 hV MET F1
  go_upto_region 4 with fail
  rw [← HV2.out]
  have q : Below V2.heap.size V2 V2 := Below.refl _ _
  go_wp2_with fail
  with_reducible refine (AT1.out V2 (H2.out.below B2.out (Nat.le_refl _))).mono ?_
  rintro e W2 ⟨t, t0, t1, rfl, hw⟩
  subst hw
  have wf : IntKind.i64.wrap (5 * t) = 5 * t := IntWalk.i64_in _ (by omega)
  have fb0 : 0 ≤ 5 * t ∧ 5 * t ≤ 1275 := by omega
  obtain ⟨f, hf⟩ : ∃ f, 5 * t = f := ⟨_, rfl⟩
  rw [hf] at wf fb0
  have FB := hid fb0
  -- the numbers
  have hc := flow_cnt (x := x) (y := y) (f := f) HX.out.1 HY.out.1 fb0.1
  have hd := due_bd (z := szL Z) (s := s) (x := x) (y := y) (f := f) (by have := HZ.out; omega) HS.out.1 HX.out.1 HY.out.1 fb0.1
  have ham := flow_among (x := x) (y := y) (f := f) HX.out.1 HY.out.1 ⟨fb0.1, by omega⟩
  have hlf := low_facts (x := x) (y := y) (c := f * x / y) HX.out.1 HY.out.1 hc.1
  have hhf := high_facts (x := x) (y := y) (c := f * x / y) HX.out.1 HY.out.1 hc.1
  have hel := edge_low (x := x) (y := y) (f := f) HX.out.1 HY.out.1 ⟨fb0.1, by omega⟩
  have heh := edge_high (x := x) (y := y) (f := f) HX.out.1 HY.out.1 ⟨fb0.1, by omega⟩
  have hol := out_low (x := x) (y := y) (f := f) HX.out.1 HY.out.1 ⟨fb0.1, by omega⟩
  have hoh := out_high (x := x) (y := y) (f := f) HX.out.1 HY.out.1 ⟨fb0.1, by omega⟩
  have hfx := mul_small (A := 1275) (B := 9) fb0.1 fb0.2 (show 0 ≤ x by have := HX.out; omega) HX.out.2
  have hcy0 : 0 ≤ f * x / y * y := Int.mul_nonneg hc.1 (by have := HY.out; omega)
  have hc1y : (f * x / y + 1) * y = f * x / y * y + y := by rw [Int.add_mul, Int.one_mul]
  have HSZ := hid (fun W (hS : Stk W B Z) => specSizeOf_any B n n Z W hS HN.out)
  have hsr : sizeR Z = (szL Z, 0) := by unfold sizeR; rw [HOK.out]; rfl
  rw [hsr] at HSZ
  have HCA := hid (fun W (hS : Stk W B Z) => implCountAfter_any B n n Z x y s f W hS HN.out)
  rw [cntA_yes HME.out ⟨fb0.1, by omega⟩] at HCA
  have HSE := hid (fun (g : Int) (hg : 0 ≤ g ∧ g ≤ 1000000000000) W (hS : Stk W B Z) => show Calls Try.prog 9 #[.agg #[.slice (some ⟨B, 0, none⟩) n n, .int .i64 x, .int .i64 y, .int .i64 s], .int .i64 g] W (GivesB W (.tuple #[.int .i64 ((s + g * x / y) % szL Z), .int .i64 ((s + g * x / y) / szL Z), .int .i64 0])) from by
    have := implShowsAfter_any B n n Z x y s g W hS HN.out
    rw [shwA_yes HME.out hg] at this
    exact this)
  have HSI := hid (HSE.out f ⟨fb0.1, by omega⟩)
  have HSS := hid (fun W (hS : Stk W B Z) => specShowsAfter_any B n n Z x y s f W hS HN.out)
  rw [shwA_yes HME.out ⟨fb0.1, by omega⟩] at HSS
  have i64D : I64 (due (szL Z) s x y f) := by unfold I64; have := HZ.out; omega
  have HFI := hid (fun W (hS : Stk W B Z) => implFlowsFor_any B n n Z x y s (whl (szL Z) s x y f) (due (szL Z) s x y f) i64D W hS HN.out)
  rw [flw_found HME.out ⟨fb0.1, by omega⟩] at HFI
  have HFS := hid (fun W (hS : Stk W B Z) => specFlowsFor_any B n n Z x y s (whl (szL Z) s x y f) (due (szL Z) s x y f) i64D W hS HN.out)
  rw [flw_found HME.out ⟨fb0.1, by omega⟩] at HFS
  have HVM := hid (fun W (hS : Stk W B Z) => implValidMeter_any B n n Z x y s W hS HN.out)
  rw [HME.out] at HVM
  have hone := fun (g : Int) (h1 : (s + g * x / y) % szL Z = due (szL Z) s x y f) (h2 : (s + g * x / y) / szL Z = whl (szL Z) s x y f) => shown_one (z := szL Z) (a := s + g * x / y) (b := s + f * x / y) h1 h2
  have hdd : (s + f * x / y) % szL Z = due (szL Z) s x y f := rfl
  have hww : (s + f * x / y) / szL Z = whl (szL Z) s x y f := rfl
  rw [hdd, hww] at HSI HSS
  obtain ⟨D, hD⟩ : ∃ D, due (szL Z) s x y f = D := ⟨_, rfl⟩
  obtain ⟨Wh, hWh⟩ : ∃ D, whl (szL Z) s x y f = D := ⟨_, rfl⟩
  rw [hD, hWh] at HSI HSS HFI HFS hd
  rw [hD] at hone hdd
  rw [hWh] at hone hww
  have wzb : 0 ≤ Wh * szL Z := Int.mul_nonneg hd.2.2.1 (by have := HZ.out; omega)
  obtain ⟨c, hcc⟩ : ∃ c, f * x / y = c := ⟨_, rfl⟩
  rw [hcc] at hc hd ham hlf hhf hel heh hol hoh hcy0 hc1y HCA HFI HFS hdd hww hone
  obtain ⟨L, hL⟩ : ∃ L, flwL x y c = L := ⟨_, rfl⟩
  obtain ⟨Hh, hHh⟩ : ∃ L, flwH x y c = L := ⟨_, rfl⟩
  rw [hL] at ham hlf hel hol HFI HFS
  rw [hHh] at ham hhf heh hoh HFI HFS
  have HEL := hid (HSE.out L ⟨hlf.1, by omega⟩)
  rw [hel, hdd, hww] at HEL
  have HEH := hid (HSE.out Hh ⟨by omega, hhf.2.1⟩)
  rw [heh, hdd, hww] at HEH
  have HOL := hid (fun (h1 : (s + (L - 1) * x / y) % szL Z = D) (h2 : (s + (L - 1) * x / y) / szL Z = Wh) => hol (by have := hone (L - 1) h1 h2; omega))
  have HOH := hid (fun (h0 : Hh + 1 ≤ 1000000000000) (h1 : (s + (Hh + 1) * x / y) % szL Z = D) (h2 : (s + (Hh + 1) * x / y) / szL Z = Wh) => hoh h0 (by have := hone (Hh + 1) h1 h2; omega))
  have LB := hid (show 0 ≤ L ∧ L ≤ 1275 by omega); have HB := hid (show 0 ≤ Hh ∧ Hh ≤ 1000000000000 by have := hhf.2.1; omega)
  obtain ⟨z, hzz⟩ : ∃ z, szL Z = z := ⟨_, rfl⟩
  have hz2 := HZ.out
  rw [hzz] at HSZ hd wzb hz2 HSE HOL HOH
  obtain ⟨FX, hFX⟩ : ∃ P, f * x = P := ⟨_, rfl⟩
  obtain ⟨CY, hCY⟩ : ∃ P, c * y = P := ⟨_, rfl⟩
  obtain ⟨C1, hC1⟩ : ∃ P, (c + 1) * y = P := ⟨_, rfl⟩
  obtain ⟨WZ, hWZ⟩ : ∃ P, Wh * z = P := ⟨_, rfl⟩
  rw [hFX] at hc hfx
  rw [hCY] at hc hcy0 hc1y
  rw [hC1] at hc hc1y
  rw [hWZ] at hd wzb
  have yb := HY.out; have xb := HX.out; have sb := HS.out
  rw [hzz] at sb
  have w1' : IntKind.i64.wrap CY = CY := IntWalk.i64_in _ (by omega)
  have w2' : IntKind.i64.wrap FX = FX := IntWalk.i64_in _ (by omega)
  have w3' : IntKind.i64.wrap (c + 1) = c + 1 := IntWalk.i64_in _ (by omega)
  have w4' : IntKind.i64.wrap C1 = C1 := IntWalk.i64_in _ (by omega)
  have w5' : IntKind.i64.wrap WZ = WZ := IntWalk.i64_in _ (by omega)
  have w6' : IntKind.i64.wrap (s + c) = s + c := IntWalk.i64_in _ (by omega)
  have t1' : WZ + D = s + c := hd.2.2.2
  obtain ⟨T, hT⟩ : ∃ T, s + c = T := ⟨_, rfl⟩
  rw [hT] at t1' w6'
  have k1 : ¬ FX < CY := by omega
  have k2 : ¬ C1 ≤ FX := by omega
  have k3 : ¬ f < L := by omega
  have k4 : ¬ Hh < f := by omega
  have k5 : FX < C1 := by omega
  have k6 : CY ≤ FX := by omega
  have k7 : L ≤ f := by omega
  have k8 : f ≤ Hh := by omega
  have f1 : (D != D) = false := by simp
  have f2 : (Wh != Wh) = false := by simp
  have f3 : (L != L) = false := by simp
  have f4 : (Hh != Hh) = false := by simp
  have f5 : (T != T) = false := by simp
  have HSE2 := hid HSE.out
  clear hc hd ham hlf hhf hel heh hol hoh hfx hcy0 hc1y hsr i64D hone hdd hww hD hWh hcc hL hHh wzb hzz hz2 yb xb sb fb0 t0 t1 HSE AT1 H2
  have rm := RM.out.below q RM.out.lt
  have m0 := rm.cell 0; have m1 := rm.cell 1; have m2 := rm.cell 2; have m3 := rm.cell 3
  simp only [List.getElem?_cons_zero, List.getElem?_cons_succ] at m0 m1 m2 m3
  clear rm
  go_wp2_with fail
  with_reducible refine (HSZ.out V2 (HST.out.below q HLT.out)).mono ?_
  rintro e W3 ⟨rfl, hB⟩
  replace q := q.trans (hB.mono q.size)
  clear hB m0 m1 m2 m3
  have rm := RM.out.below q RM.out.lt
  have m0 := rm.cell 0; have m1 := rm.cell 1; have m2 := rm.cell 2; have m3 := rm.cell 3
  simp only [List.getElem?_cons_zero, List.getElem?_cons_succ] at m0 m1 m2 m3
  clear rm
  go_wp2_with fail
  with_reducible refine (HCA.out W3 (HST.out.below q HLT.out)).mono ?_
  rintro e W4 ⟨rfl, hB⟩
  replace q := q.trans (hB.mono q.size)
  clear hB m0 m1 m2 m3
  have rm := RM.out.below q RM.out.lt
  have m0 := rm.cell 0; have m1 := rm.cell 1; have m2 := rm.cell 2; have m3 := rm.cell 3
  simp only [List.getElem?_cons_zero, List.getElem?_cons_succ] at m0 m1 m2 m3
  clear rm
  go_wp2_with fail
  with_reducible refine (HSI.out W4 (HST.out.below q HLT.out)).mono ?_
  rintro e W5 ⟨rfl, hB⟩
  replace q := q.trans (hB.mono q.size)
  clear hB m0 m1 m2 m3
  have rm := RM.out.below q RM.out.lt
  have m0 := rm.cell 0; have m1 := rm.cell 1; have m2 := rm.cell 2; have m3 := rm.cell 3
  simp only [List.getElem?_cons_zero, List.getElem?_cons_succ] at m0 m1 m2 m3
  clear rm
  go_wp2_with fail
  with_reducible refine (HSS.out W5 (HST.out.below q HLT.out)).mono ?_
  rintro e W6 ⟨rfl, hB⟩
  replace q := q.trans (hB.mono q.size)
  clear hB m0 m1 m2 m3
  have rm := RM.out.below q RM.out.lt
  have m0 := rm.cell 0; have m1 := rm.cell 1; have m2 := rm.cell 2; have m3 := rm.cell 3
  simp only [List.getElem?_cons_zero, List.getElem?_cons_succ] at m0 m1 m2 m3
  clear rm
  go_wp2_with fail
  with_reducible refine (HFI.out W6 (HST.out.below q HLT.out)).mono ?_
  rintro e W7 ⟨rfl, hB⟩
  replace q := q.trans (hB.mono q.size)
  clear hB m0 m1 m2 m3
  have rm := RM.out.below q RM.out.lt
  have m0 := rm.cell 0; have m1 := rm.cell 1; have m2 := rm.cell 2; have m3 := rm.cell 3
  simp only [List.getElem?_cons_zero, List.getElem?_cons_succ] at m0 m1 m2 m3
  clear rm
  go_wp2_with fail
  with_reducible refine (HFS.out W7 (HST.out.below q HLT.out)).mono ?_
  rintro e W8 ⟨rfl, hB⟩
  replace q := q.trans (hB.mono q.size)
  clear hB m0 m1 m2 m3
  have rm := RM.out.below q RM.out.lt
  have m0 := rm.cell 0; have m1 := rm.cell 1; have m2 := rm.cell 2; have m3 := rm.cell 3
  simp only [List.getElem?_cons_zero, List.getElem?_cons_succ] at m0 m1 m2 m3
  clear rm
  go_wp2_with fail
  with_reducible refine (HVM.out W8 (HST.out.below q HLT.out)).mono ?_
  rintro e W9 ⟨rfl, hB⟩
  replace q := q.trans (hB.mono q.size)
  clear hB m0 m1 m2 m3
  have rm := RM.out.below q RM.out.lt
  have m0 := rm.cell 0; have m1 := rm.cell 1; have m2 := rm.cell 2; have m3 := rm.cell 3
  simp only [List.getElem?_cons_zero, List.getElem?_cons_succ] at m0 m1 m2 m3
  clear rm
  have QQ := hid q
  clear m0 m1 m2 m3 hFX hCY hC1 hWZ HSZ HCA HSI HSS HFI HFS HVM q
  go_wp2_with fail
  clear w1' w2' w3' w4' w5' w6' t1' hT k1 k2 k3 k4 k5 k6 k7 k8 f3 f4 f5
  go_loopw [23] (fun i wr => (i = .int .i64 (-1) ∨ i = .int .i64 1 ∨ i = .int .i64 3) ∧ Below V2.heap.size V2 wr) (fun i _ => (3 - intOf i).toNat)
  case atStart => exact ⟨.inl rfl, QQ.out⟩
  case round =>
    obtain ⟨hi, q⟩ := hrel
    have rm := RM.out.below q RM.out.lt
    have m0 := rm.cell 0; have m1 := rm.cell 1; have m2 := rm.cell 2; have m3 := rm.cell 3
    simp only [List.getElem?_cons_zero, List.getElem?_cons_succ] at m0 m1 m2 m3
    clear rm
    rcases hi with rfl | rfl | rfl
    · have lb := LB.out
      by_cases hL0 : L = 0
      · have e1 : IntKind.i64.wrap (L + -1) = L - 1 := by rw [IntWalk.i64_in _ (by omega)]; omega
        have e2 : L - 1 < 0 := by omega
        clear hL0 lb
        go_wp2_with fail
        with_reducible refine (HEL.out wr (HST.out.below q HLT.out)).mono ?_
        rintro e W10 ⟨rfl, hB⟩
        replace q := q.trans (hB.mono q.size)
        clear hB m0 m1 m2 m3
        have rm := RM.out.below q RM.out.lt
        have m0 := rm.cell 0; have m1 := rm.cell 1; have m2 := rm.cell 2; have m3 := rm.cell 3
        simp only [List.getElem?_cons_zero, List.getElem?_cons_succ] at m0 m1 m2 m3
        clear rm
        have HQ := hid q
        clear m0 m1 m2 m3 q
        go_wp2_with fail
        go_roundw
        case rel => exact ⟨.inr (.inl rfl), HQ.out⟩
        case measure => simp [intOf]
      · have HG := hid (HSE2.out (L - 1) ⟨by omega, by omega⟩)
        have HNE := hid HOL.out
        obtain ⟨G, hG⟩ : ∃ G, L - 1 = G := ⟨_, rfl⟩
        rw [hG] at HG HNE
        have e1 : IntKind.i64.wrap (L + -1) = G := by rw [IntWalk.i64_in _ (by omega)]; omega
        have e2 : ¬ G < 0 := by omega
        have e3 : ¬ 1000000000000 < G := by omega
        obtain ⟨v, hv⟩ : ∃ v, (s + G * x / y) % z = v := ⟨_, rfl⟩
        obtain ⟨u, hu⟩ : ∃ v, (s + G * x / y) / z = v := ⟨_, rfl⟩
        rw [hv] at HG HNE
        rw [hu] at HG HNE
        have HGG := hid hG
        clear hv hu hG lb hL0
        go_wp2_with fail
        with_reducible refine (HEL.out wr (HST.out.below q HLT.out)).mono ?_
        rintro e W10 ⟨rfl, hB⟩
        replace q := q.trans (hB.mono q.size)
        clear hB m0 m1 m2 m3
        have rm := RM.out.below q RM.out.lt
        have m0 := rm.cell 0; have m1 := rm.cell 1; have m2 := rm.cell 2; have m3 := rm.cell 3
        simp only [List.getElem?_cons_zero, List.getElem?_cons_succ] at m0 m1 m2 m3
        clear rm
        go_wp2_with fail
        with_reducible refine (HG.out W10 (HST.out.below q HLT.out)).mono ?_
        rintro e W11 ⟨rfl, hB⟩
        replace q := q.trans (hB.mono q.size)
        clear hB m0 m1 m2 m3
        have rm := RM.out.below q RM.out.lt
        have m0 := rm.cell 0; have m1 := rm.cell 1; have m2 := rm.cell 2; have m3 := rm.cell 3
        simp only [List.getElem?_cons_zero, List.getElem?_cons_succ] at m0 m1 m2 m3
        clear rm
        by_cases hvD : v = D
        · have g1 : (v == D) = true := by simpa using hvD
          have g2 : ¬ u = Wh := fun h => HNE.out hvD h
          have g3 : (u == Wh) = false := by simpa using g2
          have HQ := hid q
          clear m0 m1 m2 m3 q
          go_wp2_with fail
          go_roundw
          case rel => exact ⟨.inr (.inl rfl), HQ.out⟩
          case measure => simp [intOf]
        · have g1 : (v == D) = false := by simpa using hvD
          have HQ := hid q
          clear m0 m1 m2 m3 q
          go_wp2_with fail
          go_roundw
          case rel => exact ⟨.inr (.inl rfl), HQ.out⟩
          case measure => simp [intOf]
    · have lb := HB.out
      by_cases hL0 : Hh = 1000000000000
      · have e1 : IntKind.i64.wrap (Hh + 1) = Hh + 1 := IntWalk.i64_in _ (by omega)
        have e2 : ¬ Hh + 1 < 0 := by omega
        have e3 : 1000000000000 < Hh + 1 := by omega
        clear hL0 lb
        go_wp2_with fail
        with_reducible refine (HEH.out wr (HST.out.below q HLT.out)).mono ?_
        rintro e W12 ⟨rfl, hB⟩
        replace q := q.trans (hB.mono q.size)
        clear hB m0 m1 m2 m3
        have rm := RM.out.below q RM.out.lt
        have m0 := rm.cell 0; have m1 := rm.cell 1; have m2 := rm.cell 2; have m3 := rm.cell 3
        simp only [List.getElem?_cons_zero, List.getElem?_cons_succ] at m0 m1 m2 m3
        clear rm
        have HQ := hid q
        clear m0 m1 m2 m3 q
        go_wp2_with fail
        go_roundw
        case rel => exact ⟨.inr (.inr rfl), HQ.out⟩
        case measure => simp [intOf]
      · have HG := hid (HSE2.out (Hh + 1) ⟨by omega, by omega⟩)
        have HNE := hid (HOH.out (by omega))
        obtain ⟨G, hG⟩ : ∃ G, Hh + 1 = G := ⟨_, rfl⟩
        rw [hG] at HG HNE
        have e1 : IntKind.i64.wrap (Hh + 1) = G := by rw [IntWalk.i64_in _ (by omega)]; exact hG
        have e2 : ¬ G < 0 := by omega
        have e3 : ¬ 1000000000000 < G := by omega
        obtain ⟨v, hv⟩ : ∃ v, (s + G * x / y) % z = v := ⟨_, rfl⟩
        obtain ⟨u, hu⟩ : ∃ v, (s + G * x / y) / z = v := ⟨_, rfl⟩
        rw [hv] at HG HNE
        rw [hu] at HG HNE
        have HGG := hid hG
        clear hv hu hG lb hL0
        go_wp2_with fail
        with_reducible refine (HEH.out wr (HST.out.below q HLT.out)).mono ?_
        rintro e W12 ⟨rfl, hB⟩
        replace q := q.trans (hB.mono q.size)
        clear hB m0 m1 m2 m3
        have rm := RM.out.below q RM.out.lt
        have m0 := rm.cell 0; have m1 := rm.cell 1; have m2 := rm.cell 2; have m3 := rm.cell 3
        simp only [List.getElem?_cons_zero, List.getElem?_cons_succ] at m0 m1 m2 m3
        clear rm
        go_wp2_with fail
        with_reducible refine (HG.out W12 (HST.out.below q HLT.out)).mono ?_
        rintro e W13 ⟨rfl, hB⟩
        replace q := q.trans (hB.mono q.size)
        clear hB m0 m1 m2 m3
        have rm := RM.out.below q RM.out.lt
        have m0 := rm.cell 0; have m1 := rm.cell 1; have m2 := rm.cell 2; have m3 := rm.cell 3
        simp only [List.getElem?_cons_zero, List.getElem?_cons_succ] at m0 m1 m2 m3
        clear rm
        by_cases hvD : v = D
        · have g1 : (v == D) = true := by simpa using hvD
          have g2 : ¬ u = Wh := fun h => HNE.out hvD h
          have g3 : (u == Wh) = false := by simpa using g2
          have HQ := hid q
          clear m0 m1 m2 m3 q
          go_wp2_with fail
          go_roundw
          case rel => exact ⟨.inr (.inr rfl), HQ.out⟩
          case measure => simp [intOf]
        · have g1 : (v == D) = false := by simpa using hvD
          have HQ := hid q
          clear m0 m1 m2 m3 q
          go_wp2_with fail
          go_roundw
          case rel => exact ⟨.inr (.inr rfl), HQ.out⟩
          case measure => simp [intOf]
    · clear m0 m1 m2 m3
      go_wp2_with fail
      go_ret
      exact ⟨rfl, B2.out.trans (q.mono B2.out.size)⟩
set_option maxRecDepth 100000 in
set_option maxHeartbeats 1000000 in
theorem law_FnMeters (a : Option Addr) (len cap : Nat) (zs : List Int) (a' : Option Addr) (len' cap' : Nat) (zs' : List Int) (w : World) (h : InB w a len zs) (h' : InB w a' len' zs') :
    Calls Try.prog 3 #[.slice a len cap, .slice a' len' cap'] w fun e w' => e = .returned (.bool true) ∧ Below w.heap.size w w' := by
  by_cases hl : len ≤ 3000 ∧ len' ≤ 3000
  · exact law_FnMeters_in a len cap zs a' len' cap' zs' w h h' hl.1 hl.2
  · have F1 := hid (a2Long_yes a len cap a' len' cap' w (by omega))
    clear h h' hl
    go_enter Try.func3, Try.ntmps3
    go_wp2_with fail
    with_reducible refine F1.out.mono ?_
    rintro e w1 ⟨rfl, hw⟩
    subst hw
    go_wp2_with fail
    go_ret
    exact ⟨rfl, Below.refl _ _⟩
end Go.Proofs.Ytoenpfjnjpgbfaa
