/- The walk of the law over NewDevice. -/
import Derived.Test.YtangjgfjojfcaaaNewD
namespace Go.Proofs.Ytangjgfjojfcaaa
open Go.RowKit
set_option linter.unusedVariables false
set_option linter.unusedSimpArgs false
theorem OwnB.only {g base : Nat} {w w' : World} {v : Value} {zs : List Int} (h : OwnB w base v zs) (o : OnlyB g w w') (hg : g < base) : OwnB w' base v zs := by
  obtain ⟨a, cap, h1, h2, h3⟩ := h
  refine ⟨a, cap, h1, h2, ?_⟩
  rcases h3 with h0 | ⟨q, rest, e, hq, hr⟩
  · exact .inl h0
  · exact .inr ⟨q, rest, e, hq, o.row hr (by omega)⟩
theorem OwnB.later {w w' : World} {base : Nat} {v : Value} {zs : List Int} (h : OwnB w base v zs) (hb : Below w.heap.size w w') : OwnB w' base v zs := h.low (Below.refl _ _) (Nat.le_refl _) hb
set_option maxRecDepth 100000 in
set_option maxHeartbeats 8000000 in
theorem law_FnExactNewDevice (a : Option Addr) (len cap : Nat) (zs : List Int) (w : World) (h : InB w a len zs) :
    Calls Try.prog 6 #[.slice a len cap] w fun e w' => e = .returned (.bool true) ∧ Below w.heap.size w w' := by
  by_cases hl : 1048576 < len
  · go_enter Try.func6, Try.ntmps6
    go_wp2
    go_ret
    exact ⟨rfl, Below.refl _ _⟩
  have hle : len ≤ 1048576 := by omega
  have hI := hid h
  have hn : Hid (len = zs.length) := hid h.1.symm
  have HS := hid (fun (B : Nat) (w1 : World) (k : Stk w1 B zs) => specNewDevice_any B len len zs w1 k hn.out)
  have HM := hid (fun (B : Nat) (w1 : World) (k : Stk w1 B zs) => implNewDevice_any B len len zs w1 k hn.out)
  obtain ⟨⟨E, P, c⟩, hR⟩ : ∃ r, ndR zs = r := ⟨_, rfl⟩
  rw [hR] at HS HM
  have fc1 : (c != c) = false := by simp
  have fc2 : ((1 + (E.length : Int)) != (1 + (E.length : Int))) = false := by simp
  have fc3 : (0 : Int) ≤ 1 + (E.length : Int) := by omega
  have fc4 : (0 : Int) ≤ 1 + (len : Int) := by omega
  have HSR := hid (fun (b : Nat) (w1 : World) (r : Row w1 b 5 (zs.map (Value.int .u8))) => r.stk hI.out.2.1 (by rw [← hn.out]; exact hle))
  clear hR h
  go_enter Try.func6, Try.ntmps6
  go_wp2_with fail
  refine (toStack_any a len cap zs _ hI.out hle).mono ?_
  rintro e w1 ⟨rfl, hB1, hS1, _⟩
  have b1 := hid hB1
  clear hB1
  go_wp2_with fail
  refine (HS.out _ w1 hS1).mono ?_
  rintro e w2 ⟨s3, rfl, hO3, hB2⟩
  simp only at hO3
  have b2 := hid (b1.out.trans (hB2.mono b1.out.size))
  have O2 := hid hO3
  obtain ⟨a3, c3, rfl, _, _⟩ := hO3
  clear hB2 hS1
  obtain ⟨V3, hV3⟩ : ∃ z, z = w2.alloc (.cells #[.slice a3 E.length c3, .int .u8 0, .int .u8 0, .int .u8 0, .int .u8 0, .int .u8 0, .int .u8 0, .int .u8 0, .int .u8 0, .int .i64 P, .bool false, .int .i64 0] 31) := ⟨_, rfl⟩
  have al3 : Below w2.heap.size w2 V3 := by rw [hV3]; exact boxD_bel _ _ _
  have R3 := hid (show Row V3 w2.heap.size 31 [.slice a3 E.length c3, .int .u8 0, .int .u8 0, .int .u8 0, .int .u8 0, .int .u8 0, .int .u8 0, .int .u8 0, .int .u8 0, .int .i64 P, .bool false, .int .i64 0] by rw [hV3]; exact Row.new _ _ _)
  have HV3 := hid hV3
  clear hV3
  have O3 := hid (O2.out.keep al3)
  have b3 := hid (b2.out.trans (al3.mono b2.out.size))
  have c3' := hid (Below.refl V3.heap.size V3)
  clear al3
  go_upto_region 4 with fail
  rw [← HV3.out]
  go_wp2_with fail
  refine (toStackR_any a len cap zs _ (hI.out.below b3.out (Nat.le_refl _)) hle).mono ?_
  rintro e w4 ⟨rfl, hB4, hX4, hg4⟩
  have b4 := hid (b3.out.trans (hB4.mono b3.out.size))
  have c4 := hid (c3'.out.trans (hB4.mono c3'.out.size))
  have X4 := hid hX4
  have g4 := hid hg4
  clear hB4 hX4 hg4
  go_wp2_with fail
  refine (HM.out _ w4 (HSR.out _ _ X4.out)).mono ?_
  rintro e w5 ⟨s6, rfl, hO6, hB5⟩
  simp only at hO6
  have b5 := hid (b4.out.trans (hB5.mono b4.out.size))
  have c5 := hid (c4.out.trans (hB5.mono c4.out.size))
  have X5 := hid (X4.out.below hB5 X4.out.lt)
  have G5 := hid hO6
  have g5 := hid hB5.size
  obtain ⟨a6, c6, rfl, _, _⟩ := hO6
  clear hB5
  obtain ⟨V6, hV6⟩ : ∃ z, z = w5.alloc (.cells #[.slice a6 E.length c6, .int .u8 0, .int .u8 0, .int .u8 0, .int .u8 0, .int .u8 0, .int .u8 0, .int .u8 0, .int .u8 0, .int .i64 P, .bool false, .int .i64 0] 31) := ⟨_, rfl⟩
  have al6 : Below w5.heap.size w5 V6 := by rw [hV6]; exact boxD_bel _ _ _
  have R6 := hid (show Row V6 w5.heap.size 31 [.slice a6 E.length c6, .int .u8 0, .int .u8 0, .int .u8 0, .int .u8 0, .int .u8 0, .int .u8 0, .int .u8 0, .int .u8 0, .int .i64 P, .bool false, .int .i64 0] by rw [hV6]; exact Row.new _ _ _)
  have HV6 := hid hV6
  clear hV6
  have b6 := hid (b5.out.trans (al6.mono b5.out.size))
  have c6' := hid (c5.out.trans (al6.mono c5.out.size))
  have X6 := hid (X5.out.below al6 X5.out.lt)
  have G6 := hid (G5.out.keep al6)
  have g6 := hid (Nat.le_trans g5.out al6.size)
  have R36 := hid (R3.out.below c6'.out R3.out.lt)
  clear al6
  go_upto_region 6 with fail
  rw [← HV6.out]
  have y0 := R6.out.cell 0; have y1 := R6.out.cell 1; have y2 := R6.out.cell 2; have y3 := R6.out.cell 3; have y4 := R6.out.cell 4; have y5 := R6.out.cell 5; have y6 := R6.out.cell 6; have y7 := R6.out.cell 7; have y8 := R6.out.cell 8; have y9 := R6.out.cell 9; have y10 := R6.out.cell 10; have y11 := R6.out.cell 11
  simp only [List.getElem?_cons_zero, List.getElem?_cons_succ] at y0 y1 y2 y3 y4 y5 y6 y7 y8 y9 y10 y11
  have p0 := R36.out.cell 0; have p1 := R36.out.cell 1; have p2 := R36.out.cell 2; have p3 := R36.out.cell 3; have p4 := R36.out.cell 4; have p5 := R36.out.cell 5; have p6 := R36.out.cell 6; have p7 := R36.out.cell 7; have p8 := R36.out.cell 8; have p9 := R36.out.cell 9; have p10 := R36.out.cell 10; have p11 := R36.out.cell 11
  simp only [List.getElem?_cons_zero, List.getElem?_cons_succ] at p0 p1 p2 p3 p4 p5 p6 p7 p8 p9 p10 p11
  go_wp2_with fail
  refine (eqDev_own _ _ (.slice a6 E.length c6) (.slice a3 E.length c3) E 0 0 0 0 0 0 0 0 P false 0 _ G6.out (O3.out.later c6'.out)).mono ?_
  rintro e w7 ⟨rfl, e7⟩
  have b7 := hid (b6.out.trans (e7.mono b6.out.size))
  have c7 := hid (c6'.out.trans (e7.mono c6'.out.size))
  have X7 := hid (X6.out.below e7 X6.out.lt)
  have G7 := hid (G6.out.keep e7)
  have g7 := hid (Nat.le_trans g6.out e7.size)
  have R67 := hid (R6.out.below e7 R6.out.lt)
  clear e7 y0 y1 y2 y3 y4 y5 y6 y7 y8 y9 y10 y11 p0 p1 p2 p3 p4 p5 p6 p7 p8 p9 p10 p11
  go_wp2_with fail
  refine (toStack_any a len cap zs _ (hI.out.below b7.out (Nat.le_refl _)) hle).mono ?_
  rintro e w8 ⟨rfl, hB8, hS8, hg8⟩
  have b8 := hid (b7.out.trans (hB8.mono b7.out.size))
  have c8 := hid (c7.out.trans (hB8.mono c7.out.size))
  have X8 := hid (X7.out.below hB8 X7.out.lt)
  have G8 := hid (G7.out.keep hB8)
  have g8 := hid (Nat.le_trans g7.out hB8.size)
  have R68 := hid (R67.out.below hB8 R67.out.lt)
  clear hB8
  go_wp2_with fail
  refine (eqStack_same _ _ len len len zs w8 (HSR.out _ _ X8.out) hS8 hn.out).mono ?_
  rintro e w9 ⟨rfl, hB9⟩
  have b9 := hid (b8.out.trans (hB9.mono b8.out.size))
  have c9 := hid (c8.out.trans (hB9.mono c8.out.size))
  have X9 := hid (X8.out.below hB9 X8.out.lt)
  have G9 := hid (G8.out.keep hB9)
  have g9 := hid (Nat.le_trans g8.out hB9.size)
  have R69 := hid (R68.out.below hB9 R68.out.lt)
  clear hB9 hS8 hg8
  go_wp2_with fail
  refine (markStack_any _ len len _ (by rw [List.length_map]; exact hn.out.symm) hle _ X9.out).mono ?_
  rintro e w10 ⟨rfl, h10⟩
  have b10 := hid (b9.out.trans (h10.2.2.mono b3.out.size))
  have c10 := hid (c9.out.trans h10.2.2)
  have G10 := hid (G9.out.only h10 g4.out)
  have g10 := hid (show w4.heap.size ≤ w10.heap.size by rw [h10.1]; exact g9.out)
  have R610 := hid (h10.row R69.out (by have := g4.out; have := g5.out; omega))
  have R310 := hid (R3.out.below c10.out R3.out.lt)
  clear h10
  have y0 := R610.out.cell 0; have y1 := R610.out.cell 1; have y2 := R610.out.cell 2; have y3 := R610.out.cell 3; have y4 := R610.out.cell 4; have y5 := R610.out.cell 5; have y6 := R610.out.cell 6; have y7 := R610.out.cell 7; have y8 := R610.out.cell 8; have y9 := R610.out.cell 9; have y10 := R610.out.cell 10; have y11 := R610.out.cell 11
  simp only [List.getElem?_cons_zero, List.getElem?_cons_succ] at y0 y1 y2 y3 y4 y5 y6 y7 y8 y9 y10 y11
  have p0 := R310.out.cell 0; have p1 := R310.out.cell 1; have p2 := R310.out.cell 2; have p3 := R310.out.cell 3; have p4 := R310.out.cell 4; have p5 := R310.out.cell 5; have p6 := R310.out.cell 6; have p7 := R310.out.cell 7; have p8 := R310.out.cell 8; have p9 := R310.out.cell 9; have p10 := R310.out.cell 10; have p11 := R310.out.cell 11
  simp only [List.getElem?_cons_zero, List.getElem?_cons_succ] at p0 p1 p2 p3 p4 p5 p6 p7 p8 p9 p10 p11
  go_wp2_with fail
  refine (eqDev_own _ _ (.slice a6 E.length c6) (.slice a3 E.length c3) E 0 0 0 0 0 0 0 0 P false 0 _ G10.out (O3.out.later c10.out)).mono ?_
  rintro e w11 ⟨rfl, e11⟩
  have b11 := hid (b10.out.trans (e11.mono b10.out.size))
  have c11 := hid (c10.out.trans (e11.mono c10.out.size))
  have G11 := hid (G10.out.keep e11)
  have g11 := hid (Nat.le_trans g10.out e11.size)
  have R611 := hid (R610.out.below e11 R610.out.lt)
  clear e11 y0 y1 y2 y3 y4 y5 y6 y7 y8 y9 y10 y11 p0 p1 p2 p3 p4 p5 p6 p7 p8 p9 p10 p11
  have y0 := R611.out.cell 0; have y1 := R611.out.cell 1; have y2 := R611.out.cell 2; have y3 := R611.out.cell 3; have y4 := R611.out.cell 4; have y5 := R611.out.cell 5; have y6 := R611.out.cell 6; have y7 := R611.out.cell 7; have y8 := R611.out.cell 8; have y9 := R611.out.cell 9; have y10 := R611.out.cell 10; have y11 := R611.out.cell 11
  simp only [List.getElem?_cons_zero, List.getElem?_cons_succ] at y0 y1 y2 y3 y4 y5 y6 y7 y8 y9 y10 y11
  go_wp2_with fail
  refine (markDev_only w4.heap.size (.slice a6 E.length c6) E 0 0 0 0 0 0 0 0 P false 0 _ G11.out g11.out).mono ?_
  rintro e w12 ⟨rfl, hM12, hB12, hK12⟩
  have b12 := hid (b11.out.trans (hB12.mono b4.out.size))
  have c12 := hid (c11.out.trans (hB12.mono c4.out.size))
  have M12 := hid hM12
  have R612 := hid (hK12 _ _ R611.out)
  clear hM12 hB12 hK12 y0 y1 y2 y3 y4 y5 y6 y7 y8 y9 y10 y11
  have y0 := R612.out.cell 0; have y1 := R612.out.cell 1; have y2 := R612.out.cell 2; have y3 := R612.out.cell 3; have y4 := R612.out.cell 4; have y5 := R612.out.cell 5; have y6 := R612.out.cell 6; have y7 := R612.out.cell 7; have y8 := R612.out.cell 8; have y9 := R612.out.cell 9; have y10 := R612.out.cell 10; have y11 := R612.out.cell 11
  simp only [List.getElem?_cons_zero, List.getElem?_cons_succ] at y0 y1 y2 y3 y4 y5 y6 y7 y8 y9 y10 y11
  go_wp2_with fail
  refine (heldDev_own w4.heap.size (.slice a6 E.length c6) E.length 0 0 0 0 0 0 0 0 P false 0 _ M12.out).mono ?_
  rintro e w13 ⟨rfl, e13⟩
  have b13 := hid (b12.out.trans (e13.mono b12.out.size))
  have c13 := hid (c12.out.trans (e13.mono c12.out.size))
  have M13 := hid (M12.out.keep e13)
  have R613 := hid (R612.out.below e13 R612.out.lt)
  clear e13 y0 y1 y2 y3 y4 y5 y6 y7 y8 y9 y10 y11
  go_wp2_with fail
  refine (toStack_any a len cap zs _ (hI.out.below b13.out (Nat.le_refl _)) hle).mono ?_
  rintro e w14 ⟨rfl, hB14, hS14, _⟩
  have b14 := hid (b13.out.trans (hB14.mono b13.out.size))
  have c14 := hid (c13.out.trans (hB14.mono c13.out.size))
  have M14 := hid (M13.out.keep hB14)
  have R614 := hid (R613.out.below hB14 R613.out.lt)
  clear hB14
  go_wp2_with fail
  refine (HM.out _ w14 hS14).mono ?_
  rintro e w15 ⟨s9, rfl, hO9, hB15⟩
  simp only at hO9
  have b15 := hid (b14.out.trans (hB15.mono b14.out.size))
  have c15 := hid (c14.out.trans (hB15.mono c14.out.size))
  have M15 := hid (M14.out.keep hB15)
  have R615 := hid (R614.out.below hB15 R614.out.lt)
  have H15 := hid hO9
  obtain ⟨a9, c9', rfl, _, _⟩ := hO9
  clear hB15 hS14
  obtain ⟨V9, hV9⟩ : ∃ z, z = w15.alloc (.cells #[.slice a9 E.length c9', .int .u8 0, .int .u8 0, .int .u8 0, .int .u8 0, .int .u8 0, .int .u8 0, .int .u8 0, .int .u8 0, .int .i64 P, .bool false, .int .i64 0] 31) := ⟨_, rfl⟩
  have al9 : Below w15.heap.size w15 V9 := by rw [hV9]; exact boxD_bel _ _ _
  have R9 := hid (show Row V9 w15.heap.size 31 [.slice a9 E.length c9', .int .u8 0, .int .u8 0, .int .u8 0, .int .u8 0, .int .u8 0, .int .u8 0, .int .u8 0, .int .u8 0, .int .i64 P, .bool false, .int .i64 0] by rw [hV9]; exact Row.new _ _ _)
  have HV9 := hid hV9
  clear hV9
  have b16 := hid (b15.out.trans (al9.mono b15.out.size))
  have c16 := hid (c15.out.trans (al9.mono c15.out.size))
  have M16 := hid (M15.out.keep al9)
  have R616 := hid (R615.out.below al9 R615.out.lt)
  have H16 := hid (H15.out.keep al9)
  have R316 := hid (R3.out.below c16.out R3.out.lt)
  clear al9
  go_upto_region 23 with fail
  rw [← HV9.out]
  have y0 := R9.out.cell 0; have y1 := R9.out.cell 1; have y2 := R9.out.cell 2; have y3 := R9.out.cell 3; have y4 := R9.out.cell 4; have y5 := R9.out.cell 5; have y6 := R9.out.cell 6; have y7 := R9.out.cell 7; have y8 := R9.out.cell 8; have y9 := R9.out.cell 9; have y10 := R9.out.cell 10; have y11 := R9.out.cell 11
  simp only [List.getElem?_cons_zero, List.getElem?_cons_succ] at y0 y1 y2 y3 y4 y5 y6 y7 y8 y9 y10 y11
  have p0 := R316.out.cell 0; have p1 := R316.out.cell 1; have p2 := R316.out.cell 2; have p3 := R316.out.cell 3; have p4 := R316.out.cell 4; have p5 := R316.out.cell 5; have p6 := R316.out.cell 6; have p7 := R316.out.cell 7; have p8 := R316.out.cell 8; have p9 := R316.out.cell 9; have p10 := R316.out.cell 10; have p11 := R316.out.cell 11
  simp only [List.getElem?_cons_zero, List.getElem?_cons_succ] at p0 p1 p2 p3 p4 p5 p6 p7 p8 p9 p10 p11
  go_wp2_with fail
  refine (eqDev_own _ _ (.slice a9 E.length c9') (.slice a3 E.length c3) E 0 0 0 0 0 0 0 0 P false 0 _ H16.out (O3.out.later c16.out)).mono ?_
  rintro e w17 ⟨rfl, e17⟩
  have b17 := hid (b16.out.trans (e17.mono b16.out.size))
  have M17 := hid (M16.out.keep e17)
  have R617 := hid (R616.out.below e17 R616.out.lt)
  clear e17 y0 y1 y2 y3 y4 y5 y6 y7 y8 y9 y10 y11 p0 p1 p2 p3 p4 p5 p6 p7 p8 p9 p10 p11
  have y0 := R617.out.cell 0; have y1 := R617.out.cell 1; have y2 := R617.out.cell 2; have y3 := R617.out.cell 3; have y4 := R617.out.cell 4; have y5 := R617.out.cell 5; have y6 := R617.out.cell 6; have y7 := R617.out.cell 7; have y8 := R617.out.cell 8; have y9 := R617.out.cell 9; have y10 := R617.out.cell 10; have y11 := R617.out.cell 11
  simp only [List.getElem?_cons_zero, List.getElem?_cons_succ] at y0 y1 y2 y3 y4 y5 y6 y7 y8 y9 y10 y11
  go_wp2_with fail
  refine (heldDev_own w4.heap.size (.slice a6 E.length c6) E.length 0 0 0 0 0 0 0 0 P false 0 _ M17.out).mono ?_
  rintro e w18 ⟨rfl, e18⟩
  clear y0 y1 y2 y3 y4 y5 y6 y7 y8 y9 y10 y11
  go_wp2_with fail
  go_ret
  exact ⟨rfl, b17.out.trans (e18.mono b17.out.size)⟩
end Go.Proofs.Ytangjgfjojfcaaa
