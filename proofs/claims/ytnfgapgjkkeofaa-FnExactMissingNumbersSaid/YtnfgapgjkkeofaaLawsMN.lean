/- The walk of the law over MissingNumbers. -/
import Derived.Test.YtnfgapgjkkeofaaMnS
import Derived.Test.YtnfgapgjkkeofaaMkT
import Derived.Test.YtnfgapgjkkeofaaTicksO
namespace Go.Proofs.Ytnfgapgjkkeofaa
open Go.RowKit
set_option linter.unusedVariables false
set_option linter.unusedSimpArgs false
set_option maxHeartbeats 8000000 in
theorem law_FnExactMissingNumbers (a : Option Addr) (len cap : Nat) (zs : List Int) (a' : Option Addr) (len' cap' : Nat) (ts : List (Nat → Int)) (w : World) (h : InB w a len zs) (hl' : len' ≤ 9223372036854775807) (h' : InT w a' len' ts) :
    Calls Try.prog 4 #[.slice a len cap, .slice a' len' cap'] w fun e w' => e = .returned (.bool true) ∧ Below w.heap.size w w' := by
  have bE := hid (Below.refl w.heap.size w)
  have hI := hid h
  have hJ := hid h'
  have hn : Hid (len = zs.length) := hid h.1.symm
  have hm : Hid (len' = ts.length) := hid h'.1.symm
  have hbd := hid (fun j (hj : j < ts.length) => h'.2.1 j (by have := hm.out; omega))
  clear h h'
  by_cases hs : 1048576 < len
  · go_enter Try.func4, Try.ntmps4
    go_wp2
    go_ret
    exact ⟨rfl, bE.out⟩
  by_cases hs' : 1048576 < len'
  · have HZ := hid (fun w => szTicks_no a' len' cap' w hs' hl')
    go_enter Try.func4, Try.ntmps4
    go_wp2_with fail
    refine (HZ.out _).mono ?_
    rintro e w' ⟨rfl, rfl⟩
    go_wp2_with fail
    go_ret
    exact ⟨rfl, bE.out⟩
  have hle : len ≤ 1048576 := by omega
  have hle' : len' ≤ 1048576 := by omega
  have HZ := hid (fun w => szTicks_ok a' len' cap' w hle')
  have hz : (0 : Int) ≤ 1048576 - (len' : Int) := by omega
  have HS := hid (fun b b' w1 (k : Stk w1 b zs) (k' : Tst w1 b' ts) => specMissingNumbers_any b len len zs hn.out b' len' len' ts hm.out w1 k k' hbd.out)
  have HM := hid (fun b b' w1 (k : Stk w1 b zs) (k' : Tst w1 b' ts) => implMissingNumbers_any b len len zs hn.out b' len' len' ts hm.out w1 k k' hbd.out)
  obtain ⟨⟨E, c⟩, hR⟩ : ∃ r, mnR zs ts = r := ⟨_, rfl⟩
  rw [hR] at HS HM
  have d1 : (c != c) = false := by simp
  have d2 : ((1 + (E.length : Int)) != (1 + (E.length : Int))) = false := by simp
  have d3 : (0 : Int) ≤ 1 + (E.length : Int) := by omega
  have d4 : (0 : Int) ≤ 1 + (len : Int) + 10 * (len' : Int) := by omega
  have HSR := hid (fun (b : Nat) (w1 : World) (r : Row w1 b 5 (zs.map (Value.int .u8))) => r.stk hI.out.2.1 (by rw [← hn.out]; exact hle))
  have HRR := hid (fun (b : Nat) (w1 : World) (r : Row w1 b 48 (tcp ts len' len')) => Row.tst r hm.out hle')
  clear hR hs hs' hl'
  go_enter Try.func4, Try.ntmps4
  go_wp2_with fail
  refine (HZ.out _).mono ?_
  rintro e w' ⟨rfl, rfl⟩
  go_wp2_with fail
  refine (toStack_any a len cap zs _ hI.out (by omega)).mono ?_
  rintro e w1 ⟨rfl, hB1, hS1, hg1⟩
  have b1 := hid hB1
  have hJ1 := hid (hJ.out.below b1.out (Nat.le_refl _))
  go_wp2_with fail
  refine (toTicks_any a' len' cap' ts _ hJ1.out hle').mono ?_
  rintro e w2 ⟨rfl, hB2, hT2, hg2⟩
  have b2 := hid (b1.out.trans (hB2.mono b1.out.size))
  have hS2 := hS1.below hB2 hg1
  go_wp2_with fail
  refine (HS.out _ _ w2 hS2 hT2).mono ?_
  rintro e w3 ⟨v3, rfl, hO3, hB3⟩
  have b3 := hid (b2.out.trans (hB3.mono b2.out.size))
  have O3 := hid hO3
  clear hB1 hB2 hB3 hS1 hS2 hT2 hO3
  have c3 := hid (Below.refl w3.heap.size w3)
  have I3 := hid (hI.out.below b3.out (Nat.le_refl _))
  go_wp2_with fail
  refine (toStackR_any a len cap zs _ I3.out (by omega)).mono ?_
  rintro e w4 ⟨rfl, hB4, hX4, hg4⟩
  have b4 := hid (b3.out.trans (hB4.mono b3.out.size))
  have c4 := hid (c3.out.trans (hB4.mono c3.out.size))
  have X4 := hid hX4
  have g4 := hid hg4
  have J4 := hid (hJ.out.below b4.out (Nat.le_refl _))
  clear hB4 hX4 hg4
  go_wp2_with fail
  refine (toTicksR_any a' len' cap' ts _ J4.out hle').mono ?_
  rintro e w5 ⟨rfl, hB5, hY5, hg5⟩
  have b5 := hid (b4.out.trans (hB5.mono b4.out.size))
  have c5 := hid (c4.out.trans (hB5.mono c4.out.size))
  have X5 := hid (X4.out.below hB5 g4.out)
  have Y5 := hid hY5
  have g5 := hid hg5
  clear hB5 hY5 hg5
  have gg : w4.heap.size < w5.heap.size := g5.out
  go_wp2_with fail
  refine (HM.out _ _ w5 (HSR.out _ _ X5.out) (HRR.out _ _ Y5.out)).mono ?_
  rintro e w6 ⟨v6, rfl, hO6, hB6⟩
  have b6 := hid (b5.out.trans (hB6.mono b5.out.size))
  have c6 := hid (c5.out.trans (hB6.mono c5.out.size))
  have X6 := hid (X5.out.below hB6 X5.out.lt)
  have Y6 := hid (Y5.out.below hB6 Y5.out.lt)
  have G6 := hid hO6
  have g6 := hid hB6.size
  clear hB6 hO6
  go_wp2_with fail
  refine (eqI_own _ _ v6 v3 E _ G6.out (O3.out.later c6.out)).mono ?_
  rintro e w7' ⟨rfl, d7, rfl⟩
  obtain ⟨w7, hw7⟩ : ∃ z, z = w6.drewN d7 := ⟨_, rfl⟩
  have e7 : Below w6.heap.size w6 w7 := by rw [hw7]; exact below_drewN (Below.refl _ _) _
  rw [← hw7]
  clear hw7
  have b7 := hid (b6.out.trans (e7.mono b6.out.size))
  have c7 := hid (c6.out.trans (e7.mono c6.out.size))
  have X7 := hid (X6.out.below e7 X6.out.lt)
  have Y7 := hid (Y6.out.below e7 Y6.out.lt)
  have G7 := hid (G6.out.keep e7)
  have g7 := hid (Nat.le_trans g6.out e7.size)
  have I7 := hid (hI.out.below b7.out (Nat.le_refl _))
  clear e7
  go_wp2_with fail
  refine (toStack_any a len cap zs _ I7.out (by omega)).mono ?_
  rintro e w8 ⟨rfl, hB8, hS8, hg8⟩
  have b8 := hid (b7.out.trans (hB8.mono b7.out.size))
  have c8 := hid (c7.out.trans (hB8.mono c7.out.size))
  have X8 := hid (X7.out.below hB8 X7.out.lt)
  have Y8 := hid (Y7.out.below hB8 Y7.out.lt)
  have G8 := hid (G7.out.keep hB8)
  have g8 := hid (Nat.le_trans g7.out hB8.size)
  clear hB8
  go_wp2_with fail
  refine (eqStack_same _ _ len len len zs w8 (HSR.out _ _ X8.out) hS8 hn.out).mono ?_
  rintro e w9 ⟨rfl, hB9⟩
  have b9 := hid (b8.out.trans (hB9.mono b8.out.size))
  have c9 := hid (c8.out.trans (hB9.mono c8.out.size))
  have X9 := hid (X8.out.below hB9 X8.out.lt)
  have Y9 := hid (Y8.out.below hB9 Y8.out.lt)
  have G9 := hid (G8.out.keep hB9)
  have g9 := hid (Nat.le_trans g8.out hB9.size)
  have J9 := hid (hJ.out.below b9.out (Nat.le_refl _))
  clear hB9 hS8 hg8
  go_wp2_with fail
  refine (toTicks_any a' len' cap' ts _ J9.out hle').mono ?_
  rintro e w10 ⟨rfl, hB10, hT10, hg10⟩
  have b10 := hid (b9.out.trans (hB10.mono b9.out.size))
  have c10 := hid (c9.out.trans (hB10.mono c9.out.size))
  have X10 := hid (X9.out.below hB10 X9.out.lt)
  have Y10 := hid (Y9.out.below hB10 Y9.out.lt)
  have G10 := hid (G9.out.keep hB10)
  have g10 := hid (Nat.le_trans g9.out hB10.size)
  clear hB10
  go_wp2_with fail
  refine (eqTicks_same _ _ len' len' len' ts w10 (HRR.out _ _ Y10.out) hT10 hm.out).mono ?_
  rintro e w11 ⟨rfl, hB11⟩
  have b11 := hid (b10.out.trans (hB11.mono b10.out.size))
  have c11 := hid (c10.out.trans (hB11.mono c10.out.size))
  have X11 := hid (X10.out.below hB11 X10.out.lt)
  have Y11 := hid (Y10.out.below hB11 Y10.out.lt)
  have G11 := hid (G10.out.keep hB11)
  have g11 := hid (Nat.le_trans g10.out hB11.size)
  clear hB11 hT10 hg10
  go_wp2_with fail
  refine (markStack_any _ len len _ (by rw [List.length_map]; exact hn.out.symm) hle _ X11.out).mono ?_
  rintro e w12 ⟨rfl, h12⟩
  have b12 := hid (b11.out.trans (h12.2.2.mono b3.out.size))
  have c12 := hid (c11.out.trans h12.2.2)
  have Y12 := hid (h12.row Y11.out (by have := g4.out; omega))
  have G12 := hid (G11.out.only h12 (by have := g4.out; omega))
  have g12 := hid (show w5.heap.size ≤ w12.heap.size by rw [h12.1]; exact g11.out)
  clear h12
  go_wp2_with fail
  refine (markTicks_any _ len' len' _ (tcp_len ts len' len') hle' (1 + (len : Int)) (by omega) _ Y12.out).mono ?_
  rintro e w13 ⟨rfl, h13⟩
  have b13 := hid (b12.out.trans (h13.2.2.mono b4.out.size))
  have c13 := hid (c12.out.trans (h13.2.2.mono c4.out.size))
  have G13 := hid (G12.out.only h13 gg)
  have g13 := hid (show w5.heap.size ≤ w13.heap.size by rw [h13.1]; exact g12.out)
  clear h13
  go_wp2_with fail
  refine (eqI_own _ _ v6 v3 E _ G13.out (O3.out.later c13.out)).mono ?_
  rintro e w14' ⟨rfl, d14, rfl⟩
  obtain ⟨w14, hw14⟩ : ∃ z, z = w13.drewN d14 := ⟨_, rfl⟩
  have e14 : Below w13.heap.size w13 w14 := by rw [hw14]; exact below_drewN (Below.refl _ _) _
  rw [← hw14]
  clear hw14
  have b14 := hid (b13.out.trans (e14.mono b13.out.size))
  have c14 := hid (c13.out.trans (e14.mono c13.out.size))
  have G14 := hid (G13.out.keep e14)
  have g14 := hid (Nat.le_trans g13.out e14.size)
  clear e14
  go_wp2_with fail
  refine (markI_own w5.heap.size v6 E _ G14.out g14.out).mono ?_
  rintro e w15 ⟨rfl, hM15, hB15, hs15⟩
  have b15 := hid (b14.out.trans (hB15.mono b5.out.size))
  have c15 := hid (c14.out.trans (hB15.mono c5.out.size))
  have M15 := hid hM15
  clear hM15 hB15 hs15
  go_wp2_with fail
  refine (heldI_own w5.heap.size v6 E.length _ M15.out).mono ?_
  rintro e w16' ⟨rfl, d16, rfl⟩
  obtain ⟨w16, hw16⟩ : ∃ z, z = w15.drewN d16 := ⟨_, rfl⟩
  have e16 : Below w15.heap.size w15 w16 := by rw [hw16]; exact below_drewN (Below.refl _ _) _
  rw [← hw16]
  clear hw16
  have b16 := hid (b15.out.trans (e16.mono b15.out.size))
  have c16 := hid (c15.out.trans (e16.mono c15.out.size))
  have M16 := hid (M15.out.keep e16)
  have I16 := hid (hI.out.below b16.out (Nat.le_refl _))
  clear e16
  go_wp2_with fail
  refine (toStack_any a len cap zs _ I16.out (by omega)).mono ?_
  rintro e w17 ⟨rfl, hB17, hS17, hg17⟩
  have b17 := hid (b16.out.trans (hB17.mono b16.out.size))
  have c17 := hid (c16.out.trans (hB17.mono c16.out.size))
  have M17 := hid (M16.out.keep hB17)
  have J17 := hid (hJ.out.below b17.out (Nat.le_refl _))
  go_wp2_with fail
  refine (toTicks_any a' len' cap' ts _ J17.out hle').mono ?_
  rintro e w18 ⟨rfl, hB18, hT18, hg18⟩
  have b18 := hid (b17.out.trans (hB18.mono b17.out.size))
  have c18 := hid (c17.out.trans (hB18.mono c17.out.size))
  have M18 := hid (M17.out.keep hB18)
  have hS18 := hS17.below hB18 hg17
  go_wp2_with fail
  refine (HM.out _ _ w18 hS18 hT18).mono ?_
  rintro e w19 ⟨v19, rfl, hO19, hB19⟩
  have b19 := hid (b18.out.trans (hB19.mono b18.out.size))
  have c19 := hid (c18.out.trans (hB19.mono c18.out.size))
  have M19 := hid (M18.out.keep hB19)
  have H19 := hid hO19
  clear hB17 hB18 hB19 hS17 hS18 hT18 hO19
  go_wp2_with fail
  refine (eqI_own _ _ v19 v3 E _ H19.out (O3.out.later c19.out)).mono ?_
  rintro e w20' ⟨rfl, d20, rfl⟩
  obtain ⟨w20, hw20⟩ : ∃ z, z = w19.drewN d20 := ⟨_, rfl⟩
  have e20 : Below w19.heap.size w19 w20 := by rw [hw20]; exact below_drewN (Below.refl _ _) _
  rw [← hw20]
  clear hw20
  have b20 := hid (b19.out.trans (e20.mono b19.out.size))
  have M20 := hid (M19.out.keep e20)
  clear e20
  go_wp2_with fail
  refine (heldI_own w5.heap.size v6 E.length _ M20.out).mono ?_
  rintro e w21' ⟨rfl, d21, rfl⟩
  go_wp2_with fail
  go_ret
  exact ⟨rfl, bE.out.trans ((below_drewN b20.out _).mono bE.out.size)⟩
end Go.Proofs.Ytnfgapgjkkeofaa
