/- The walk of the law over CountsByDay. -/
import Derived.Test.YtgehkjaeahhloaaCbd
import Derived.Test.YtgehkjaeahhloaaSamTt
import Derived.Test.YtgehkjaeahhloaaMarksT
namespace Go.Proofs.Ytgehkjaeahhloaa
open Go.RowKit
set_option linter.unusedVariables false
set_option maxHeartbeats 8000000 in
theorem law_FnExactCountsByDay (a : Option Addr) (len cap : Nat) (js : List (Int × Int)) (w : World) (hl : len ≤ 9223372036854775807) (h : InR w a len js) :
    Calls Try.prog 12 #[.slice a len cap] w fun e w' => e = .returned (.bool true) ∧ Below w.heap.size w w' := by
  have bE := hid (Below.refl w.heap.size w)
  have hJ := hid h
  have hm : Hid (len = js.length) := hid h.1.symm
  clear h
  by_cases hs : 1048576 < len
  · have HZ := hid (fun w => szTots_no a len cap w hs hl)
    go_enter Try.func12, Try.ntmps12
    go_wp2_with fail
    refine (HZ.out _).mono ?_
    rintro e w' ⟨rfl, rfl⟩
    go_wp2_with fail
    go_ret
    exact ⟨rfl, bE.out⟩
  have hle : len ≤ 1048576 := by omega
  have HZ := hid (fun w => szTots_ok a len cap w hle)
  have hz : (0 : Int) ≤ 1048576 - (len : Int) := by omega
  have HS := hid (fun b w1 (k : Rst w1 b js) => specCountsByDay_any b len len js hm.out w1 k)
  have HM := hid (fun b w1 (k : Rst w1 b js) => implCountsByDay_any b len len js hm.out w1 k)
  obtain ⟨⟨E, c⟩, hR⟩ : ∃ r, cbR js = r := ⟨_, rfl⟩
  rw [hR] at HS HM
  have d1 : (c != c) = false := by simp
  have d2 : ((1 + (E.length : Int)) != (1 + (E.length : Int))) = false := by simp
  have d3 : (0 : Int) ≤ 1 + (E.length : Int) := by omega
  have d4 : (0 : Int) ≤ 1 + 2 * (len : Int) := by omega
  have HRR := hid (fun (b : Nat) (w1 : World) (r : Row w1 b 99 (rcp js len len)) => Row.rstT (js := js) (by rw [hm.out] at r; exact r) (by rw [← hm.out]; exact hle))
  clear hR hs hl
  go_enter Try.func12, Try.ntmps12
  go_wp2_with fail
  refine (HZ.out _).mono ?_
  rintro e w' ⟨rfl, rfl⟩
  go_wp2_with fail
  refine (toTots_any a len cap js _ hJ.out hle).mono ?_
  rintro e w1 ⟨rfl, hB1, hT1, hg1⟩
  have b1 := hid hB1
  go_wp2_with fail
  refine (HS.out _ w1 hT1).mono ?_
  rintro e w3 ⟨v3, rfl, hO3, hB3⟩
  have b3 := hid (b1.out.trans (hB3.mono b1.out.size))
  have O3 := hid hO3
  have c3 := hid (Below.refl w3.heap.size w3)
  have J3 := hid (hJ.out.below b3.out (Nat.le_refl _))
  clear hB1 hT1 hB3 hO3
  go_wp2_with fail
  refine (toTotsR_any a len cap js _ J3.out hle).mono ?_
  rintro e w5 ⟨rfl, hB5, hY5, hg5⟩
  have b5 := hid (b3.out.trans (hB5.mono b3.out.size))
  have c5 := hid (c3.out.trans (hB5.mono c3.out.size))
  have Y5 := hid hY5
  have g5 := hid hg5
  clear hB5 hY5 hg5
  go_wp2_with fail
  refine (HM.out _ w5 (HRR.out _ _ Y5.out)).mono ?_
  rintro e w6 ⟨v6, rfl, hO6, hB6⟩
  have b6 := hid (b5.out.trans (hB6.mono b5.out.size))
  have c6 := hid (c5.out.trans (hB6.mono c5.out.size))
  have Y6 := hid (Y5.out.below hB6 Y5.out.lt)
  have G6 := hid hO6
  have g6 := hid hB6.size
  clear hB6 hO6
  go_wp2_with fail
  refine (eqI_own _ _ v6 v3 E _ G6.out (O3.out.later c6.out)).mono ?_
  rintro e w7' ⟨rfl, d7, rfl⟩
  obtain ⟨w7, hw7⟩ : ∃ z, z = w6.drewN d7 := ⟨_, rfl⟩
  have e7 : Below w6.heap.size w6 w7 := by rw [hw7]; exact below_drewN (Below.refl _ _) _
  rw [← hw7]
  clear hw7
  have b7 := hid (b6.out.trans (e7.mono b6.out.size))
  have c7 := hid (c6.out.trans (e7.mono c6.out.size))
  have Y7 := hid (Y6.out.below e7 Y6.out.lt)
  have G7 := hid (G6.out.keep e7)
  have g7 := hid (Nat.le_trans g6.out e7.size)
  have J9 := hid (hJ.out.below b7.out (Nat.le_refl _))
  clear e7
  go_wp2_with fail
  refine (toTots_any a len cap js _ J9.out hle).mono ?_
  rintro e w10 ⟨rfl, hB10, hT10, hg10⟩
  have b10 := hid (b7.out.trans (hB10.mono b7.out.size))
  have c10 := hid (c7.out.trans (hB10.mono c7.out.size))
  have Y10 := hid (Y7.out.below hB10 Y7.out.lt)
  have G10 := hid (G7.out.keep hB10)
  have g10 := hid (Nat.le_trans g7.out hB10.size)
  clear hB10
  go_wp2_with fail
  refine (eqTots_same _ _ len len len js w10 (HRR.out _ _ Y10.out) hT10 hm.out).mono ?_
  rintro e w11 ⟨rfl, hB11⟩
  have b11 := hid (b10.out.trans (hB11.mono b10.out.size))
  have c11 := hid (c10.out.trans (hB11.mono c10.out.size))
  have Y11 := hid (Y10.out.below hB11 Y10.out.lt)
  have G11 := hid (G10.out.keep hB11)
  have g11 := hid (Nat.le_trans g10.out hB11.size)
  clear hB11 hT10 hg10
  go_wp2_with fail
  refine (markTots_any _ len len _ (rcp_len js len len) hle 1 (by omega) _ Y11.out).mono ?_
  rintro e w13 ⟨rfl, h13⟩
  have b13 := hid (b11.out.trans (h13.2.2.mono b3.out.size))
  have c13 := hid (c11.out.trans (h13.2.2.mono c3.out.size))
  have G13 := hid (G11.out.only h13 g5.out)
  have g13 := hid (show w5.heap.size ≤ w13.heap.size by rw [h13.1]; exact g11.out)
  clear h13
  go_wp2_with fail
  refine (eqI_own _ _ v6 v3 E _ G13.out (O3.out.later c13.out)).mono ?_
  rintro e w14' ⟨rfl, d14, rfl⟩
  obtain ⟨w14, hw14⟩ : ∃ z, z = w13.drewN d14 := ⟨_, rfl⟩
  have e14 : Below w13.heap.size w13 w14 := by rw [hw14]; exact below_drewN (Below.refl _ _) _
  rw [← hw14]
  clear hw14
  have b14 := hid (b13.out.trans (e14.mono b13.out.size))
  have c14 := hid (c13.out.trans (e14.mono c13.out.size))
  have G14 := hid (G13.out.keep e14)
  have g14 := hid (Nat.le_trans g13.out e14.size)
  clear e14
  go_wp2_with fail
  refine (markI_own w5.heap.size v6 E _ G14.out g14.out).mono ?_
  rintro e w15 ⟨rfl, hM15, hB15, hs15⟩
  have b15 := hid (b14.out.trans (hB15.mono b5.out.size))
  have c15 := hid (c14.out.trans (hB15.mono c5.out.size))
  have M15 := hid hM15
  clear hM15 hB15 hs15
  go_wp2_with fail
  refine (heldI_own w5.heap.size v6 E.length _ M15.out).mono ?_
  rintro e w16' ⟨rfl, d16, rfl⟩
  obtain ⟨w16, hw16⟩ : ∃ z, z = w15.drewN d16 := ⟨_, rfl⟩
  have e16 : Below w15.heap.size w15 w16 := by rw [hw16]; exact below_drewN (Below.refl _ _) _
  rw [← hw16]
  clear hw16
  have b16 := hid (b15.out.trans (e16.mono b15.out.size))
  have c16 := hid (c15.out.trans (e16.mono c15.out.size))
  have M16 := hid (M15.out.keep e16)
  have J16 := hid (hJ.out.below b16.out (Nat.le_refl _))
  clear e16
  go_wp2_with fail
  refine (toTots_any a len cap js _ J16.out hle).mono ?_
  rintro e w18 ⟨rfl, hB18, hT18, hg18⟩
  have b18 := hid (b16.out.trans (hB18.mono b16.out.size))
  have c18 := hid (c16.out.trans (hB18.mono c16.out.size))
  have M18 := hid (M16.out.keep hB18)
  go_wp2_with fail
  refine (HM.out _ w18 hT18).mono ?_
  rintro e w19 ⟨v19, rfl, hO19, hB19⟩
  have b19 := hid (b18.out.trans (hB19.mono b18.out.size))
  have c19 := hid (c18.out.trans (hB19.mono c18.out.size))
  have M19 := hid (M18.out.keep hB19)
  have H19 := hid hO19
  clear hB18 hB19 hT18 hO19
  go_wp2_with fail
  refine (eqI_own _ _ v19 v3 E _ H19.out (O3.out.later c19.out)).mono ?_
  rintro e w20' ⟨rfl, d20, rfl⟩
  obtain ⟨w20, hw20⟩ : ∃ z, z = w19.drewN d20 := ⟨_, rfl⟩
  have e20 : Below w19.heap.size w19 w20 := by rw [hw20]; exact below_drewN (Below.refl _ _) _
  rw [← hw20]
  clear hw20
  have b20 := hid (b19.out.trans (e20.mono b19.out.size))
  have M20 := hid (M19.out.keep e20)
  clear e20
  go_wp2_with fail
  refine (heldI_own w5.heap.size v6 E.length _ M20.out).mono ?_
  rintro e w21' ⟨rfl, d21, rfl⟩
  go_wp2_with fail
  go_ret
  exact ⟨rfl, (below_drewN b20.out _)⟩
end Go.Proofs.Ytgehkjaeahhloaa
