/- The walk of the law over BackTrain. -/
import Derived.Test.YteangabkpaamcaaBackS
import Derived.Test.YteangabkpaamcaaMarksP
namespace Go.Proofs.Yteangabkpaamcaa
open Go.RowKit
set_option linter.unusedVariables false
theorem szTrain_ok (a : Option Addr) (len cap : Nat) (w : World) (h : len ≤ 1048576) : Calls Try.prog 11 #[.slice a len cap, .int .i64 1048576] w fun e w' => e = .returned (.int .i64 (1048576 - len)) ∧ w = w' := by
  have h1 : (0 : Int) ≤ 1048576 - (len : Int) := by omega
  go_enter Try.func11, Try.ntmps11
  go_wp2
  go_ret
  exact ⟨rfl, rfl⟩
theorem szTrain_no (a : Option Addr) (len cap : Nat) (w : World) (h : 1048576 < len) (hl : len ≤ 9223372036854775807) : Calls Try.prog 11 #[.slice a len cap, .int .i64 1048576] w fun e w' => e = .returned (.int .i64 (-1)) ∧ w = w' := by
  have h1 : 1048576 - (len : Int) < 0 := by omega
  go_enter Try.func11, Try.ntmps11
  go_wp2
  go_ret
  exact ⟨rfl, rfl⟩
set_option maxHeartbeats 8000000 in
theorem law_FnExactBackTrain (a : Option Addr) (len cap : Nat) (js : List (Int × Int)) (w : World) (hl : len ≤ 9223372036854775807) (h : InP w a len js) :
    Calls Try.prog 4 #[.slice a len cap] w fun e w' => e = .returned (.bool true) ∧ Below w.heap.size w w' := by
  by_cases hs : 1048576 < len
  · clear h
    go_enter Try.func4, Try.ntmps4
    go_wp2_with (go_at_call 11; refine (szTrain_no a len cap _ hs hl).mono ?_; rintro e w' ⟨rfl, rfl⟩)
    go_ret
    exact ⟨rfl, Below.refl _ _⟩
  have hle : len ≤ 1048576 := by omega
  have HZ := hid (fun w => szTrain_ok a len cap w hle)
  have hz : (0 : Int) ≤ 1048576 - (len : Int) := by omega
  have hI := hid h
  have hn : Hid (len = js.length) := hid h.1.symm
  have hbd : Hid (Bd16 js) := hid (fun j hj => h.2.1 j (by rw [← h.1]; exact hj))
  have HS := hid (fun b w1 (k : Pst w1 b js) => specBackT_any b len len js hn.out hbd.out w1 k)
  have HM := hid (fun b w1 (k : Pst w1 b js) => implBackT_any b len len js hn.out hbd.out w1 k)
  obtain ⟨⟨E, c⟩, hR⟩ : ∃ r, backT js = r := ⟨_, rfl⟩
  rw [hR] at HS HM
  have d1 : (c != c) = false := by simp
  have d2 : ((1 + 2 * (E.length : Int)) != (1 + 2 * (E.length : Int))) = false := by simp
  have d3 : (0 : Int) ≤ 1 + 2 * (E.length : Int) := by omega
  have d4 : (0 : Int) ≤ 1 + 2 * (len : Int) := by omega
  have HRR := hid (fun (b : Nat) (w1 : World) (r : Row w1 b 54 (prcp js len len)) => Row.pst (js := js) (by rw [hn.out] at r; exact r) (by rw [← hn.out]; exact hle))
  clear hR hs hl h
  go_enter Try.func4, Try.ntmps4
  go_wp2_with fail
  refine (HZ.out _).mono ?_
  rintro e w' ⟨rfl, rfl⟩
  go_wp2_with fail
  refine (toPairs_any a len cap js _ hI.out hle).mono ?_
  rintro e w2 ⟨rfl, hB2, hT2, hg2⟩
  have b2 := hid hB2
  go_wp2_with fail
  refine (HS.out _ w2 hT2).mono ?_
  rintro e w3 ⟨v3, rfl, hO3, hB3⟩
  have b3 := hid (b2.out.trans (hB3.mono b2.out.size))
  have O3 := hid hO3
  have I3 := hid (hI.out.below b3.out (Nat.le_refl _))
  clear hB2 hB3 hT2 hO3
  go_wp2_with fail
  refine (toPairsR_any a len cap js _ I3.out hle).mono ?_
  rintro e w5 ⟨rfl, hB5, hY5, hg5⟩
  have b5 := hid (b3.out.trans (hB5.mono b3.out.size))
  have c5 := hid hB5
  have Y5 := hid hY5
  have gg : w3.heap.size < w5.heap.size := hg5
  clear hB5 hY5 hg5
  go_wp2_with fail
  refine (HM.out _ w5 (HRR.out _ _ Y5.out)).mono ?_
  rintro e w6 ⟨v6, rfl, hO6, hB6⟩
  have b6 := hid (b5.out.trans (hB6.mono b5.out.size))
  have c6 := hid (c5.out.trans (hB6.mono c5.out.size))
  have Y6 := hid (Y5.out.below hB6 Y5.out.lt)
  have G6 := hid hO6
  have g6 := hid hB6.size
  clear hB6 hO6
  go_wp2_with fail
  refine (eqP_own _ _ v6 v3 E _ G6.out (O3.out.later c6.out)).mono ?_
  rintro e w7 ⟨rfl, hB7⟩
  have b7 := hid (b6.out.trans (hB7.mono b6.out.size))
  have c7 := hid (c6.out.trans (hB7.mono c6.out.size))
  have Y7 := hid (Y6.out.below hB7 Y6.out.lt)
  have G7 := hid (G6.out.keep hB7)
  have g7 := hid (Nat.le_trans g6.out hB7.size)
  have I7 := hid (hI.out.below b7.out (Nat.le_refl _))
  clear hB7
  go_wp2_with fail
  refine (toPairs_any a len cap js _ I7.out hle).mono ?_
  rintro e w10 ⟨rfl, hB10, hT10, hg10⟩
  have b10 := hid (b7.out.trans (hB10.mono b7.out.size))
  have c10 := hid (c7.out.trans (hB10.mono c7.out.size))
  have Y10 := hid (Y7.out.below hB10 Y7.out.lt)
  have G10 := hid (G7.out.keep hB10)
  have g10 := hid (Nat.le_trans g7.out hB10.size)
  clear hB10
  go_wp2_with fail
  refine (eqPairs_same _ _ len len len js w10 (HRR.out _ _ Y10.out) hT10 hn.out).mono ?_
  rintro e w11 ⟨rfl, hB11⟩
  have b11 := hid (b10.out.trans (hB11.mono b10.out.size))
  have c11 := hid (c10.out.trans (hB11.mono c10.out.size))
  have Y11 := hid (Y10.out.below hB11 Y10.out.lt)
  have G11 := hid (G10.out.keep hB11)
  have g11 := hid (Nat.le_trans g10.out hB11.size)
  clear hB11 hT10 hg10
  go_wp2_with fail
  refine (markTrain_any _ len len _ (prcp_len js len len) hle 1 (by omega) _ Y11.out).mono ?_
  rintro e w13 ⟨rfl, h13⟩
  have b13 := hid (b11.out.trans (h13.2.2.mono b3.out.size))
  have c13 := hid (c11.out.trans h13.2.2)
  have G13 := hid (G11.out.only h13 gg)
  have g13 := hid (show w5.heap.size ≤ w13.heap.size by rw [h13.1]; exact g11.out)
  clear h13
  go_wp2_with fail
  refine (eqP_own _ _ v6 v3 E _ G13.out (O3.out.later c13.out)).mono ?_
  rintro e w14 ⟨rfl, hB14⟩
  have b14 := hid (b13.out.trans (hB14.mono b13.out.size))
  have c14 := hid (c13.out.trans (hB14.mono c13.out.size))
  have G14 := hid (G13.out.keep hB14)
  clear hB14
  go_wp2_with fail
  refine (markP_own w5.heap.size v6 E _ G14.out).mono ?_
  rintro e w15 ⟨rfl, hM15, hB15, hs15⟩
  have b15 := hid (b14.out.trans (hB15.mono b5.out.size))
  have c15 := hid (c14.out.trans (hB15.mono c5.out.size))
  have M15 := hid hM15
  clear hM15 hB15 hs15
  go_wp2_with fail
  refine (heldP_own w5.heap.size v6 E.length _ M15.out).mono ?_
  rintro e w16' ⟨rfl, d16, rfl⟩
  obtain ⟨w16, hw16⟩ : ∃ z, z = w15.drewN d16 := ⟨_, rfl⟩
  have e16 : Below w15.heap.size w15 w16 := by rw [hw16]; exact below_drewN (Below.refl _ _) _
  rw [← hw16]
  clear hw16
  have b16 := hid (b15.out.trans (e16.mono b15.out.size))
  have c16 := hid (c15.out.trans (e16.mono c15.out.size))
  have M16 := hid (M15.out.keep e16)
  have I16 := hid (hI.out.below b16.out (Nat.le_refl _))
  clear e16
  go_wp2_with fail
  refine (toPairs_any a len cap js _ I16.out hle).mono ?_
  rintro e w18 ⟨rfl, hB18, hT18, hg18⟩
  have b18 := hid (b16.out.trans (hB18.mono b16.out.size))
  have c18 := hid (c16.out.trans (hB18.mono c16.out.size))
  have M18 := hid (M16.out.keep hB18)
  go_wp2_with fail
  refine (HM.out _ w18 hT18).mono ?_
  rintro e w19 ⟨v19, rfl, hO19, hB19⟩
  have b19 := hid (b18.out.trans (hB19.mono b18.out.size))
  have c19 := hid (c18.out.trans (hB19.mono c18.out.size))
  have M19 := hid (M18.out.keep hB19)
  have H19 := hid hO19
  clear hB18 hB19 hT18 hO19
  go_wp2_with fail
  refine (eqP_own _ _ v19 v3 E _ H19.out (O3.out.later c19.out)).mono ?_
  rintro e w20 ⟨rfl, hB20⟩
  have b20 := hid (b19.out.trans (hB20.mono b19.out.size))
  have M20 := hid (M19.out.keep hB20)
  clear hB20
  go_wp2_with fail
  refine (heldP_own w5.heap.size v6 E.length _ M20.out).mono ?_
  rintro e w21' ⟨rfl, d21, rfl⟩
  go_wp2_with fail
  go_ret
  exact ⟨rfl, below_drewN b20.out _⟩
end Go.Proofs.Yteangabkpaamcaa
