/- The walk of the law over SharesOf. -/
import Derived.Test.YtgehkjaeahhloaaShares
namespace Go.Proofs.Ytgehkjaeahhloaa
open Go.RowKit
set_option maxHeartbeats 4000000 in
theorem law_FnExactSharesOf (x0 : Int) (x1 : Int) (w : World) (hx0 : (Lit.int .i64 x0).wf = true) (hx1 : (Lit.int .i64 x1).wf = true) :
    Calls Try.prog 11 #[.int .i64 x0, .int .i64 x1] w fun e w' => e = .returned (.bool true) ∧ Below w.heap.size w w' := by
  have HS := hid (fun w => specSharesOf_any x0 x1 (wf64 hx0) (wf64 hx1) w)
  have HM := hid (fun w => implSharesOf_any x0 x1 (wf64 hx0) (wf64 hx1) w)
  obtain ⟨⟨zs, c⟩, hm⟩ : ∃ m, shR x0 x1 = m := ⟨_, rfl⟩
  rw [hm] at HS HM
  have d1 : (c != c) = false := by simp
  have d2 : ((1 + (zs.length : Int)) != (1 + (zs.length : Int))) = false := by simp
  have d3 : (0 : Int) ≤ 1 + (zs.length : Int) := by omega
  clear hm hx0 hx1
  go_enter Try.func11, Try.ntmps11
  go_wp2_with fail
  refine (HS.out _).mono ?_
  rintro e w2 ⟨v0, rfl, hO0, hB2⟩
  have O0 := hid hO0
  have b2 := hid hB2
  clear hO0 hB2
  go_wp2_with fail
  refine (HM.out _).mono ?_
  rintro e w4 ⟨v1, rfl, hO1, hB4⟩
  have O4 := hid (O0.out.keep hB4)
  have G4 := hid hO1
  have b4 := hid (b2.out.trans (hB4.mono b2.out.size))
  have hz4 := hB4.size
  have HB4 := hid hB4
  clear hO1 hB4
  go_wp2_with fail
  refine (eqI_own _ _ v1 v0 zs _ G4.out O4.out).mono ?_
  rintro e w' ⟨rfl, d, rfl⟩
  go_wp2_with fail
  refine (markI_own w2.heap.size v1 zs _ (G4.out.keep (below_drewN (Below.refl _ _) d)) (by simpa using hz4)).mono ?_
  rintro e w5 ⟨rfl, hM5, hB5, hs5⟩
  have M5 := hid hM5
  have O5 := hid (O0.out.low HB4.out (by omega) ((below_drewN (Below.refl w2.heap.size w4) d).trans hB5))
  have b5 := hid (b4.out.trans ((below_drewN (Below.refl w.heap.size w4) d).trans (hB5.mono b2.out.size)))
  clear hM5 hB5 hs5
  go_wp2_with fail
  refine (heldI_own w2.heap.size v1 zs.length _ M5.out).mono ?_
  rintro e w' ⟨rfl, d2', rfl⟩
  have M6 := hid (M5.out.keep (below_drewN (Below.refl _ _) d2'))
  have O6 := hid (O5.out.keep (below_drewN (Below.refl _ _) d2'))
  have b6 := hid (b5.out.trans (below_drewN (Below.refl w.heap.size w5) d2'))
  obtain ⟨w6, hw6⟩ : ∃ z, z = w5.drewN d2' := ⟨_, rfl⟩
  rw [← hw6] at M6 O6 b6 ⊢
  clear hw6
  go_wp2_with fail
  refine (HM.out _).mono ?_
  rintro e w8 ⟨v2, rfl, hO2, hB8⟩
  have H8 := hid hO2
  have O8 := hid (O6.out.keep hB8)
  have M8 := hid (M6.out.keep hB8)
  have b8 := hid (b6.out.trans (hB8.mono b6.out.size))
  clear hO2 hB8
  go_wp2_with fail
  refine (eqI_own _ _ v2 v0 zs _ H8.out O8.out).mono ?_
  rintro e w' ⟨rfl, d3', rfl⟩
  go_wp2_with fail
  refine (heldI_own w2.heap.size v1 zs.length _ (M8.out.keep (below_drewN (Below.refl _ _) d3'))).mono ?_
  rintro e w' ⟨rfl, d4', rfl⟩
  go_wp2_with fail
  go_ret
  exact ⟨rfl, b8.out.trans (below_drewN (Below.refl _ _) _)⟩
end Go.Proofs.Ytgehkjaeahhloaa
