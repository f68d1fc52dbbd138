/- The walk of the law over ConvergentsOf. -/
import Derived.Test.YtgkinoibidkicaaConvQ
import Derived.Test.YtgkinoibidkicaaOpenR
namespace Go.Proofs.Ytgkinoibidkicaa
open Go.RowKit
set_option linter.unusedVariables false
set_option maxHeartbeats 4000000 in
theorem law_FnExactConvergentsOf (p q : Int) (w : World) (hp : I64 p) (hq : I64 q) :
    Calls Try.prog 3 #[.agg #[.int .i64 p, .int .i64 q]] w fun e w' => e = .returned (.bool true) ∧ Below w.heap.size w w' := by
  have HS := hid (fun w => specConv_any p q hp hq w)
  have HM := hid (fun w => implConv_any p q hp hq w)
  obtain ⟨⟨zs, c⟩, hm⟩ : ∃ m, convR p q = m := ⟨_, rfl⟩
  rw [hm] at HS HM
  have d1 : (c != c) = false := by simp
  have d2 : ((1 + 2 * (zs.length : Int)) != (1 + 2 * (zs.length : Int))) = false := by simp
  have d3 : (0 : Int) ≤ 1 + 2 * (zs.length : Int) := by omega
  obtain ⟨W, hW⟩ : ∃ W, W = w.alloc (.cells #[.int .i64 p, .int .i64 q] 23) := ⟨_, rfl⟩
  have Q0 : Row W w.heap.size 23 [.int .i64 p, .int .i64 q] := by rw [hW]; exact Row.new w _ _
  have bE2 : Below w.heap.size w W := by rw [hW]; exact box2_bel w _ _ _
  have QQ := hid Q0
  have bb := hid bE2
  have hW2 := hid hW
  clear hm hp hq hW Q0 bE2
  go_enter Try.func3, Try.ntmps3
  go_upto_region 1 with fail
  rw [← hW2.out]
  have cells := QQ.out
  have c0 := cells.cell 0
  have c1 := cells.cell 1
  simp only [List.getElem?_cons_zero, List.getElem?_cons_succ] at c0 c1
  clear cells
  go_wp2_with fail
  refine (toRatio_any p q _).mono ?_
  rintro e w1 ⟨rfl, hB1⟩
  have b1 := hid (bb.out.trans (hB1.mono bb.out.size))
  have R1 := hid (QQ.out.below hB1 QQ.out.lt)
  clear c0 c1 hB1
  go_wp2_with fail
  refine (HS.out _).mono ?_
  rintro e w2 ⟨v0, rfl, hO0, hB2⟩
  have O0 := hid hO0
  have b2 := hid (b1.out.trans (hB2.mono b1.out.size))
  have R2 := hid (R1.out.below hB2 R1.out.lt)
  have c0 := R2.out.cell 0
  have c1 := R2.out.cell 1
  simp only [List.getElem?_cons_zero, List.getElem?_cons_succ] at c0 c1
  clear hO0 hB2
  go_wp2_with fail
  refine (toRatio_any p q _).mono ?_
  rintro e w3 ⟨rfl, hB3⟩
  have O3 := hid (O0.out.keep hB3)
  have b3 := hid (b2.out.trans (hB3.mono b2.out.size))
  have R3 := hid (R2.out.below hB3 R2.out.lt)
  clear c0 c1 hB3
  go_wp2_with fail
  refine (HM.out _).mono ?_
  rintro e w4 ⟨v1, rfl, hO1, hB4⟩
  have O4 := hid (O3.out.keep hB4)
  have G4 := hid hO1
  have b4 := hid (b3.out.trans (hB4.mono b3.out.size))
  have R4 := hid (R3.out.below hB4 R3.out.lt)
  have hz4 := hB4.size
  have HB4 := hid hB4
  have l3 := R3.out.lt
  clear hO1 hB4
  go_wp2_with fail
  refine (eqV_own _ _ v1 v0 zs _ G4.out O4.out).mono ?_
  rintro e w5 ⟨rfl, e5⟩
  have G5 := hid (G4.out.keep e5)
  have R5 := hid (R4.out.below e5 R4.out.lt)
  have b5 := hid (b4.out.trans (e5.mono b4.out.size))
  have c5 := hid (HB4.out.trans (e5.mono HB4.out.size))
  have l5 := hid l3
  clear e5
  go_wp2_with fail
  refine (markV_own w3.heap.size v1 zs _ G5.out).mono ?_
  rintro e w6 ⟨rfl, hM6, hB6, hs6⟩
  have M6 := hid hM6
  have R6 := hid (R5.out.below hB6 l5.out)
  have b6 := hid (b5.out.trans (hB6.mono b3.out.size))
  have c6 := hid (c5.out.trans hB6)
  clear hM6 hB6 hs6
  go_wp2_with fail
  refine (heldV_own w3.heap.size v1 zs.length _ M6.out).mono ?_
  rintro e w' ⟨rfl, d2', rfl⟩
  obtain ⟨w7, hw7⟩ : ∃ z, z = w6.drewN d2' := ⟨_, rfl⟩
  have e7 : Below w6.heap.size w6 w7 := by rw [hw7]; exact below_drewN (Below.refl _ _) _
  rw [← hw7]
  clear hw7
  have M7 := hid (M6.out.keep e7)
  have R7 := hid (R6.out.below e7 R6.out.lt)
  have b7 := hid (b6.out.trans (e7.mono b6.out.size))
  have c7 := hid (c6.out.trans (e7.mono c6.out.size))
  have c0 := R7.out.cell 0
  have c1 := R7.out.cell 1
  simp only [List.getElem?_cons_zero, List.getElem?_cons_succ] at c0 c1
  clear e7
  go_wp2_with fail
  refine (toRatio_any p q _).mono ?_
  rintro e w8 ⟨rfl, hB8⟩
  have M8 := hid (M7.out.keep hB8)
  have b8 := hid (b7.out.trans (hB8.mono b7.out.size))
  have c8 := hid (c7.out.trans (hB8.mono c7.out.size))
  clear c0 c1 hB8
  go_wp2_with fail
  refine (HM.out _).mono ?_
  rintro e w9 ⟨v2, rfl, hO2, hB9⟩
  have H9 := hid hO2
  have M9 := hid (M8.out.keep hB9)
  have b9 := hid (b8.out.trans (hB9.mono b8.out.size))
  have c9 := hid (c8.out.trans (hB9.mono c8.out.size))
  clear hO2 hB9
  go_wp2_with fail
  refine (eqV_own _ _ v2 v0 zs _ H9.out (O3.out.low (Below.refl _ _) (Nat.le_refl _) c9.out)).mono ?_
  rintro e w10 ⟨rfl, e10⟩
  have M10 := hid (M9.out.keep e10)
  have b10 := hid (b9.out.trans (e10.mono b9.out.size))
  clear e10
  go_wp2_with fail
  refine (heldV_own w3.heap.size v1 zs.length _ M10.out).mono ?_
  rintro e w' ⟨rfl, d4', rfl⟩
  go_wp2_with fail
  go_ret
  exact ⟨rfl, b10.out.trans (below_drewN (Below.refl _ _) _)⟩
end Go.Proofs.Ytgkinoibidkicaa
