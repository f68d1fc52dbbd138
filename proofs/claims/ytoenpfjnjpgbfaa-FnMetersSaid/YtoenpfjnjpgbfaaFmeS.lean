/- Meters that are drawn. -/
import Derived.Test.YtoenpfjnjpgbfaaFmeA
import Derived.Test.YtoenpfjnjpgbfaaFmeM
import Derived.Test.YtoenpfjnjpgbfaaMetV
import Derived.Test.YtoenpfjnjpgbfaaVals
namespace Go.Proofs.Ytoenpfjnjpgbfaa
open Go.RowKit
set_option linter.unusedVariables false
set_option linter.unusedSimpArgs false
theorem one_any (g i : Nat) (zs : List Int) (n : Int) (w : World) (h : SrcAt w g i zs) (hi : i ≤ 900000) (hn : n ≤ 4611686018427387904) :
    Calls Try.prog 30 #[.pointer (some ⟨g, 0, none⟩), .int .i64 n] w fun e w' => ∃ (b : Bool) (j : Nat), e = .returned (.bool b) ∧ i ≤ j ∧ j ≤ i + 2 ∧ SrcAt w' g j zs ∧ OnlyB g w w' := by
  have HP := hid (pick_any g i zs n w h hi hn)
  clear h hi hn
  go_enter Try.func30, Try.ntmps30
  go_wp2_with fail
  with_reducible refine HP.out.mono ?_
  rintro e w1 ⟨x, j, x0, x1, rfl, hj, hj2, hS, hO⟩
  have HS := hid hS; have HO := hid hO; have HJ := hid (And.intro hj hj2)
  clear hS hO hj hj2 x1
  by_cases hx : x = 0
  · have h1 : (x == 0) = true := by simpa using hx
    go_wp2_with fail
    go_ret
    exact ⟨true, j, by first | rfl | simp_all, HJ.out.1, HJ.out.2, HS.out, HO.out⟩
  · have h1 : (x == 0) = false := by simpa using hx
    go_wp2_with fail
    go_ret
    exact ⟨false, j, by first | rfl | simp_all, HJ.out.1, HJ.out.2, HS.out, HO.out⟩
/-- a meter that is drawn -/
def MeD (g : Nat) (w : World) (e : Ending) (w' : World) : Prop := ∃ (Z : List Int) (x y s : Int) (B : Nat), e = .returned (.agg #[.slice (some ⟨B, 0, none⟩) Z.length Z.length, .int .i64 x, .int .i64 y, .int .i64 s]) ∧ (Z = [10, 10] ∨ Z = [6, 4, 3]) ∧ (1 ≤ x ∧ x ≤ 9) ∧ (1 ≤ y ∧ y ≤ 9) ∧ (0 ≤ s ∧ s < szL Z) ∧ Stk w' B Z ∧ Below g w w'
theorem stk_row {w : World} {B : Nat} {zs : List Int} {T : TypeId} (h : Row w B T (zs.map (Value.int .u8))) (hz : ∀ z ∈ zs, 0 ≤ z ∧ z ≤ 255) (hl : zs.length ≤ 1048576) : Stk w B zs := by
  refine ⟨h.lt, ?_, hz, hl⟩
  intro j hj
  rw [h.cell j, List.getElem?_map, List.getElem?_eq_getElem hj]
  simp [hj]
set_option maxRecDepth 100000 in
set_option maxHeartbeats 4000000 in
theorem l06Drawn_any (g i : Nat) (zs : List Int) (w : World) (h : SrcAt w g i zs) (hi : i ≤ 800000) (hgw : g < w.heap.size) :
    Calls Try.prog 14 #[.pointer (some ⟨g, 0, none⟩)] w (MeD g w) := by
  obtain ⟨R, hR⟩ : ∃ R, w.heap.size = R := ⟨_, rfl⟩
  have s0 : (w.alloc (.cells #[.slice none 0 0, .int .i64 0, .int .i64 0, .int .i64 0] 26)).heap.size = R + 1 := by simp [hR]
  have rR := Row.new w 26 [.slice none 0 0, .int .i64 0, .int .i64 0, .int .i64 0]
  have rB := Row.new (w.alloc (.cells #[.slice none 0 0, .int .i64 0, .int .i64 0, .int .i64 0] 26)) 5 (([10, 10] : List Int).map (Value.int .u8))
  have rR' := rR.alloc (.cells #[.int .u8 10, .int .u8 10] 5)
  have b0 : Below w.heap.size w (w.alloc (.cells #[.slice none 0 0, .int .i64 0, .int .i64 0, .int .i64 0] 26)) := (Below.refl _ _).alloc (Nat.le_refl _) _
  have b1 : Below w.heap.size w ((w.alloc (.cells #[.slice none 0 0, .int .i64 0, .int .i64 0, .int .i64 0] 26)).alloc (.cells #[.int .u8 10, .int .u8 10] 5)) := b0.alloc b0.size _
  have s1 : ((w.alloc (.cells #[.slice none 0 0, .int .i64 0, .int .i64 0, .int .i64 0] 26)).alloc (.cells #[.int .u8 10, .int .u8 10] 5)).heap.size = R + 2 := by simp [hR]
  obtain ⟨V1, hV1⟩ : ∃ X, X = (w.alloc (.cells #[.slice none 0 0, .int .i64 0, .int .i64 0, .int .i64 0] 26)).alloc (.cells #[.int .u8 10, .int .u8 10] 5) := ⟨_, rfl⟩
  have rB' : Row V1 (R + 1) 5 (([10, 10] : List Int).map (Value.int .u8)) := by rw [hV1, ← s0]; exact rB
  rw [← hV1] at rR' b1 s1
  rw [hR] at rR' b1
  have src1 := h.below b1 (by omega)
  have HP1 := hid (pick_any g i zs 9 V1 src1 (by omega) (by omega))
  have HB1 := hid (b1.mono (show g ≤ R by omega)); have HS1 := hid s1; have HRR := hid rR'; have HRB := hid rB'; have HGR := hid (show g < R by omega); have HV1 := hid hV1; have HRW := hid hR
  clear h hgw rR rB rB' rR' b0 b1 s0 s1 src1 hV1
  go_enter Try.func14, Try.ntmps14
  go_wp2_with fail
  rw [← HV1.out]
  with_reducible refine HP1.out.mono ?_
  rintro e w2 ⟨x, j, x0, x1, rfl, hj, hj2, hS, hO⟩
  have wx : IntKind.i64.wrap (1 + x) = 1 + x := IntWalk.i64_in _ (by omega)
  have xb : 1 ≤ 1 + x ∧ 1 + x ≤ 9 := by omega
  obtain ⟨X, hX⟩ : ∃ X, 1 + x = X := ⟨_, rfl⟩
  rw [hX] at wx xb
  have b2 := HB1.out.trans hO.2.2
  have s2 : w2.heap.size = R + 2 := by rw [hO.1]; exact HS1.out
  have rR := hO.row HRR.out (by have := HGR.out; omega)
  have rB := hO.row HRB.out (by have := HGR.out; omega)
  have rM := Row.new w2 26 [.slice (some ⟨R + 1, 0, none⟩) 2 2, .int .i64 X, .int .i64 0, .int .i64 0]
  have a3 : Below w2.heap.size w2 (w2.alloc (.cells #[.slice (some ⟨R + 1, 0, none⟩) 2 2, .int .i64 X, .int .i64 0, .int .i64 0] 26)) := (Below.refl _ _).alloc (Nat.le_refl _) _
  have rR3 := rR.below a3 rR.lt
  have rB3 := rB.below a3 rB.lt
  have b3 := b2.trans (a3.mono (by have := HGR.out; omega))
  have s3 : (w2.alloc (.cells #[.slice (some ⟨R + 1, 0, none⟩) 2 2, .int .i64 X, .int .i64 0, .int .i64 0] 26)).heap.size = R + 3 := by simp [s2]
  have src3 := hS.below a3 (by have := HGR.out; omega)
  obtain ⟨V3, hV3⟩ : ∃ Y, Y = w2.alloc (.cells #[.slice (some ⟨R + 1, 0, none⟩) 2 2, .int .i64 X, .int .i64 0, .int .i64 0] 26) := ⟨_, rfl⟩
  rw [s2] at rM
  rw [← hV3] at rM rR3 rB3 b3 s3 src3
  have HV3 := hid hV3; have HS2 := hid s2; have XB := hid xb; have HJ := hid (And.intro hj hj2)
  have HP3 := hid (one_any g j zs 3 V3 src3 (by omega) (by omega))
  have RM := hid rM; have RR := hid rR3; have RB := hid rB3; have B3 := hid b3; have S3 := hid s3
  clear hS hO hj hj2 x0 x1 b2 s2 rR rB rM a3 rR3 rB3 b3 s3 src3 hV3 xb HB1 HS1 HRR HRB HP1 HV1 HRW
  go_upto_region 2 with fail
  rw [← HV3.out, HS2.out]
  go_wp2_with fail
  with_reducible refine HP3.out.mono ?_
  rintro e w4 ⟨b, j2, rfl, hj, hj2, hS, hO⟩
  have b4 := B3.out.trans hO.2.2
  have s4 : w4.heap.size = R + 3 := by rw [hO.1]; exact S3.out
  have rM := hO.row RM.out (by have := HGR.out; omega)
  have rR := hO.row RR.out (by have := HGR.out; omega)
  have rB := hO.row RB.out (by have := HGR.out; omega)
  have HJ2 := hid (And.intro hj hj2)
  have SRC := hid hS
  clear hS hO hj hj2 RM RR RB B3 S3 HP3 HV3 HS2
  cases b with
  | false =>
    have wz : szL ([10, 10] : List Int) = 100 := by decide
    have HP5 := hid (pick_any g j2 zs 9 w4 SRC.out (by have := HJ.out; have := HJ2.out; omega) (by omega))
    have RM := hid rM; have RR := hid rR; have RB := hid rB; have B4 := hid b4
    clear rM rR rB b4
    go_wp2_with fail
    with_reducible refine HP5.out.mono ?_
    rintro e w6 ⟨y, j3, y0, y1, rfl, hj, hj2, hS, hO⟩
    have wy : IntKind.i64.wrap (1 + y) = 1 + y := IntWalk.i64_in _ (by omega)
    have yb : 1 ≤ 1 + y ∧ 1 + y ≤ 9 := by omega
    obtain ⟨Y, hY⟩ : ∃ X, 1 + y = X := ⟨_, rfl⟩
    rw [hY] at wy yb
    have b6 := B4.out.trans hO.2.2
    have rM := hO.row RM.out (by have := HGR.out; omega)
    have rR := hO.row RR.out (by have := HGR.out; omega)
    have rB := hO.row RB.out (by have := HGR.out; omega)
    have fM := rM.frozen 2
    have c0 := rM.cell 0; have c1 := rM.cell 1; have c2 := rM.cell 2; have c3 := rM.cell 3
    simp only [List.getElem?_cons_zero, List.getElem?_cons_succ] at c0 c1 c2 c3
    have rM7 := rM.set 2 (.int .i64 Y)
    simp only [List.set_cons_zero, List.set_cons_succ] at rM7
    have rR7 := rR.other (a := ⟨R + 2, 2, none⟩) (by show R + 2 ≠ R; omega) (.int .i64 Y)
    have rB7 := rB.other (a := ⟨R + 2, 2, none⟩) (by show R + 2 ≠ (R + 1); omega) (.int .i64 Y)
    have b7 := b6.setCell (p := ⟨R + 2, 2, none⟩) (show g ≤ R + 2 by have := HGR.out; omega) (.int .i64 Y)
    have src7 : SrcAt (w6.setCell ⟨R + 2, 2, none⟩ (.int .i64 Y)) g j3 zs := hS.below ((Below.refl (g + 1) w6).setCell (p := ⟨R + 2, 2, none⟩) (show g + 1 ≤ R + 2 by have := HGR.out; omega) (.int .i64 Y)) (by omega)
    obtain ⟨V7, hV7⟩ : ∃ X, X = w6.setCell ⟨R + 2, 2, none⟩ (.int .i64 Y) := ⟨_, rfl⟩
    rw [← hV7] at rM7 rR7 rB7 b7 src7
    have hst := stk_row (zs := ([10, 10] : List Int)) rB7 (by decide) (by decide)
    have HSZ := hid (l01Size_me (R + 1) 2 2 ([10, 10] : List Int) rfl (by decide) V7 hst)
    rw [wz] at HSZ
    have HP7 := hid (pick_any g j3 zs 100 V7 src7 (by have := HJ.out; have := HJ2.out; omega) (by omega))
    have HV7 := hid hV7; have YB := hid yb
    have m0 := rM7.cell 0
    simp only [List.getElem?_cons_zero, List.getElem?_cons_succ] at m0
    have RM7 := hid rM7; have RR7 := hid rR7; have RB7 := hid rB7; have B7 := hid b7
    clear hV7 rM rR rB b6 rM7 rR7 rB7 b7 src7 hst hS hO hj hj2 y0 y1 yb RM RR RB B4 HP5 SRC
    go_upto_region 5 with fail
    rw [← HV7.out]
    clear c0 c1 c2 c3 fM
    go_wp2_with fail
    with_reducible refine HSZ.out.mono ?_
    rintro e v8 ⟨rfl, hw⟩
    subst hw
    go_wp2_with fail
    with_reducible refine HP7.out.mono ?_
    rintro e w9 ⟨s, j4, z0, z1, rfl, hj, hj2, hS, hO⟩
    have zb : 0 ≤ s ∧ s < 100 := by omega
    have b9 := B7.out.trans hO.2.2
    have rM := hO.row RM7.out (by have := HGR.out; omega)
    have rR := hO.row RR7.out (by have := HGR.out; omega)
    have rB := hO.row RB7.out (by have := HGR.out; omega)
    have fM := rM.frozen 3
    have c0 := rM.cell 0; have c1 := rM.cell 1; have c2 := rM.cell 2; have c3 := rM.cell 3
    simp only [List.getElem?_cons_zero, List.getElem?_cons_succ] at c0 c1 c2 c3
    have rM7 := rM.set 3 (.int .i64 s)
    simp only [List.set_cons_zero, List.set_cons_succ] at rM7
    have rR7 := rR.other (a := ⟨R + 2, 3, none⟩) (by show R + 2 ≠ R; omega) (.int .i64 s)
    have rB7 := rB.other (a := ⟨R + 2, 3, none⟩) (by show R + 2 ≠ (R + 1); omega) (.int .i64 s)
    have b7 := b9.setCell (p := ⟨R + 2, 3, none⟩) (show g ≤ R + 2 by have := HGR.out; omega) (.int .i64 s)
    obtain ⟨V9, hV9⟩ : ∃ X, X = w9.setCell ⟨R + 2, 3, none⟩ (.int .i64 s) := ⟨_, rfl⟩
    rw [← hV9] at rM7 rR7 rB7 b7
    have HV9 := hid hV9
    clear hV9 rM rR rB b9 hS hO hj hj2 z0 z1 m0
    go_upto_region 6 with fail
    rw [← HV9.out]
    clear c0 c1 c2 c3 fM
    have c0 := rM7.cell 0; have c1 := rM7.cell 1; have c2 := rM7.cell 2; have c3 := rM7.cell 3
    simp only [List.getElem?_cons_zero, List.getElem?_cons_succ] at c0 c1 c2 c3
    have q0 := rR7.cell 0; have q1 := rR7.cell 1; have q2 := rR7.cell 2; have q3 := rR7.cell 3
    simp only [List.getElem?_cons_zero, List.getElem?_cons_succ] at q0 q1 q2 q3
    have g0 := rR7.frozen 0; have g1 := rR7.frozen 1; have g2 := rR7.frozen 2; have g3 := rR7.frozen 3
    have rE := (((rR7.set 0 (.slice (some ⟨(R + 1), 0, none⟩) 2 2)).set 1 (.int .i64 X)).set 2 (.int .i64 Y)).set 3 (.int .i64 s)
    simp only [List.set_cons_zero, List.set_cons_succ] at rE
    have e0 := rE.cell 0; have e1 := rE.cell 1; have e2 := rE.cell 2; have e3 := rE.cell 3
    simp only [List.getElem?_cons_zero, List.getElem?_cons_succ] at e0 e1 e2 e3
    have gR : g ≤ R := by have := HGR.out; omega
    have bE := hid ((((b7.setCell (p := ⟨R, 0, none⟩) gR (.slice (some ⟨(R + 1), 0, none⟩) 2 2)).setCell (p := ⟨R, 1, none⟩) gR (.int .i64 X)).setCell (p := ⟨R, 2, none⟩) gR (.int .i64 Y)).setCell (p := ⟨R, 3, none⟩) gR (.int .i64 s))
    have rBE := hid ((((rB7.other (a := ⟨R, 0, none⟩) (by show R ≠ (R + 1); omega) (.slice (some ⟨(R + 1), 0, none⟩) 2 2)).other (a := ⟨R, 1, none⟩) (by show R ≠ (R + 1); omega) (.int .i64 X)).other (a := ⟨R, 2, none⟩) (by show R ≠ (R + 1); omega) (.int .i64 Y)).other (a := ⟨R, 3, none⟩) (by show R ≠ (R + 1); omega) (.int .i64 s))
    have ZB := hid zb
    clear rE rM7 rR7 rB7 b7 gR zb
    go_wp2_with fail
    exact bodyPost_ret (v := .agg #[.slice (some ⟨(R + 1), 0, none⟩) 2 2, .int .i64 X, .int .i64 Y, .int .i64 s]) (by simp [results, Try.results14, go_sem, e0, e1, e2, e3]) rfl ⟨([10, 10] : List Int), X, Y, s, (R + 1), rfl, .inl rfl, XB.out, YB.out, by rw [wz]; exact ZB.out, stk_row (zs := ([10, 10] : List Int)) rBE.out (by decide) (by decide), bE.out⟩
  | true =>
    have rQ := Row.new w4 5 (([6, 4, 3] : List Int).map (Value.int .u8))
    have a5 : Below w4.heap.size w4 (w4.alloc (.cells #[.int .u8 6, .int .u8 4, .int .u8 3] 5)) := (Below.refl _ _).alloc (Nat.le_refl _) _
    have rM5 := rM.below a5 rM.lt
    have rR5 := rR.below a5 rR.lt
    have fM := rM5.frozen 0
    have c0 := rM5.cell 0; have c1 := rM5.cell 1; have c2 := rM5.cell 2; have c3 := rM5.cell 3
    simp only [List.getElem?_cons_zero, List.getElem?_cons_succ] at c0 c1 c2 c3
    have rM6 := rM.set 0 (.slice (some ⟨R + 3, 0, none⟩) 3 3)
    simp only [List.set_cons_zero, List.set_cons_succ] at rM6
    have rR6 := rR.other (a := ⟨R + 2, 0, none⟩) (by show R + 2 ≠ R; omega) (.slice (some ⟨R + 3, 0, none⟩) 3 3)
    have b6 := b4.setCell (p := ⟨R + 2, 0, none⟩) (show g ≤ R + 2 by have := HGR.out; omega) (.slice (some ⟨R + 3, 0, none⟩) 3 3)
    have src6 := SRC.out.below ((Below.refl (g + 1) w4).setCell (p := ⟨R + 2, 0, none⟩) (show g + 1 ≤ R + 2 by have := HGR.out; omega) (.slice (some ⟨R + 3, 0, none⟩) 3 3)) (by omega)
    have s6 : (w4.setCell ⟨R + 2, 0, none⟩ (.slice (some ⟨R + 3, 0, none⟩) 3 3)).heap.size = R + 3 := by simpa using s4
    have rQ7 := Row.new (w4.setCell ⟨R + 2, 0, none⟩ (.slice (some ⟨R + 3, 0, none⟩) 3 3)) 5 (([6, 4, 3] : List Int).map (Value.int .u8))
    rw [s6] at rQ7
    obtain ⟨U5, hU5⟩ : ∃ X, X = w4.setCell ⟨R + 2, 0, none⟩ (.slice (some ⟨R + 3, 0, none⟩) 3 3) := ⟨_, rfl⟩
    rw [← hU5] at rM6 rR6 b6 src6 s6 rQ7
    have a6 : Below U5.heap.size U5 (U5.alloc (.cells #[.int .u8 6, .int .u8 4, .int .u8 3] 5)) := (Below.refl _ _).alloc (Nat.le_refl _) _
    replace rM6 := rM6.below a6 rM6.lt
    replace rR6 := rR6.below a6 rR6.lt
    replace b6 := b6.trans (a6.mono (by have := HGR.out; omega))
    replace src6 := src6.below a6 (by have := HGR.out; omega)
    obtain ⟨V5, hV5⟩ : ∃ X, X = U5.alloc (.cells #[.int .u8 6, .int .u8 4, .int .u8 3] 5) := ⟨_, rfl⟩
    have rQ8 : Row V5 (R + 3) 5 (([6, 4, 3] : List Int).map (Value.int .u8)) := by rw [hV5]; exact rQ7
    rw [← hV5] at rM6 rR6 b6 src6
    rw [hU5] at hV5
    clear hU5 a6 rQ7 s6
    have rQ7 := rQ8
    clear rQ8
    have HV5 := hid hV5; have HS4 := hid s4
    clear rB b4 SRC rQ a5 rM5 rR5 rM rR hV5
    have SRC := hid src6
    have RM6 := hid rM6; have RR6 := hid rR6; have RQ7 := hid rQ7; have B6 := hid b6
    clear src6 rM6 rR6 rQ7 b6
    go_upto_region 4 with fail
    rw [show (w4.setCell ⟨R + 2, 0, none⟩ (.slice (some ⟨R + 3, 0, none⟩) 3 3)).alloc (.cells #[.int .u8 6, .int .u8 4, .int .u8 3] 5) = V5 from HV5.out.symm]
    clear c0 c1 c2 c3 fM s4
    have rM := RM6.out; have rR := RR6.out; have rB := RQ7.out; have b4 := B6.out
    clear RM6 RR6 RQ7 B6
    have wz : szL ([6, 4, 3] : List Int) = 72 := by decide
    have HP5 := hid (pick_any g j2 zs 9 V5 SRC.out (by have := HJ.out; have := HJ2.out; omega) (by omega))
    have RM := hid rM; have RR := hid rR; have RB := hid rB; have B4 := hid b4
    clear rM rR rB b4
    go_wp2_with fail
    with_reducible refine HP5.out.mono ?_
    rintro e w6 ⟨y, j3, y0, y1, rfl, hj, hj2, hS, hO⟩
    have wy : IntKind.i64.wrap (1 + y) = 1 + y := IntWalk.i64_in _ (by omega)
    have yb : 1 ≤ 1 + y ∧ 1 + y ≤ 9 := by omega
    obtain ⟨Y, hY⟩ : ∃ X, 1 + y = X := ⟨_, rfl⟩
    rw [hY] at wy yb
    have b6 := B4.out.trans hO.2.2
    have rM := hO.row RM.out (by have := HGR.out; omega)
    have rR := hO.row RR.out (by have := HGR.out; omega)
    have rB := hO.row RB.out (by have := HGR.out; omega)
    have fM := rM.frozen 2
    have c0 := rM.cell 0; have c1 := rM.cell 1; have c2 := rM.cell 2; have c3 := rM.cell 3
    simp only [List.getElem?_cons_zero, List.getElem?_cons_succ] at c0 c1 c2 c3
    have rM7 := rM.set 2 (.int .i64 Y)
    simp only [List.set_cons_zero, List.set_cons_succ] at rM7
    have rR7 := rR.other (a := ⟨R + 2, 2, none⟩) (by show R + 2 ≠ R; omega) (.int .i64 Y)
    have rB7 := rB.other (a := ⟨R + 2, 2, none⟩) (by show R + 2 ≠ (R + 3); omega) (.int .i64 Y)
    have b7 := b6.setCell (p := ⟨R + 2, 2, none⟩) (show g ≤ R + 2 by have := HGR.out; omega) (.int .i64 Y)
    have src7 : SrcAt (w6.setCell ⟨R + 2, 2, none⟩ (.int .i64 Y)) g j3 zs := hS.below ((Below.refl (g + 1) w6).setCell (p := ⟨R + 2, 2, none⟩) (show g + 1 ≤ R + 2 by have := HGR.out; omega) (.int .i64 Y)) (by omega)
    obtain ⟨V7, hV7⟩ : ∃ X, X = w6.setCell ⟨R + 2, 2, none⟩ (.int .i64 Y) := ⟨_, rfl⟩
    rw [← hV7] at rM7 rR7 rB7 b7 src7
    have hst := stk_row (zs := ([6, 4, 3] : List Int)) rB7 (by decide) (by decide)
    have HSZ := hid (l01Size_me (R + 3) 3 3 ([6, 4, 3] : List Int) rfl (by decide) V7 hst)
    rw [wz] at HSZ
    have HP7 := hid (pick_any g j3 zs 72 V7 src7 (by have := HJ.out; have := HJ2.out; omega) (by omega))
    have HV7 := hid hV7; have YB := hid yb
    have m0 := rM7.cell 0
    simp only [List.getElem?_cons_zero, List.getElem?_cons_succ] at m0
    have RM7 := hid rM7; have RR7 := hid rR7; have RB7 := hid rB7; have B7 := hid b7
    clear hV7 rM rR rB b6 rM7 rR7 rB7 b7 src7 hst hS hO hj hj2 y0 y1 yb RM RR RB B4 HP5 SRC
    go_upto_region 5 with fail
    rw [← HV7.out]
    clear c0 c1 c2 c3 fM
    go_wp2_with fail
    with_reducible refine HSZ.out.mono ?_
    rintro e v8 ⟨rfl, hw⟩
    subst hw
    go_wp2_with fail
    with_reducible refine HP7.out.mono ?_
    rintro e w9 ⟨s, j4, z0, z1, rfl, hj, hj2, hS, hO⟩
    have zb : 0 ≤ s ∧ s < 72 := by omega
    have b9 := B7.out.trans hO.2.2
    have rM := hO.row RM7.out (by have := HGR.out; omega)
    have rR := hO.row RR7.out (by have := HGR.out; omega)
    have rB := hO.row RB7.out (by have := HGR.out; omega)
    have fM := rM.frozen 3
    have c0 := rM.cell 0; have c1 := rM.cell 1; have c2 := rM.cell 2; have c3 := rM.cell 3
    simp only [List.getElem?_cons_zero, List.getElem?_cons_succ] at c0 c1 c2 c3
    have rM7 := rM.set 3 (.int .i64 s)
    simp only [List.set_cons_zero, List.set_cons_succ] at rM7
    have rR7 := rR.other (a := ⟨R + 2, 3, none⟩) (by show R + 2 ≠ R; omega) (.int .i64 s)
    have rB7 := rB.other (a := ⟨R + 2, 3, none⟩) (by show R + 2 ≠ (R + 3); omega) (.int .i64 s)
    have b7 := b9.setCell (p := ⟨R + 2, 3, none⟩) (show g ≤ R + 2 by have := HGR.out; omega) (.int .i64 s)
    obtain ⟨V9, hV9⟩ : ∃ X, X = w9.setCell ⟨R + 2, 3, none⟩ (.int .i64 s) := ⟨_, rfl⟩
    rw [← hV9] at rM7 rR7 rB7 b7
    have HV9 := hid hV9
    clear hV9 rM rR rB b9 hS hO hj hj2 z0 z1 m0
    go_upto_region 6 with fail
    rw [← HV9.out]
    clear c0 c1 c2 c3 fM
    have c0 := rM7.cell 0; have c1 := rM7.cell 1; have c2 := rM7.cell 2; have c3 := rM7.cell 3
    simp only [List.getElem?_cons_zero, List.getElem?_cons_succ] at c0 c1 c2 c3
    have q0 := rR7.cell 0; have q1 := rR7.cell 1; have q2 := rR7.cell 2; have q3 := rR7.cell 3
    simp only [List.getElem?_cons_zero, List.getElem?_cons_succ] at q0 q1 q2 q3
    have g0 := rR7.frozen 0; have g1 := rR7.frozen 1; have g2 := rR7.frozen 2; have g3 := rR7.frozen 3
    have rE := (((rR7.set 0 (.slice (some ⟨(R + 3), 0, none⟩) 3 3)).set 1 (.int .i64 X)).set 2 (.int .i64 Y)).set 3 (.int .i64 s)
    simp only [List.set_cons_zero, List.set_cons_succ] at rE
    have e0 := rE.cell 0; have e1 := rE.cell 1; have e2 := rE.cell 2; have e3 := rE.cell 3
    simp only [List.getElem?_cons_zero, List.getElem?_cons_succ] at e0 e1 e2 e3
    have gR : g ≤ R := by have := HGR.out; omega
    have bE := hid ((((b7.setCell (p := ⟨R, 0, none⟩) gR (.slice (some ⟨(R + 3), 0, none⟩) 3 3)).setCell (p := ⟨R, 1, none⟩) gR (.int .i64 X)).setCell (p := ⟨R, 2, none⟩) gR (.int .i64 Y)).setCell (p := ⟨R, 3, none⟩) gR (.int .i64 s))
    have rBE := hid ((((rB7.other (a := ⟨R, 0, none⟩) (by show R ≠ (R + 3); omega) (.slice (some ⟨(R + 3), 0, none⟩) 3 3)).other (a := ⟨R, 1, none⟩) (by show R ≠ (R + 3); omega) (.int .i64 X)).other (a := ⟨R, 2, none⟩) (by show R ≠ (R + 3); omega) (.int .i64 Y)).other (a := ⟨R, 3, none⟩) (by show R ≠ (R + 3); omega) (.int .i64 s))
    have ZB := hid zb
    clear rE rM7 rR7 rB7 b7 gR zb
    go_wp2_with fail
    exact bodyPost_ret (v := .agg #[.slice (some ⟨(R + 3), 0, none⟩) 3 3, .int .i64 X, .int .i64 Y, .int .i64 s]) (by simp [results, Try.results14, go_sem, e0, e1, e2, e3]) rfl ⟨([6, 4, 3] : List Int), X, Y, s, (R + 3), rfl, .inr rfl, XB.out, YB.out, by rw [wz]; exact ZB.out, stk_row (zs := ([6, 4, 3] : List Int)) rBE.out (by decide) (by decide), bE.out⟩
theorem a2Meter_any (a : Option Addr) (len cap : Nat) (zs : List Int) (w : World) (h : InB w a len zs) (hl : len ≤ 4096) :
    Calls Try.prog 5 #[.slice a len cap] w fun e w' => ∃ (Z : List Int) (x y s : Int) (B : Nat), e = .returned (.agg #[.slice (some ⟨B, 0, none⟩) Z.length Z.length, .int .i64 x, .int .i64 y, .int .i64 s]) ∧ (Z = [10, 10] ∨ Z = [6, 4, 3]) ∧ (1 ≤ x ∧ x ≤ 9) ∧ (1 ≤ y ∧ y ≤ 9) ∧ (0 ≤ s ∧ s < szL Z) ∧ Stk w' B Z ∧ Below w.heap.size w w' := by
  have rR := Row.new w 26 [.slice none 0 0, .int .i64 0, .int .i64 0, .int .i64 0]
  have bR : Below w.heap.size w (w.alloc (.cells #[.slice none 0 0, .int .i64 0, .int .i64 0, .int .i64 0] 26)) := (Below.refl _ _).alloc (Nat.le_refl _) _
  obtain ⟨V, hV⟩ : ∃ X, X = w.alloc (.cells #[.slice none 0 0, .int .i64 0, .int .i64 0, .int .i64 0] 26) := ⟨_, rfl⟩
  obtain ⟨R, hR⟩ : ∃ R, w.heap.size = R := ⟨_, rfl⟩
  have sV : V.heap.size = R + 1 := by rw [hV]; simp [hR]
  rw [← hV] at rR bR
  have HF := hid (from_any a len cap zs V (h.below bR (Nat.le_refl _)) hl)
  rw [hR] at rR bR
  have RR := hid rR; have BR := hid bR; have SV := hid sV; have HV := hid hV; have HR := hid hR
  clear h hl rR bR sV hV
  go_enter Try.func5, Try.ntmps5
  go_wp2_with fail
  rw [← HV.out]
  with_reducible refine HF.out.mono ?_
  rintro e w1 ⟨rfl, hS, hB, hz⟩
  have HD := hid (l06Drawn_any V.heap.size 0 zs w1 hS (by omega) (by omega))
  have r1 := RR.out.below hB (by have := SV.out; omega)
  have b1 := BR.out.trans (hB.mono (by have := SV.out; omega))
  have R1 := hid r1; have B1 := hid b1
  clear hS hB hz r1 b1 HF
  go_wp2_with fail
  with_reducible refine HD.out.mono ?_
  rintro e w2 ⟨Z, x, y, s, B, rfl, hZ, hx, hy, hs, hst, hB⟩
  have r2 := R1.out.below hB (by have := SV.out; omega)
  have b2 := B1.out.trans (hB.mono (by have := SV.out; omega))
  have hne : R ≠ B := fun e => by
    subst e
    have r0 := r2.cell 0
    have c0 := hst.2.1 0 (by rcases hZ with rfl | rfl <;> decide)
    rw [c0] at r0
    cases r0
  have c0 := r2.cell 0; have c1 := r2.cell 1; have c2 := r2.cell 2; have c3 := r2.cell 3
  simp only [List.getElem?_cons_zero, List.getElem?_cons_succ] at c0 c1 c2 c3
  have g0 := r2.frozen 0; have g1 := r2.frozen 1; have g2 := r2.frozen 2; have g3 := r2.frozen 3
  have rE := (((r2.set 0 (.slice (some ⟨B, 0, none⟩) Z.length Z.length)).set 1 (.int .i64 x)).set 2 (.int .i64 y)).set 3 (.int .i64 s)
  simp only [List.set_cons_zero, List.set_cons_succ] at rE
  have e0 := rE.cell 0; have e1 := rE.cell 1; have e2 := rE.cell 2; have e3 := rE.cell 3
  simp only [List.getElem?_cons_zero, List.getElem?_cons_succ] at e0 e1 e2 e3
  have bE := hid ((((b2.setCell (p := ⟨R, 0, none⟩) (Nat.le_refl _) (.slice (some ⟨B, 0, none⟩) Z.length Z.length)).setCell (p := ⟨R, 1, none⟩) (Nat.le_refl _) (.int .i64 x)).setCell (p := ⟨R, 2, none⟩) (Nat.le_refl _) (.int .i64 y)).setCell (p := ⟨R, 3, none⟩) (Nat.le_refl _) (.int .i64 s))
  have HST := hid (show Stk ((((w2.setCell ⟨R, 0, none⟩ (.slice (some ⟨B, 0, none⟩) Z.length Z.length)).setCell ⟨R, 1, none⟩ (.int .i64 x)).setCell ⟨R, 2, none⟩ (.int .i64 y)).setCell ⟨R, 3, none⟩ (.int .i64 s)) B Z from ⟨by simpa using hst.1, fun j hj => by
    rw [cell_apartM (show (⟨B, j, none⟩ : Addr).block ≠ R from fun e => hne e.symm), cell_apartM (show (⟨B, j, none⟩ : Addr).block ≠ R from fun e => hne e.symm), cell_apartM (show (⟨B, j, none⟩ : Addr).block ≠ R from fun e => hne e.symm), cell_apartM (show (⟨B, j, none⟩ : Addr).block ≠ R from fun e => hne e.symm)]
    exact hst.2.1 j hj, hst.2.2.1, hst.2.2.2⟩)
  have HZ := hid hZ; have HX := hid hx; have HY := hid hy; have HSS := hid hs
  clear hst hB r2 b2 hne rE hZ hx hy hs
  go_wp2_with fail
  exact bodyPost_ret (v := .agg #[.slice (some ⟨B, 0, none⟩) Z.length Z.length, .int .i64 x, .int .i64 y, .int .i64 s]) (by simp [results, Try.results5, go_sem, e0, e1, e2, e3]) rfl ⟨Z, x, y, s, B, rfl, HZ.out, HX.out, HY.out, HSS.out, HST.out, by first | (rw [HR.out]; exact bE.out) | exact bE.out⟩
end Go.Proofs.Ytoenpfjnjpgbfaa
