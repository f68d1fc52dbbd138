/- FindPortion: the model's and the program's answers. -/
import Derived.Test.YtihadhbgkjbkeaaDoorPbI
import Derived.Test.YtihadhbgkjbkeaaDoorSimID
namespace Go.Proofs.YtihadhbgkjbkeaaDoor
open Go.RowKit
set_option linter.unusedVariables false
set_option linter.unusedSimpArgs false
def fpR (js : List (Int × Int)) : (Int × Int) × Int := if (pbR js).2 = 0 then simR (pbR js).1.1 (pbR js).1.2.1 (pbR js).1.2.2.1 (pbR js).1.2.2.2 else ((0, 0), (pbR js).2)
theorem pbR_ok {js : List (Int × Int)} (h : (pbR js).2 = 0) : inP4 (pbR js).1 ∧ (pbR js).1.1 * (pbR js).1.2.2.2 < (pbR js).1.2.2.1 * (pbR js).1.2.1 := by
  unfold pbR at h ⊢
  by_cases ho : okPs js = true
  · rw [if_pos ho] at h ⊢
    have ho2 := ho
    simp only [okPs, decide_eq_true_eq] at ho2
    by_cases hl : (bnd js (js.length - 1)).1 * (bnd js (js.length - 1)).2.2.2 < (bnd js (js.length - 1)).2.2.1 * (bnd js (js.length - 1)).2.1
    · rw [if_pos hl] at h ⊢
      exact ⟨bnd_in _ (fun j hj => ho2.2 j (by omega)), hl⟩
    · rw [if_neg hl] at h
      exact absurd h (by decide)
  · rw [if_neg ho] at h
    exact absurd h (by decide)
theorem box1_b (w : World) (T : TypeId) (a b : Value) (W : World) (h : W = w.alloc (.cells #[a, b] T)) : Row W w.heap.size T [a, b] ∧ Below w.heap.size w W ∧ W.heap.size = w.heap.size + 1 := by
  subst h
  exact ⟨Row.new w T [a, b], (Below.refl _ w).alloc (Nat.le_refl _) _, by simp⟩
set_option maxRecDepth 100000 in
set_option maxHeartbeats 4000000 in
theorem specFindPortion_any (b n cap : Nat) (js : List (Int × Int)) (w : World) (hS : Rst w b js) (hn : n = js.length) :
    Calls Tryd.prog 9 #[.slice (some ⟨b, 0, none⟩) n cap] w (GivesB w (pairW (fpR js))) := by
  obtain ⟨U, hU⟩ : ∃ U, U = w.alloc (.cells #[.int .i64 0, .int .i64 0] 28) := ⟨_, rfl⟩
  obtain ⟨ra, bU, sU⟩ := box1_b w 28 _ _ U hU
  have RA := hid ra
  have BU := hid bU
  have HU := hid hU
  have HP := hid (specPortionBounds_any b n cap js U (hS.below bU hS.1) hn)
  have HOK := hid (pbR_ok (js := js))
  unfold fpR
  obtain ⟨⟨⟨x, y, u, v⟩, c⟩, hR⟩ : ∃ r, pbR js = r := ⟨_, rfl⟩
  rw [hR] at HP HOK ⊢
  unfold Pb3 at HP
  simp only at HP HOK ⊢
  clear hS hn ra bU sU hU hR
  by_cases hc : c = 0
  · subst hc
    obtain ⟨⟨⟨⟨b1, b2⟩, b3, b4⟩, ⟨b5, b6⟩, b7, b8⟩, hlt⟩ := HOK.out rfl
    simp only at b1 b2 b3 b4 b5 b6 b7 b8 hlt
    have HS := hid (fun w => l06Simplest_any x y u v ⟨b1, by omega⟩ ⟨b3, b4⟩ ⟨b5, by omega⟩ ⟨b7, b8⟩ hlt w)
    have e : simR x y u v = (simGo x y u v y.toNat 1, 0) := simR_yes (okPo_yes ⟨b1, by omega, b3, by omega⟩) (okPo_yes ⟨b5, by omega, b7, by omega⟩) (by omega) hlt
    rw [if_pos rfl, e]
    unfold pairW
    simp only
    obtain ⟨⟨s, t⟩, hs⟩ : ∃ r, simGo x y u v y.toNat 1 = r := ⟨_, rfl⟩
    rw [hs] at HS ⊢
    simp only at HS ⊢
    clear b1 b2 b3 b4 b5 b6 b7 b8 hlt e hs HOK
    go_enter Tryd.func9, Tryd.ntmps9
    go_wp2_with fail
    rw [← HU.out]
    refine HP.out.mono ?_
    rintro e w1 ⟨rfl, hB1⟩
    obtain ⟨X, hX⟩ : ∃ X, X = ((w1.alloc (.cells #[.int .i64 x, .int .i64 y] 28)).alloc (.cells #[.int .i64 u, .int .i64 v] 28)) := ⟨_, rfl⟩
    obtain ⟨r1, r2, bX, sX⟩ := two_boxes2 w1 28 28 (.int .i64 x) (.int .i64 y) (.int .i64 u) (.int .i64 v) X hX
    have hz1 := hB1.size
    have TA := hid ((RA.out.below hB1 RA.out.lt).below bX (Nat.lt_of_lt_of_le RA.out.lt hz1))
    have BX := hid (BU.out.trans ((hB1.trans (bX.mono hz1)).mono BU.out.size))
    have HX := hid hX
    obtain ⟨k0, k1, _, _⟩ := box2_at r1
    obtain ⟨p0, p1, _, _⟩ := box2_at r2
    clear hB1 r1 r2 bX sX hX
    go_upto_region 2 with fail
    rw [← HX.out]
    go_wp2_with fail
    refine (HS.out _).mono ?_
    rintro e w2 ⟨rfl, hB2⟩
    have VA := hid (TA.out.below hB2 TA.out.lt)
    have BV := hid (BX.out.trans (hB2.mono BX.out.size))
    clear hB2 k0 k1 p0 p1
    obtain ⟨a0, a1, fa0, fa1⟩ := box2_at VA.out
    have R1 := hid (VA.out.set2 (.int .i64 s) (.int .i64 t))
    have B4 := hid ((BV.out.setCell (p := ⟨w.heap.size, 0, none⟩) (Nat.le_refl _) (.int .i64 s)).setCell (p := ⟨w.heap.size, 1, none⟩) (Nat.le_refl _) (.int .i64 t))
    go_wp2_with fail
    clear a0 a1
    obtain ⟨a0, a1, _, _⟩ := box2_at R1.out
    exact bodyPost_ret (v := .tuple #[.agg #[.int .i64 s, .int .i64 t], .int .i64 0]) (by simp only [results, Tryd.results9]; simp [go_sem, a0, a1]) rfl ⟨rfl, B4.out⟩
  · rw [if_neg hc]
    unfold pairW
    simp only
    have dc : (c != 0) = true := by simp [hc]
    clear HOK hc
    go_enter Tryd.func9, Tryd.ntmps9
    go_wp2_with fail
    rw [← HU.out]
    refine HP.out.mono ?_
    rintro e w1 ⟨rfl, hB1⟩
    obtain ⟨X, hX⟩ : ∃ X, X = ((w1.alloc (.cells #[.int .i64 x, .int .i64 y] 28)).alloc (.cells #[.int .i64 u, .int .i64 v] 28)) := ⟨_, rfl⟩
    obtain ⟨r1, r2, bX, sX⟩ := two_boxes2 w1 28 28 (.int .i64 x) (.int .i64 y) (.int .i64 u) (.int .i64 v) X hX
    have hz1 := hB1.size
    have TA := hid ((RA.out.below hB1 RA.out.lt).below bX (Nat.lt_of_lt_of_le RA.out.lt hz1))
    have BX := hid (BU.out.trans ((hB1.trans (bX.mono hz1)).mono BU.out.size))
    have HX := hid hX
    clear hB1 r1 r2 bX sX hX
    obtain ⟨a0, a1, fa0, fa1⟩ := box2_at TA.out
    have R1 := hid (TA.out.set2 (.int .i64 0) (.int .i64 0))
    have B4 := hid ((BX.out.setCell (p := ⟨w.heap.size, 0, none⟩) (Nat.le_refl _) (.int .i64 0)).setCell (p := ⟨w.heap.size, 1, none⟩) (Nat.le_refl _) (.int .i64 0))
    go_upto_region 2 with fail
    rw [← HX.out]
    go_wp2_with fail
    clear a0 a1
    obtain ⟨a0, a1, _, _⟩ := box2_at R1.out
    exact bodyPost_ret (v := .tuple #[.agg #[.int .i64 0, .int .i64 0], .int .i64 c]) (by simp only [results, Tryd.results9]; simp [go_sem, a0, a1]) rfl ⟨rfl, B4.out⟩
set_option maxRecDepth 100000 in
set_option maxHeartbeats 4000000 in
theorem implFindPortion_any (b n cap : Nat) (js : List (Int × Int)) (w : World) (hS : Rst w b js) (hn : n = js.length) (hcap : n ≤ cap) (hg : GV w) :
    Calls Tryd.prog 8 #[.slice (some ⟨b, 0, none⟩) n cap] w (GivesB w (pairW (fpR js))) := by
  obtain ⟨U, hU⟩ : ∃ U, U = w.alloc (.cells #[.int .i64 0, .int .i64 0] 28) := ⟨_, rfl⟩
  obtain ⟨ra, bU, sU⟩ := box1_b w 28 _ _ U hU
  have RA := hid ra
  have BU := hid bU
  have HU := hid hU
  have HP := hid (portionBounds_any b n cap js U (hS.below bU hS.1) hn hcap)
  have HG := hid (hg.below bU hg.lt)
  have HOK := hid (pbR_ok (js := js))
  unfold fpR
  obtain ⟨⟨⟨x, y, u, v⟩, c⟩, hR⟩ : ∃ r, pbR js = r := ⟨_, rfl⟩
  rw [hR] at HP HOK ⊢
  unfold PbV at HP
  simp only at HP HOK ⊢
  clear hS hn hcap hg ra bU sU hU hR
  by_cases hc : c = 0
  · subst hc
    obtain ⟨⟨⟨⟨b1, b2⟩, b3, b4⟩, ⟨b5, b6⟩, b7, b8⟩, hlt⟩ := HOK.out rfl
    simp only at b1 b2 b3 b4 b5 b6 b7 b8 hlt
    have HS := hid (fun w => implSimplest_any x y u v ⟨by omega, by omega⟩ ⟨by omega, by omega⟩ ⟨by omega, by omega⟩ ⟨by omega, by omega⟩ w)
    rw [if_pos rfl]
    rw [errV_nil] at HP
    obtain ⟨⟨⟨s, t⟩, cc⟩, hs⟩ : ∃ r, simR x y u v = r := ⟨_, rfl⟩
    rw [hs] at HS ⊢
    unfold pairW at HS ⊢
    simp only at HS ⊢
    clear b1 b2 b3 b4 b5 b6 b7 b8 hlt hs HOK
    go_enter Tryd.func8, Tryd.ntmps8
    go_wp2_with fail
    rw [← HU.out]
    refine HP.out.mono ?_
    rintro e w1 ⟨rfl, hB1⟩
    obtain ⟨X, hX⟩ : ∃ X, X = w1.alloc (.cells #[.int .i64 x, .int .i64 y, .int .i64 u, .int .i64 v] 35) := ⟨_, rfl⟩
    have hz1 := hB1.size
    have bX : Below w1.heap.size w1 X := by rw [hX]; exact (Below.refl _ _).alloc (Nat.le_refl _) _
    have r5 : Row X w1.heap.size 35 [.int .i64 x, .int .i64 y, .int .i64 u, .int .i64 v] := by rw [hX]; exact Row.new _ _ _
    have TA := hid ((RA.out.below hB1 RA.out.lt).below bX (Nat.lt_of_lt_of_le RA.out.lt hz1))
    have BX := hid (BU.out.trans ((hB1.trans (bX.mono hz1)).mono BU.out.size))
    have HX := hid hX
    have k0 := r5.cell 0; have k1 := r5.cell 1; have k2 := r5.cell 2; have k3 := r5.cell 3
    simp only [List.getElem?_cons_zero, List.getElem?_cons_succ] at k0 k1 k2 k3
    clear hB1 r5 bX hX
    go_upto_region 2 with fail
    rw [← HX.out]
    go_wp2_with fail
    refine (HS.out _).mono ?_
    rintro e w2 ⟨rfl, hB2⟩
    have VA := hid (TA.out.below hB2 TA.out.lt)
    have BV := hid (BX.out.trans (hB2.mono BX.out.size))
    clear hB2 k0 k1 k2 k3
    obtain ⟨a0, a1, fa0, fa1⟩ := box2_at VA.out
    have R1 := hid (VA.out.set2 (.int .i64 s) (.int .i64 t))
    have B4 := hid ((BV.out.setCell (p := ⟨w.heap.size, 0, none⟩) (Nat.le_refl _) (.int .i64 s)).setCell (p := ⟨w.heap.size, 1, none⟩) (Nat.le_refl _) (.int .i64 t))
    go_wp2_with fail
    clear a0 a1
    obtain ⟨a0, a1, _, _⟩ := box2_at R1.out
    exact bodyPost_ret (v := .tuple #[.agg #[.int .i64 s, .int .i64 t], .int .i64 cc]) (by simp only [results, Tryd.results8]; simp [go_sem, a0, a1]) rfl ⟨rfl, B4.out⟩
  · rw [if_neg hc]
    unfold pairW
    simp only
    have HC := hid (fun w h => codeOf_any c w h)
    rw [errV_some hc] at HP HC
    clear HOK hc
    go_enter Tryd.func8, Tryd.ntmps8
    go_wp2_with fail
    rw [← HU.out]
    refine HP.out.mono ?_
    rintro e w1 ⟨rfl, hB1⟩
    obtain ⟨X, hX⟩ : ∃ X, X = w1.alloc (.cells #[.int .i64 x, .int .i64 y, .int .i64 u, .int .i64 v] 35) := ⟨_, rfl⟩
    have hz1 := hB1.size
    have bX : Below w1.heap.size w1 X := by rw [hX]; exact (Below.refl _ _).alloc (Nat.le_refl _) _
    have TA := hid ((RA.out.below hB1 RA.out.lt).below bX (Nat.lt_of_lt_of_le RA.out.lt hz1))
    have BX := hid (BU.out.trans ((hB1.trans (bX.mono hz1)).mono BU.out.size))
    have GX := hid ((HG.out.below hB1 HG.out.lt).below bX (Nat.lt_of_lt_of_le HG.out.lt hz1))
    have HX := hid hX
    clear hB1 bX hX
    go_upto_region 2 with fail
    rw [← HX.out]
    go_wp2_with fail
    refine (HC.out _ GX.out).mono ?_
    rintro e w2 ⟨rfl, hB2⟩
    have VA := hid (TA.out.below hB2 TA.out.lt)
    have BV := hid (BX.out.trans (hB2.mono BX.out.size))
    clear hB2
    obtain ⟨a0, a1, fa0, fa1⟩ := box2_at VA.out
    have R1 := hid (VA.out.set2 (.int .i64 0) (.int .i64 0))
    have B4 := hid ((BV.out.setCell (p := ⟨w.heap.size, 0, none⟩) (Nat.le_refl _) (.int .i64 0)).setCell (p := ⟨w.heap.size, 1, none⟩) (Nat.le_refl _) (.int .i64 0))
    go_wp2_with fail
    clear a0 a1
    obtain ⟨a0, a1, _, _⟩ := box2_at R1.out
    exact bodyPost_ret (v := .tuple #[.agg #[.int .i64 0, .int .i64 0], .int .i64 c]) (by simp only [results, Tryd.results8]; simp [go_sem, a0, a1]) rfl ⟨rfl, B4.out⟩
end Go.Proofs.YtihadhbgkjbkeaaDoor
