/- The walk of the law over SameMotion. -/
import Derived.Test.YthpoeaoikfekgaaSamM
namespace Go.Proofs.Ythpoeaoikfekgaa
open Go.RowKit
set_option maxHeartbeats 1000000 in
theorem szM_ok (a : Option Addr) (len cap : Nat) (a' : Option Addr) (len' cap' : Nat) (l : Int) (w : World) (h0 : 0 ≤ l ∧ l ≤ 1048576) (h : (len : Int) + (len' : Int) ≤ l) :
    Calls Try.prog 7 #[.agg #[.slice a len cap, .slice a' len' cap'], .int .i64 l] w fun e w' => e = .returned (.int .i64 (l - len - len')) ∧ Below w.heap.size w w' := by
  obtain ⟨l0, l1⟩ := h0
  have h1 : (0 : Int) ≤ l - (len : Int) := by omega
  have h2 : (0 : Int) ≤ l - (len : Int) - (len' : Int) := by omega
  have h3 : (0 : Int) ≤ (len : Int) := by omega
  have h4 : (0 : Int) ≤ (len' : Int) := by omega
  have bE := hid (box2b w 25 (.slice a len cap) (.slice a' len' cap'))
  go_enter Try.func7, Try.ntmps7
  go_wp2
  go_ret
  exact ⟨rfl, bE.out⟩
set_option maxHeartbeats 1000000 in
theorem szM_no (a : Option Addr) (len cap : Nat) (a' : Option Addr) (len' cap' : Nat) (l : Int) (w : World) (h0 : 0 ≤ l ∧ l ≤ 1048576) (h : l < (len : Int) + (len' : Int)) (hl : len ≤ 9223372036854775807) (hl' : len' ≤ 9223372036854775807) :
    Calls Try.prog 7 #[.agg #[.slice a len cap, .slice a' len' cap'], .int .i64 l] w fun e w' => e = .returned (.int .i64 (-1)) ∧ Below w.heap.size w w' := by
  obtain ⟨l0, l1⟩ := h0
  have h3 : (0 : Int) ≤ (len : Int) := by omega
  have h4 : (0 : Int) ≤ (len' : Int) := by omega
  have bE := hid (box2b w 25 (.slice a len cap) (.slice a' len' cap'))
  by_cases h1 : l - (len : Int) < 0
  · clear h
    go_enter Try.func7, Try.ntmps7
    go_wp2
    go_ret
    exact ⟨rfl, bE.out⟩
  · have h5 : (0 : Int) ≤ l - (len : Int) := by omega
    have h2 : l - (len : Int) - (len' : Int) < 0 := by omega
    clear h1
    go_enter Try.func7, Try.ntmps7
    go_wp2
    go_ret
    exact ⟨rfl, bE.out⟩
set_option maxRecDepth 100000 in
set_option maxHeartbeats 8000000 in
theorem law_FnExactSameMotion (a : Option Addr) (len cap : Nat) (zs : List Int) (a' : Option Addr) (len' cap' : Nat) (js : List (Int × Int)) (p : Option Addr) (k kc : Nat) (ys : List Int) (p' : Option Addr) (k' kc' : Nat) (ks : List (Int × Int)) (w : World)
    (hl : len ≤ 9223372036854775807) (hl' : len' ≤ 9223372036854775807) (h : InB w a len zs) (h' : InJ w a' len' js) (gl : k ≤ 9223372036854775807) (gl' : k' ≤ 9223372036854775807) (g : InB w p k ys) (g' : InJ w p' k' ks) :
    Calls Try.prog 3 #[.agg #[.slice a len cap, .slice a' len' cap'], .agg #[.slice p k kc, .slice p' k' kc']] w fun e w' => e = .returned (.bool true) ∧ Below w.heap.size w w' := by
  obtain ⟨W, hW⟩ : ∃ W, W = ((w.alloc (.cells #[.slice a len cap, .slice a' len' cap'] 25)).alloc (.cells #[.slice p k kc, .slice p' k' kc'] 25)) := ⟨_, rfl⟩
  obtain ⟨q0, q1, bW, sW⟩ := two_b w 25 (.slice a len cap) (.slice a' len' cap') (.slice p k kc) (.slice p' k' kc') W hW
  have QA := hid q0
  have QB := hid q1
  have bE := hid bW
  have hW2 := hid hW
  clear q0 q1 bW sW hW
  by_cases hs : 1048576 < len + len'
  · have HZ := hid (fun w => szM_no a len cap a' len' cap' 1048576 w (by omega) (by omega) hl hl')
    clear h h' g g' hs hl hl' gl gl'
    go_enter Try.func3, Try.ntmps3
    go_wp2_with fail
    rw [← hW2.out]
    refine (HZ.out _).mono ?_
    rintro e w1 ⟨rfl, hB1⟩
    have b1 := hid (bE.out.trans (hB1.mono bE.out.size))
    clear hB1
    go_wp2_with fail
    go_ret
    exact ⟨rfl, b1.out⟩
  have HZ := hid (fun w => szM_ok a len cap a' len' cap' 1048576 w (by omega) (by omega))
  have hz : (0 : Int) ≤ 1048576 - (len : Int) - (len' : Int) := by omega
  have hle : len ≤ 1048576 := by omega
  have hle' : len' ≤ 1048576 := by omega
  by_cases hs2 : 1048576 - len - len' < k + k'
  · have HZ2 := hid (fun w => szM_no p k kc p' k' kc' (1048576 - (len : Int) - (len' : Int)) w (by omega) (by omega) gl gl')
    clear h h' g g' hs hs2 hl hl' gl gl'
    go_enter Try.func3, Try.ntmps3
    go_wp2_with fail
    rw [← hW2.out]
    refine (HZ.out _).mono ?_
    rintro e w1 ⟨rfl, hB1⟩
    have b1 := hid (bE.out.trans (hB1.mono bE.out.size))
    have QB := hid (QB.out.below hB1 QB.out.lt)
    have c2 := QB.out.cell 0
    have c3 := QB.out.cell 1
    simp only [List.getElem?_cons_zero, List.getElem?_cons_succ] at c2 c3
    clear hB1
    go_wp2_with fail
    refine (HZ2.out _).mono ?_
    rintro e w2 ⟨rfl, hB2⟩
    have b2 := hid (b1.out.trans (hB2.mono b1.out.size))
    clear hB2 c2 c3
    go_wp2_with fail
    go_ret
    exact ⟨rfl, b2.out⟩
  have hke : k ≤ 1048576 := by omega
  have hke' : k' ≤ 1048576 := by omega
  have HZ2 := hid (fun w => szM_ok p k kc p' k' kc' (1048576 - (len : Int) - (len' : Int)) w (by omega) (by omega))
  have hz2 : (0 : Int) ≤ 1048576 - (len : Int) - (len' : Int) - (k : Int) - (k' : Int) := by omega
  have hI := hid h
  have hJ := hid h'
  have gI := hid g
  have gJ := hid g'
  have hn : Hid (len = zs.length) := hid h.1.symm
  have hm : Hid (len' = js.length) := hid h'.1.symm
  have gn : Hid (k = ys.length) := hid g.1.symm
  have gm : Hid (k' = ks.length) := hid g'.1.symm
  have HS := hid (fun x y x' y' w1 (h1 : Stk w1 x zs) (h2 : Jst w1 y js) (h3 : Stk w1 x' ys) (h4 : Jst w1 y' ks) => specSameMotion_any x len len y len' len' x' k k y' k' k' zs ys js ks w1 ⟨h1, h2, h3, h4, hn.out, hm.out, gn.out, gm.out⟩)
  have HM := hid (fun x y x' y' w1 (h1 : Stk w1 x zs) (h2 : Jst w1 y js) (h3 : Stk w1 x' ys) (h4 : Jst w1 y' ks) => implSameMotion_any x len len y len' len' x' k k y' k' k' zs ys js ks w1 ⟨h1, h2, h3, h4, hn.out, hm.out, gn.out, gm.out⟩)
  obtain ⟨r, hr⟩ : ∃ r, samM zs ys js ks = r := ⟨_, rfl⟩
  rw [hr] at HS HM
  have hrr : (r != r) = false := by simp
  clear h h' g g' hs hs2 hl hl' gl gl' hr
  go_enter Try.func3, Try.ntmps3
  go_wp2_with fail
  rw [← hW2.out]
  refine (HZ.out _).mono ?_
  rintro e w1 ⟨rfl, hB1⟩
  have b1 := hid (bE.out.trans (hB1.mono bE.out.size))
  have QA := hid (QA.out.below hB1 QA.out.lt)
  have QB := hid (QB.out.below hB1 QB.out.lt)
  have c2 := QB.out.cell 0
  have c3 := QB.out.cell 1
  simp only [List.getElem?_cons_zero, List.getElem?_cons_succ] at c2 c3
  clear hB1
  go_wp2_with fail
  refine (HZ2.out _).mono ?_
  rintro e V ⟨rfl, hB2⟩
  have b2 := hid (b1.out.trans (hB2.mono b1.out.size))
  have QA := hid (QA.out.below hB2 QA.out.lt)
  have QB := hid (QB.out.below hB2 QB.out.lt)
  clear c2 c3 hB2
  have c0 := QA.out.cell 0
  have c1 := QA.out.cell 1
  have c2 := QB.out.cell 0
  have c3 := QB.out.cell 1
  simp only [List.getElem?_cons_zero, List.getElem?_cons_succ] at c0 c1 c2 c3
  have l0 := QA.out.lt
  have l1 := QB.out.lt
  have hb0 := Below.refl V.heap.size V
  have hqs := And.intro c0 (And.intro c1 (And.intro c2 c3))
  go_wp2_with fail
  go_region_held3 (fun w' => w'.cell? ⟨w.heap.size, 0, none⟩ = some (.slice a len cap) ∧ w'.cell? ⟨w.heap.size, 1, none⟩ = some (.slice a' len' cap') ∧ w'.cell? ⟨w.heap.size + 1, 0, none⟩ = some (.slice p k kc) ∧ w'.cell? ⟨w.heap.size + 1, 1, none⟩ = some (.slice p' k' kc')) (first | with_reducible exact hq3 | with_reducible exact hq2 | with_reducible exact hq1 | exact hqs)
    ((first | (go_at_call 8; have hX := HS.out X1 Y1 X2 Y2 v2 (hS1.below hB2 hS1.1) (hJ1.below hB2 hJ1.1) hS2 hJ2; refine hX.mono ?_; clear hX; rintro e v3 ⟨rfl, hB3⟩; have hb3 := hb2.trans (hB3.mono hb2.size); have hq3 := (And.intro ((hb3.cell (p := ⟨w.heap.size, 0, none⟩) l0).trans c0) (And.intro ((hb3.cell (p := ⟨w.heap.size, 1, none⟩) l0).trans c1) (And.intro ((hb3.cell (p := ⟨w.heap.size + 1, 0, none⟩) l1).trans c2) ((hb3.cell (p := ⟨w.heap.size + 1, 1, none⟩) l1).trans c3))))) | (go_at_call 9; have hX := toMotion_any p k kc ys p' k' kc' ks v1 (gI.out.below (b2.out.trans (hb1.mono b2.out.size)) (Nat.le_refl _)) (gJ.out.below (b2.out.trans (hb1.mono b2.out.size)) (Nat.le_refl _)) hke hke'; refine hX.mono ?_; clear hX; rintro e v2 ⟨X2, Y2, rfl, hB2, hS2, hJ2, hXl2, hYl2⟩; have hb2 := hb1.trans (hB2.mono hb1.size); have hq2 := (And.intro ((hb2.cell (p := ⟨w.heap.size, 0, none⟩) l0).trans c0) (And.intro ((hb2.cell (p := ⟨w.heap.size, 1, none⟩) l0).trans c1) (And.intro ((hb2.cell (p := ⟨w.heap.size + 1, 0, none⟩) l1).trans c2) ((hb2.cell (p := ⟨w.heap.size + 1, 1, none⟩) l1).trans c3))))) | (go_at_call 9; have hX := toMotion_any a len cap zs a' len' cap' js V.drew (hI.out.below b2.out.drew (Nat.le_refl _)) (hJ.out.below b2.out.drew (Nat.le_refl _)) hle hle'; refine hX.mono ?_; clear hX; rintro e v1 ⟨X1, Y1, rfl, hB1, hS1, hJ1, hXl1, hYl1⟩; simp only [World.size_drew] at hB1 hXl1 hYl1; have hb1 := hb0.drew.trans (hB1.mono hb0.size); have hq1 := (And.intro ((hb1.cell (p := ⟨w.heap.size, 0, none⟩) l0).trans c0) (And.intro ((hb1.cell (p := ⟨w.heap.size, 1, none⟩) l0).trans c1) (And.intro ((hb1.cell (p := ⟨w.heap.size + 1, 0, none⟩) l1).trans c2) ((hb1.cell (p := ⟨w.heap.size + 1, 1, none⟩) l1).trans c3)))))))
  have b3 := hid (b2.out.trans (hb3.mono b2.out.size))
  have QA := hid (QA.out.below hb3 l0)
  have QB := hid (QB.out.below hb3 l1)
  clear hb1 hb2 hb3 hB1 hB2 hB3 hS1 hS2 hJ1 hJ2 hXl1 hYl1 hXl2 hYl2 hq1 hq2 hq3 hqs c0 c1 c2 c3 hb0 l0 l1
  have c0 := QA.out.cell 0
  have c1 := QA.out.cell 1
  simp only [List.getElem?_cons_zero, List.getElem?_cons_succ] at c0 c1
  go_wp2_with fail
  refine (toMotion_any a len cap zs a' len' cap' js _ (hI.out.below b3.out (Nat.le_refl _)) (hJ.out.below b3.out (Nat.le_refl _)) hle hle').mono ?_
  rintro e u1 ⟨X, Y, rfl, hC1, hSx, hJx, hXl, hYl⟩
  have b4 := hid (b3.out.trans (hC1.mono b3.out.size))
  have al1 : Below u1.heap.size u1 (u1.alloc (.cells #[.slice (some ⟨X, 0, none⟩) len len, .slice (some ⟨Y, 0, none⟩) len' len'] 31)) := box2b u1 _ _ _
  have QA := hid ((QA.out.below hC1 QA.out.lt).below al1 (Nat.lt_of_lt_of_le QA.out.lt hC1.size))
  have QB := hid ((QB.out.below hC1 QB.out.lt).below al1 (Nat.lt_of_lt_of_le QB.out.lt hC1.size))
  have SX := hid (hSx.below al1 hSx.1)
  have JX := hid (hJx.below al1 hJx.1)
  have QX := hid (Row.new u1 31 [.slice (some ⟨X, 0, none⟩) len len, .slice (some ⟨Y, 0, none⟩) len' len'])
  have b5 := hid (b4.out.alloc b4.out.size (.cells #[.slice (some ⟨X, 0, none⟩) len len, .slice (some ⟨Y, 0, none⟩) len' len'] 31))
  clear c0 c1 hC1 hSx hJx hXl hYl al1
  have c2 := QB.out.cell 0
  have c3 := QB.out.cell 1
  simp only [List.getElem?_cons_zero, List.getElem?_cons_succ] at c2 c3
  go_wp2_with fail
  refine (toMotion_any p k kc ys p' k' kc' ks _ (gI.out.below b5.out (Nat.le_refl _)) (gJ.out.below b5.out (Nat.le_refl _)) hke hke').mono ?_
  rintro e u2 ⟨Z, U, rfl, hC2, hSz, hJz, hZl, hUl⟩
  have b6 := hid (b5.out.trans (hC2.mono b5.out.size))
  have al2 : Below u2.heap.size u2 (u2.alloc (.cells #[.slice (some ⟨Z, 0, none⟩) k k, .slice (some ⟨U, 0, none⟩) k' k'] 31)) := box2b u2 _ _ _
  have QA := hid ((QA.out.below hC2 QA.out.lt).below al2 (Nat.lt_of_lt_of_le QA.out.lt hC2.size))
  have QB := hid ((QB.out.below hC2 QB.out.lt).below al2 (Nat.lt_of_lt_of_le QB.out.lt hC2.size))
  have QX := hid ((QX.out.below hC2 QX.out.lt).below al2 (Nat.lt_of_lt_of_le QX.out.lt hC2.size))
  have SX := hid ((SX.out.below hC2 SX.out.1).below al2 (Nat.lt_of_lt_of_le SX.out.1 hC2.size))
  have JX := hid ((JX.out.below hC2 JX.out.1).below al2 (Nat.lt_of_lt_of_le JX.out.1 hC2.size))
  have SZ := hid (hSz.below al2 hSz.1)
  have JZ := hid (hJz.below al2 hJz.1)
  have QZ := hid (Row.new u2 31 [.slice (some ⟨Z, 0, none⟩) k k, .slice (some ⟨U, 0, none⟩) k' k'])
  have b7 := hid (b6.out.alloc b6.out.size (.cells #[.slice (some ⟨Z, 0, none⟩) k k, .slice (some ⟨U, 0, none⟩) k' k'] 31))
  clear c2 c3 hC2 hSz hJz hZl hUl al2
  have d0 := QX.out.cell 0
  have d1 := QX.out.cell 1
  have d2 := QZ.out.cell 0
  have d3 := QZ.out.cell 1
  simp only [List.getElem?_cons_zero, List.getElem?_cons_succ] at d0 d1 d2 d3
  go_wp2_with fail
  refine (HM.out X Y Z U _ SX.out JX.out SZ.out JZ.out).mono ?_
  rintro e u3 ⟨rfl, hC3⟩
  have b8 := hid (b7.out.trans (hC3.mono b7.out.size))
  have QA := hid (QA.out.below hC3 QA.out.lt)
  have QB := hid (QB.out.below hC3 QB.out.lt)
  have QX := hid (QX.out.below hC3 QX.out.lt)
  have QZ := hid (QZ.out.below hC3 QZ.out.lt)
  have SX := hid (SX.out.below hC3 SX.out.1)
  have JX := hid (JX.out.below hC3 JX.out.1)
  have SZ := hid (SZ.out.below hC3 SZ.out.1)
  have JZ := hid (JZ.out.below hC3 JZ.out.1)
  clear d0 d1 d2 d3 hC3
  have e0 := QX.out.cell 0
  have e1 := QX.out.cell 1
  have e2 := QA.out.cell 0
  have e3 := QA.out.cell 1
  simp only [List.getElem?_cons_zero, List.getElem?_cons_succ] at e0 e1 e2 e3
  have m0 := QX.out.lt
  have m1 := QA.out.lt
  have hk0 := Below.refl u3.heap.size u3
  have hqs := And.intro e0 (And.intro e1 (And.intro e2 e3))
  go_wp2_with fail
  go_region_held3 (fun w' => w'.cell? ⟨u1.heap.size, 0, none⟩ = some (.slice (some ⟨X, 0, none⟩) len len) ∧ w'.cell? ⟨u1.heap.size, 1, none⟩ = some (.slice (some ⟨Y, 0, none⟩) len' len') ∧ w'.cell? ⟨w.heap.size, 0, none⟩ = some (.slice a len cap) ∧ w'.cell? ⟨w.heap.size, 1, none⟩ = some (.slice a' len' cap')) (first | with_reducible exact hq2 | with_reducible exact hq1 | exact hqs)
    ((first | (go_at_call 11; have hX := eqMotion_same X P1 len len len Y R1 len' len' len' zs js t1 (SX.out.below hk1 SX.out.1) hS1 hn.out (JX.out.below hk1 JX.out.1) hJ1 hm.out; refine hX.mono ?_; clear hX; rintro e t2 ⟨rfl, hB2⟩; have hk2 := hk1.trans (hB2.mono hk1.size); have hq2 := (And.intro ((hk2.cell (p := ⟨u1.heap.size, 0, none⟩) m0).trans e0) (And.intro ((hk2.cell (p := ⟨u1.heap.size, 1, none⟩) m0).trans e1) (And.intro ((hk2.cell (p := ⟨w.heap.size, 0, none⟩) m1).trans e2) ((hk2.cell (p := ⟨w.heap.size, 1, none⟩) m1).trans e3))))) | (go_at_call 9; have hX := toMotion_any a len cap zs a' len' cap' js u3.drew (hI.out.below b8.out.drew (Nat.le_refl _)) (hJ.out.below b8.out.drew (Nat.le_refl _)) hle hle'; refine hX.mono ?_; clear hX; rintro e t1 ⟨P1, R1, rfl, hB1, hS1, hJ1, hPl, hRl⟩; simp only [World.size_drew] at hB1 hPl hRl; have hk1 := hk0.drew.trans (hB1.mono hk0.size); have hq1 := (And.intro ((hk1.cell (p := ⟨u1.heap.size, 0, none⟩) m0).trans e0) (And.intro ((hk1.cell (p := ⟨u1.heap.size, 1, none⟩) m0).trans e1) (And.intro ((hk1.cell (p := ⟨w.heap.size, 0, none⟩) m1).trans e2) ((hk1.cell (p := ⟨w.heap.size, 1, none⟩) m1).trans e3)))))))
  obtain ⟨u4, hu4⟩ : ∃ z, z = t2 := ⟨_, rfl⟩
  rw [← hu4] at hk2 ⊢
  have b9 := hid (b8.out.trans (hk2.mono b8.out.size))
  have QB := hid (QB.out.below hk2 QB.out.lt)
  have QZ := hid (QZ.out.below hk2 QZ.out.lt)
  have SZ := hid (SZ.out.below hk2 SZ.out.1)
  have JZ := hid (JZ.out.below hk2 JZ.out.1)
  clear hk0 hk1 hk2 hB1 hB2 hS1 hJ1 hPl hRl hq1 hq2 hqs e0 e1 e2 e3 m0 m1 hu4
  have e0 := QZ.out.cell 0
  have e1 := QZ.out.cell 1
  have e2 := QB.out.cell 0
  have e3 := QB.out.cell 1
  simp only [List.getElem?_cons_zero, List.getElem?_cons_succ] at e0 e1 e2 e3
  have m0 := QZ.out.lt
  have m1 := QB.out.lt
  have hk0 := Below.refl u4.heap.size u4
  have hqs := And.intro e0 (And.intro e1 (And.intro e2 e3))
  go_wp2_with fail
  go_region_held3 (fun w' => w'.cell? ⟨u2.heap.size, 0, none⟩ = some (.slice (some ⟨Z, 0, none⟩) k k) ∧ w'.cell? ⟨u2.heap.size, 1, none⟩ = some (.slice (some ⟨U, 0, none⟩) k' k') ∧ w'.cell? ⟨w.heap.size + 1, 0, none⟩ = some (.slice p k kc) ∧ w'.cell? ⟨w.heap.size + 1, 1, none⟩ = some (.slice p' k' kc')) (first | with_reducible exact hq2 | with_reducible exact hq1 | exact hqs)
    ((first | (go_at_call 11; have hX := eqMotion_same Z P1 k k k U R1 k' k' k' ys ks t1 (SZ.out.below hk1 SZ.out.1) hS1 gn.out (JZ.out.below hk1 JZ.out.1) hJ1 gm.out; refine hX.mono ?_; clear hX; rintro e t2 ⟨rfl, hB2⟩; have hk2 := hk1.trans (hB2.mono hk1.size); have hq2 := (And.intro ((hk2.cell (p := ⟨u2.heap.size, 0, none⟩) m0).trans e0) (And.intro ((hk2.cell (p := ⟨u2.heap.size, 1, none⟩) m0).trans e1) (And.intro ((hk2.cell (p := ⟨w.heap.size + 1, 0, none⟩) m1).trans e2) ((hk2.cell (p := ⟨w.heap.size + 1, 1, none⟩) m1).trans e3))))) | (go_at_call 9; have hX := toMotion_any p k kc ys p' k' kc' ks u4.drew (gI.out.below b9.out.drew (Nat.le_refl _)) (gJ.out.below b9.out.drew (Nat.le_refl _)) hke hke'; refine hX.mono ?_; clear hX; rintro e t1 ⟨P1, R1, rfl, hB1, hS1, hJ1, hPl, hRl⟩; simp only [World.size_drew] at hB1 hPl hRl; have hk1 := hk0.drew.trans (hB1.mono hk0.size); have hq1 := (And.intro ((hk1.cell (p := ⟨u2.heap.size, 0, none⟩) m0).trans e0) (And.intro ((hk1.cell (p := ⟨u2.heap.size, 1, none⟩) m0).trans e1) (And.intro ((hk1.cell (p := ⟨w.heap.size + 1, 0, none⟩) m1).trans e2) ((hk1.cell (p := ⟨w.heap.size + 1, 1, none⟩) m1).trans e3)))))))
  go_wp2_with fail
  go_ret
  exact ⟨rfl, b9.out.trans (hk2.mono b9.out.size)⟩
end Go.Proofs.Ythpoeaoikfekgaa
