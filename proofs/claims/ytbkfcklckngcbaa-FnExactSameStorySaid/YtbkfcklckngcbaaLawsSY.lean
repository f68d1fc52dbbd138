/- The walk of the law over SameStory. -/
import Derived.Test.YtbkfcklckngcbaaStory
namespace Go.Proofs.Ytbkfcklckngcbaa
open Go.RowKit
set_option linter.unusedVariables false
set_option linter.unusedSimpArgs false
theorem bel_stepY {W w w' : World} (h : Below W.heap.size W w) (hB : Below w.heap.size w w') : Below W.heap.size W w' := h.trans (hB.mono h.size)
set_option maxRecDepth 100000 in
set_option maxHeartbeats 8000000 in
theorem law_FnExactSameStory (a : Option Addr) (len cap : Nat) (zs : List Int) (a' : Option Addr) (len' cap' : Nat) (js : List Int) (c : Int) (p : Option Addr) (k kc : Nat) (ys : List Int) (p' : Option Addr) (k' kc' : Nat) (ks : List Int) (c2 : Int) (w : World)
    (hl : len ≤ 9223372036854775807) (hl' : len' ≤ 9223372036854775807) (h : InI w a len zs) (h' : InI w a' len' js) (gl : k ≤ 9223372036854775807) (gl' : k' ≤ 9223372036854775807) (g : InI w p k ys) (g' : InI w p' k' ks) :
    Calls Try.prog 11 #[.agg #[.slice a len cap, .slice a' len' cap', .int .i64 c], .agg #[.slice p k kc, .slice p' k' kc', .int .i64 c2]] w fun e w' => e = .returned (.bool true) ∧ Below w.heap.size w w' := by
  obtain ⟨W, hW⟩ : ∃ W, W = ((w.alloc (.cells #[.slice a len cap, .slice a' len' cap', .int .i64 c] 59)).alloc (.cells #[.slice p k kc, .slice p' k' kc', .int .i64 c2] 59)) := ⟨_, rfl⟩
  obtain ⟨q0, q1, bW, sW⟩ := three_b w _ _ _ _ _ _ _ W hW
  have QA := hid q0
  have QB := hid q1
  have bE := hid bW
  have hW2 := hid hW
  have hI := hid (h.below bW (Nat.le_refl _))
  have hJ := hid (h'.below bW (Nat.le_refl _))
  have gI := hid (g.below bW (Nat.le_refl _))
  have gJ := hid (g'.below bW (Nat.le_refl _))
  have hn : Hid (len = zs.length) := hid h.1.symm
  have hm : Hid (len' = js.length) := hid h'.1.symm
  have gn : Hid (k = ys.length) := hid g.1.symm
  have gm : Hid (k' = ks.length) := hid g'.1.symm
  clear q0 q1 bW sW hW h h' g g'
  by_cases hs : 1048576 < len + len'
  · have HZ := hid (fun w => szY_no a len cap a' len' cap' c 1048576 w (by omega) (by omega) hl hl')
    clear hs hl hl' gl gl'
    go_enter Try.func11, Try.ntmps11
    go_wp2_with fail
    rw [← hW2.out]
    refine (HZ.out _).mono ?_
    rintro e w1 ⟨rfl, hB1⟩
    have b1 := hid (bE.out.trans (hB1.mono bE.out.size))
    clear hB1
    go_wp2_with fail
    go_ret
    exact ⟨rfl, b1.out⟩
  have HZ := hid (fun w => szY_ok a len cap a' len' cap' c 1048576 w (by omega) (by omega) hl hl')
  have hz : (0 : Int) ≤ 1048576 - (len : Int) - (len' : Int) := by omega
  have hle : len ≤ 1048576 := by omega
  have hle' : len' ≤ 1048576 := by omega
  by_cases hs2 : 1048576 - len - len' < k + k'
  · have HZ2 := hid (fun w => szY_no p k kc p' k' kc' c2 (1048576 - (len : Int) - (len' : Int)) w (by omega) (by omega) gl gl')
    clear hs hs2 hl hl' gl gl'
    go_enter Try.func11, Try.ntmps11
    go_wp2_with fail
    rw [← hW2.out]
    refine (HZ.out _).mono ?_
    rintro e w1 ⟨rfl, hB1⟩
    have b1 := hid (bE.out.trans (hB1.mono bE.out.size))
    have QB := hid (QB.out.below hB1 QB.out.lt)
    have y0 := QB.out.cell 0
    have y1 := QB.out.cell 1
    have y2 := QB.out.cell 2
    simp only [List.getElem?_cons_zero, List.getElem?_cons_succ] at y0 y1 y2
    clear hB1
    go_wp2_with fail
    refine (HZ2.out _).mono ?_
    rintro e w2 ⟨rfl, hB2⟩
    have b2 := hid (b1.out.trans (hB2.mono b1.out.size))
    clear hB2
    go_wp2_with fail
    go_ret
    exact ⟨rfl, b2.out⟩
  have hke : k ≤ 1048576 := by omega
  have hke' : k' ≤ 1048576 := by omega
  have HZ2 := hid (fun w => szY_ok p k kc p' k' kc' c2 (1048576 - (len : Int) - (len' : Int)) w (by omega) (by omega) gl gl')
  have hz2 : (0 : Int) ≤ 1048576 - (len : Int) - (len' : Int) - (k : Int) - (k' : Int) := by omega
  have HS := hid (fun x y x' y' w1 (h1 : Lst w1 x zs) (h2 : Lst w1 y js) (h3 : Lst w1 x' ys) (h4 : Lst w1 y' ks) => specStory_any x x' y y' len k len' k' len k len' k' zs ys js ks c c2 w1 h1 h3 h2 h4 hn.out gn.out hm.out gm.out)
  have HM := hid (fun x y x' y' w1 (h1 : Lst w1 x zs) (h2 : Lst w1 y js) (h3 : Lst w1 x' ys) (h4 : Lst w1 y' ks) => implStory_any x x' y y' len k len' k' len k len' k' zs ys js ks c c2 w1 h1 h3 h2 h4 hn.out gn.out hm.out gm.out)
  obtain ⟨r, hr⟩ : ∃ r, samY zs ys js ks c c2 = r := ⟨_, rfl⟩
  rw [hr] at HS HM
  have hrr : (r != r) = false := by simp
  clear hs hs2 hl hl' gl gl' hr
  go_enter Try.func11, Try.ntmps11
  go_wp2_with fail
  rw [← hW2.out]
  refine (HZ.out _).mono ?_
  rintro e w1 ⟨rfl, hB1⟩
  have b1 := hid hB1
  have QA1 := hid (QA.out.below hB1 QA.out.lt)
  have QB1 := hid (QB.out.below hB1 QB.out.lt)
  have y0 := QB1.out.cell 0
  have y1 := QB1.out.cell 1
  have y2 := QB1.out.cell 2
  simp only [List.getElem?_cons_zero, List.getElem?_cons_succ] at y0 y1 y2
  clear hB1
  go_wp2_with fail
  refine (HZ2.out _).mono ?_
  rintro e V ⟨rfl, hB2⟩
  have b2 := hid (b1.out.trans (hB2.mono b1.out.size))
  have QA2 := hid (QA1.out.below hB2 QA1.out.lt)
  have QB2 := hid (QB1.out.below hB2 QB1.out.lt)
  clear y0 y1 y2 hB2
  have lx := QA2.out.lt
  have x0 := QA2.out.cell 0
  have x1 := QA2.out.cell 1
  have x2 := QA2.out.cell 2
  simp only [List.getElem?_cons_zero, List.getElem?_cons_succ] at x0 x1 x2
  have ly := QB2.out.lt
  have y0 := QB2.out.cell 0
  have y1 := QB2.out.cell 1
  have y2 := QB2.out.cell 2
  simp only [List.getElem?_cons_zero, List.getElem?_cons_succ] at y0 y1 y2
  have SOF := hid (fun (v : World) (h : Below V.heap.size V v) => (And.intro ((h.cell (p := ⟨w.heap.size, 0, none⟩) lx).trans x0) (And.intro ((h.cell (p := ⟨w.heap.size, 1, none⟩) lx).trans x1) (And.intro ((h.cell (p := ⟨w.heap.size, 2, none⟩) lx).trans x2) (And.intro ((h.cell (p := ⟨w.heap.size + 1, 0, none⟩) ly).trans y0) (And.intro ((h.cell (p := ⟨w.heap.size + 1, 1, none⟩) ly).trans y1) ((h.cell (p := ⟨w.heap.size + 1, 2, none⟩) ly).trans y2)))))))
  have hb0 := Below.refl V.heap.size V
  go_wp2_with fail
  go_region_held3 (fun w' => w'.cell? ⟨w.heap.size, 0, none⟩ = some (.slice a len cap) ∧ w'.cell? ⟨w.heap.size, 1, none⟩ = some (.slice a' len' cap') ∧ w'.cell? ⟨w.heap.size, 2, none⟩ = some (.int .i64 c) ∧ w'.cell? ⟨w.heap.size + 1, 0, none⟩ = some (.slice p k kc) ∧ w'.cell? ⟨w.heap.size + 1, 1, none⟩ = some (.slice p' k' kc') ∧ w'.cell? ⟨w.heap.size + 1, 2, none⟩ = some (.int .i64 c2)) (exact SOF.out _ (by (repeat (first | assumption | refine Below.drew ?_ | refine Below.setCell ?_ (by first | omega | (simp; done) | (simp; omega)) _ | refine Below.alloc ?_ (by first | omega | (simp; done) | (simp; omega)) _))))
    ((first | (go_at_call 43; have hX := toStory_any p k kc ys p' k' kc' ks c2 v1 (gI.out.below (b2.out.trans (hb1.mono b2.out.size)) (Nat.le_refl _)) (gJ.out.below (b2.out.trans (hb1.mono b2.out.size)) (Nat.le_refl _)) hke hke'; refine hX.mono ?_; clear hX; rintro e v2 ⟨X2, Y2, rfl, hB2, hS2, hJ2⟩; have hb2 : Below V.heap.size V v2 := bel_stepY hb1 hB2) | (go_at_call 43; have hX := toStory_any a len cap zs a' len' cap' js c V.drew (hI.out.below b2.out.drew (Nat.le_refl _)) (hJ.out.below b2.out.drew (Nat.le_refl _)) hle hle'; refine hX.mono ?_; clear hX; rintro e v1 ⟨X1, Y1, rfl, hB1, hS1, hJ1⟩; have hb1 : Below V.heap.size V v1 := bel_stepY hb0.drew hB1) | (go_at_call 42; have hX := HS.out X1 Y1 X2 Y2 v2 (hS1.below hB2 hS1.1) (hJ1.below hB2 hJ1.1) hS2 hJ2; refine hX.mono ?_; clear hX; rintro e v3 ⟨rfl, hB3⟩; have hb3 : Below V.heap.size V v3 := bel_stepY hb2 hB3)))
  have b3 := hid (b2.out.trans (hb3.mono b2.out.size))
  have QA3 := hid (QA2.out.below hb3 lx)
  have QB3 := hid (QB2.out.below hb3 ly)
  clear hb1 hb2 hb3 hB1 hB2 hB3 hS1 hS2 hJ1 hJ2 x0 x1 x2 y0 y1 y2 hb0 lx ly SOF
  have x0 := QA3.out.cell 0
  have x1 := QA3.out.cell 1
  have x2 := QA3.out.cell 2
  simp only [List.getElem?_cons_zero, List.getElem?_cons_succ] at x0 x1 x2
  go_wp2_with fail
  refine (toStory_any a len cap zs a' len' cap' js c _ (hI.out.below b3.out (Nat.le_refl _)) (hJ.out.below b3.out (Nat.le_refl _)) hle hle').mono ?_
  rintro e u1 ⟨X, Y, rfl, hC1, hSx, hJx⟩
  have b4 := hid (b3.out.trans (hC1.mono b3.out.size))
  have al1 : Below u1.heap.size u1 (u1.alloc (.cells #[.slice (some ⟨X, 0, none⟩) len len, .slice (some ⟨Y, 0, none⟩) len' len', .int .i64 c] 62)) := box3_bel u1 _ _ _ _
  have QA5 := hid ((QA3.out.below hC1 QA3.out.lt).below al1 (Nat.lt_of_lt_of_le QA3.out.lt hC1.size))
  have QB5 := hid ((QB3.out.below hC1 QB3.out.lt).below al1 (Nat.lt_of_lt_of_le QB3.out.lt hC1.size))
  have SX5 := hid (hSx.below al1 hSx.1)
  have JX5 := hid (hJx.below al1 hJx.1)
  have QX5 := hid (Row.new u1 62 [.slice (some ⟨X, 0, none⟩) len len, .slice (some ⟨Y, 0, none⟩) len' len', .int .i64 c])
  have b5 := hid (b4.out.trans (al1.mono b4.out.size))
  clear x0 x1 x2 hC1 hSx hJx al1
  have y0 := QB5.out.cell 0
  have y1 := QB5.out.cell 1
  have y2 := QB5.out.cell 2
  simp only [List.getElem?_cons_zero, List.getElem?_cons_succ] at y0 y1 y2
  go_wp2_with fail
  refine (toStory_any p k kc ys p' k' kc' ks c2 _ (gI.out.below b5.out (Nat.le_refl _)) (gJ.out.below b5.out (Nat.le_refl _)) hke hke').mono ?_
  rintro e u2 ⟨Z, U, rfl, hC2, hSz, hJz⟩
  have b6 := hid (b5.out.trans (hC2.mono b5.out.size))
  have al2 : Below u2.heap.size u2 (u2.alloc (.cells #[.slice (some ⟨Z, 0, none⟩) k k, .slice (some ⟨U, 0, none⟩) k' k', .int .i64 c2] 62)) := box3_bel u2 _ _ _ _
  have QA7 := hid ((QA5.out.below hC2 QA5.out.lt).below al2 (Nat.lt_of_lt_of_le QA5.out.lt hC2.size))
  have QB7 := hid ((QB5.out.below hC2 QB5.out.lt).below al2 (Nat.lt_of_lt_of_le QB5.out.lt hC2.size))
  have QX7 := hid ((QX5.out.below hC2 QX5.out.lt).below al2 (Nat.lt_of_lt_of_le QX5.out.lt hC2.size))
  have SX7 := hid ((SX5.out.below hC2 SX5.out.1).below al2 (Nat.lt_of_lt_of_le SX5.out.1 hC2.size))
  have JX7 := hid ((JX5.out.below hC2 JX5.out.1).below al2 (Nat.lt_of_lt_of_le JX5.out.1 hC2.size))
  have SZ7 := hid (hSz.below al2 hSz.1)
  have JZ7 := hid (hJz.below al2 hJz.1)
  have QZ7 := hid (Row.new u2 62 [.slice (some ⟨Z, 0, none⟩) k k, .slice (some ⟨U, 0, none⟩) k' k', .int .i64 c2])
  have b7 := hid (b6.out.trans (al2.mono b6.out.size))
  clear y0 y1 y2 hC2 hSz hJz al2
  have x0 := QX7.out.cell 0
  have x1 := QX7.out.cell 1
  have x2 := QX7.out.cell 2
  simp only [List.getElem?_cons_zero, List.getElem?_cons_succ] at x0 x1 x2
  have y0 := QZ7.out.cell 0
  have y1 := QZ7.out.cell 1
  have y2 := QZ7.out.cell 2
  simp only [List.getElem?_cons_zero, List.getElem?_cons_succ] at y0 y1 y2
  go_wp2_with fail
  refine (HM.out X Y Z U _ SX7.out JX7.out SZ7.out JZ7.out).mono ?_
  rintro e u3 ⟨rfl, hC3⟩
  have b8 := hid (b7.out.trans (hC3.mono b7.out.size))
  have QA8 := hid (QA7.out.below hC3 QA7.out.lt)
  have QB8 := hid (QB7.out.below hC3 QB7.out.lt)
  have QX8 := hid (QX7.out.below hC3 QX7.out.lt)
  have QZ8 := hid (QZ7.out.below hC3 QZ7.out.lt)
  have SX8 := hid (SX7.out.below hC3 SX7.out.1)
  have JX8 := hid (JX7.out.below hC3 JX7.out.1)
  have SZ8 := hid (SZ7.out.below hC3 SZ7.out.1)
  have JZ8 := hid (JZ7.out.below hC3 JZ7.out.1)
  clear x0 x1 x2 y0 y1 y2 hC3
  have lx := QX8.out.lt
  have x0 := QX8.out.cell 0
  have x1 := QX8.out.cell 1
  have x2 := QX8.out.cell 2
  simp only [List.getElem?_cons_zero, List.getElem?_cons_succ] at x0 x1 x2
  have ly := QA8.out.lt
  have y0 := QA8.out.cell 0
  have y1 := QA8.out.cell 1
  have y2 := QA8.out.cell 2
  simp only [List.getElem?_cons_zero, List.getElem?_cons_succ] at y0 y1 y2
  have SOF := hid (fun (v : World) (h : Below u3.heap.size u3 v) => (And.intro ((h.cell (p := ⟨u1.heap.size, 0, none⟩) lx).trans x0) (And.intro ((h.cell (p := ⟨u1.heap.size, 1, none⟩) lx).trans x1) (And.intro ((h.cell (p := ⟨u1.heap.size, 2, none⟩) lx).trans x2) (And.intro ((h.cell (p := ⟨w.heap.size, 0, none⟩) ly).trans y0) (And.intro ((h.cell (p := ⟨w.heap.size, 1, none⟩) ly).trans y1) ((h.cell (p := ⟨w.heap.size, 2, none⟩) ly).trans y2)))))))
  have hb0 := Below.refl u3.heap.size u3
  go_wp2_with fail
  go_region_held3 (fun w' => w'.cell? ⟨u1.heap.size, 0, none⟩ = some (.slice (some ⟨X, 0, none⟩) len len) ∧ w'.cell? ⟨u1.heap.size, 1, none⟩ = some (.slice (some ⟨Y, 0, none⟩) len' len') ∧ w'.cell? ⟨u1.heap.size, 2, none⟩ = some (.int .i64 c) ∧ w'.cell? ⟨w.heap.size, 0, none⟩ = some (.slice a len cap) ∧ w'.cell? ⟨w.heap.size, 1, none⟩ = some (.slice a' len' cap') ∧ w'.cell? ⟨w.heap.size, 2, none⟩ = some (.int .i64 c)) (exact SOF.out _ (by (repeat (first | assumption | refine Below.drew ?_ | refine Below.setCell ?_ (by first | omega | (simp; done) | (simp; omega)) _ | refine Below.alloc ?_ (by first | omega | (simp; done) | (simp; omega)) _))))
    ((first | (go_at_call 43; have hX := toStory_any a len cap zs a' len' cap' js c u3.drew (hI.out.below b8.out.drew (Nat.le_refl _)) (hJ.out.below b8.out.drew (Nat.le_refl _)) hle hle'; refine hX.mono ?_; clear hX; rintro e t1 ⟨P1, R1, rfl, hB1, hS1, hJ1⟩; have hk1 : Below u3.heap.size u3 t1 := bel_stepY hb0.drew hB1) | (go_at_call 45; have hX := eqStory_same X P1 Y R1 len len' len len len' len' zs js c t1 (SX8.out.below hk1 SX8.out.1) hS1 (JX8.out.below hk1 JX8.out.1) hJ1 hn.out hm.out; refine hX.mono ?_; clear hX; rintro e t2 ⟨rfl, hB2⟩; have hk2 : Below u3.heap.size u3 t2 := bel_stepY hk1 hB2)))
  obtain ⟨u4, hu4⟩ : ∃ z, z = t2 := ⟨_, rfl⟩
  rw [← hu4] at hk2 ⊢
  have b9 := hid (b8.out.trans (hk2.mono b8.out.size))
  have QB9 := hid (QB8.out.below hk2 QB8.out.lt)
  have QZ9 := hid (QZ8.out.below hk2 QZ8.out.lt)
  have SZ9 := hid (SZ8.out.below hk2 SZ8.out.1)
  have JZ9 := hid (JZ8.out.below hk2 JZ8.out.1)
  clear hb0 hk1 hk2 hB1 hB2 hS1 hJ1 x0 x1 x2 y0 y1 y2 lx ly SOF hu4
  have lx := QZ9.out.lt
  have x0 := QZ9.out.cell 0
  have x1 := QZ9.out.cell 1
  have x2 := QZ9.out.cell 2
  simp only [List.getElem?_cons_zero, List.getElem?_cons_succ] at x0 x1 x2
  have ly := QB9.out.lt
  have y0 := QB9.out.cell 0
  have y1 := QB9.out.cell 1
  have y2 := QB9.out.cell 2
  simp only [List.getElem?_cons_zero, List.getElem?_cons_succ] at y0 y1 y2
  have SOF := hid (fun (v : World) (h : Below u4.heap.size u4 v) => (And.intro ((h.cell (p := ⟨u2.heap.size, 0, none⟩) lx).trans x0) (And.intro ((h.cell (p := ⟨u2.heap.size, 1, none⟩) lx).trans x1) (And.intro ((h.cell (p := ⟨u2.heap.size, 2, none⟩) lx).trans x2) (And.intro ((h.cell (p := ⟨w.heap.size + 1, 0, none⟩) ly).trans y0) (And.intro ((h.cell (p := ⟨w.heap.size + 1, 1, none⟩) ly).trans y1) ((h.cell (p := ⟨w.heap.size + 1, 2, none⟩) ly).trans y2)))))))
  have hb0 := Below.refl u4.heap.size u4
  go_wp2_with fail
  go_region_held3 (fun w' => w'.cell? ⟨u2.heap.size, 0, none⟩ = some (.slice (some ⟨Z, 0, none⟩) k k) ∧ w'.cell? ⟨u2.heap.size, 1, none⟩ = some (.slice (some ⟨U, 0, none⟩) k' k') ∧ w'.cell? ⟨u2.heap.size, 2, none⟩ = some (.int .i64 c2) ∧ w'.cell? ⟨w.heap.size + 1, 0, none⟩ = some (.slice p k kc) ∧ w'.cell? ⟨w.heap.size + 1, 1, none⟩ = some (.slice p' k' kc') ∧ w'.cell? ⟨w.heap.size + 1, 2, none⟩ = some (.int .i64 c2)) (exact SOF.out _ (by (repeat (first | assumption | refine Below.drew ?_ | refine Below.setCell ?_ (by first | omega | (simp; done) | (simp; omega)) _ | refine Below.alloc ?_ (by first | omega | (simp; done) | (simp; omega)) _))))
    ((first | (go_at_call 43; have hX := toStory_any p k kc ys p' k' kc' ks c2 u4.drew (gI.out.below b9.out.drew (Nat.le_refl _)) (gJ.out.below b9.out.drew (Nat.le_refl _)) hke hke'; refine hX.mono ?_; clear hX; rintro e t1 ⟨P1, R1, rfl, hB1, hS1, hJ1⟩; have hk1 : Below u4.heap.size u4 t1 := bel_stepY hb0.drew hB1) | (go_at_call 45; have hX := eqStory_same Z P1 U R1 k k' k k k' k' ys ks c2 t1 (SZ9.out.below hk1 SZ9.out.1) hS1 (JZ9.out.below hk1 JZ9.out.1) hJ1 gn.out gm.out; refine hX.mono ?_; clear hX; rintro e t2 ⟨rfl, hB2⟩; have hk2 : Below u4.heap.size u4 t2 := bel_stepY hk1 hB2)))
  go_wp2_with fail
  go_ret
  exact ⟨rfl, bE.out.trans ((b9.out.trans (hk2.mono b9.out.size)).mono bE.out.size)⟩
end Go.Proofs.Ytbkfcklckngcbaa
