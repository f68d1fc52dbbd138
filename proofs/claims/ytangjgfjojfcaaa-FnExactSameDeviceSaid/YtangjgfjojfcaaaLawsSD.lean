/- The walk of the law over SameDevice. -/
import Derived.Test.YtangjgfjojfcaaaSamD
namespace Go.Proofs.Ytangjgfjojfcaaa
open Go.RowKit
set_option linter.unusedVariables false
set_option linter.unusedSimpArgs false
theorem bel_stepD {W w w' : World} (h : Below W.heap.size W w) (hB : Below w.heap.size w w') : Below W.heap.size W w' := h.trans (hB.mono h.size)
set_option maxRecDepth 100000 in
set_option maxHeartbeats 8000000 in
theorem law_FnExactSameDevice (a : Option Addr) (len cap : Nat) (zs : List Int) (d0 d1 d2 d3 d4 d5 d6 d7 : Int) (pr : Int) (st : Bool) (tk : Int) (p : Option Addr) (k kc : Nat) (ys : List Int) (e0 e1 e2 e3 e4 e5 e6 e7 : Int) (pr2 : Int) (st2 : Bool) (tk2 : Int) (w : World)
    (hl : len ≤ 9223372036854775807) (h : InB w a len zs) (ho : Oct d0 d1 d2 d3 d4 d5 d6 d7) (hp : I64 pr) (ht : I64 tk) (gl : k ≤ 9223372036854775807) (g : InB w p k ys) (go : Oct e0 e1 e2 e3 e4 e5 e6 e7) (gp : I64 pr2) (gt : I64 tk2) :
    Calls Try.prog 4 #[.agg #[.slice a len cap, .int .u8 d0, .int .u8 d1, .int .u8 d2, .int .u8 d3, .int .u8 d4, .int .u8 d5, .int .u8 d6, .int .u8 d7, .int .i64 pr, .bool st, .int .i64 tk], .agg #[.slice p k kc, .int .u8 e0, .int .u8 e1, .int .u8 e2, .int .u8 e3, .int .u8 e4, .int .u8 e5, .int .u8 e6, .int .u8 e7, .int .i64 pr2, .bool st2, .int .i64 tk2]] w fun e w' => e = .returned (.bool true) ∧ Below w.heap.size w w' := by
  clear ho hp ht go gp gt
  obtain ⟨W, hW⟩ : ∃ W, W = ((w.alloc (.cells #[.slice a len cap, .int .u8 d0, .int .u8 d1, .int .u8 d2, .int .u8 d3, .int .u8 d4, .int .u8 d5, .int .u8 d6, .int .u8 d7, .int .i64 pr, .bool st, .int .i64 tk] 25)).alloc (.cells #[.slice p k kc, .int .u8 e0, .int .u8 e1, .int .u8 e2, .int .u8 e3, .int .u8 e4, .int .u8 e5, .int .u8 e6, .int .u8 e7, .int .i64 pr2, .bool st2, .int .i64 tk2] 25)) := ⟨_, rfl⟩
  have bW : Below w.heap.size w W := by rw [hW]; exact (boxD_bel w _ _).alloc (by simp) _
  have QA := hid (show Row W w.heap.size 25 [.slice a len cap, .int .u8 d0, .int .u8 d1, .int .u8 d2, .int .u8 d3, .int .u8 d4, .int .u8 d5, .int .u8 d6, .int .u8 d7, .int .i64 pr, .bool st, .int .i64 tk] by rw [hW]; exact (Row.new w _ _).alloc _)
  have q1 : Row W (w.heap.size + 1) 25 [.slice p k kc, .int .u8 e0, .int .u8 e1, .int .u8 e2, .int .u8 e3, .int .u8 e4, .int .u8 e5, .int .u8 e6, .int .u8 e7, .int .i64 pr2, .bool st2, .int .i64 tk2] := by
    have h := Row.new (w.alloc (.cells #[.slice a len cap, .int .u8 d0, .int .u8 d1, .int .u8 d2, .int .u8 d3, .int .u8 d4, .int .u8 d5, .int .u8 d6, .int .u8 d7, .int .i64 pr, .bool st, .int .i64 tk] 25)) 25 [.slice p k kc, .int .u8 e0, .int .u8 e1, .int .u8 e2, .int .u8 e3, .int .u8 e4, .int .u8 e5, .int .u8 e6, .int .u8 e7, .int .i64 pr2, .bool st2, .int .i64 tk2]
    simp only [World.size_alloc] at h
    rw [hW]; exact h
  have QB := hid q1
  have bE := hid bW
  have hW2 := hid hW
  have hI := hid (h.below bW (Nat.le_refl _))
  have gI := hid (g.below bW (Nat.le_refl _))
  have hn : Hid (len = zs.length) := hid h.1.symm
  have gn : Hid (k = ys.length) := hid g.1.symm
  clear q1 bW hW h g
  by_cases hs : 1048576 < len
  · have HZ := hid (fun w => szDevice_no a len cap d0 d1 d2 d3 d4 d5 d6 d7 pr st tk w hs hl)
    clear hs hl gl
    go_enter Try.func4, Try.ntmps4
    go_wp2_with fail
    rw [← hW2.out]
    refine (HZ.out _).mono ?_
    rintro e w1 ⟨rfl, rfl⟩
    have b1 := hid (bE.out.trans ((boxD_bel W 25 #[.slice a len cap, .int .u8 d0, .int .u8 d1, .int .u8 d2, .int .u8 d3, .int .u8 d4, .int .u8 d5, .int .u8 d6, .int .u8 d7, .int .i64 pr, .bool st, .int .i64 tk]).mono bE.out.size))
    go_wp2_with fail
    go_ret
    exact ⟨rfl, b1.out⟩
  have HZ := hid (fun w => szDevice_ok a len cap d0 d1 d2 d3 d4 d5 d6 d7 pr st tk w (by omega))
  have hz : (0 : Int) ≤ 1048576 - (len : Int) := by omega
  have hle : len ≤ 1048576 := by omega
  by_cases hs2 : 1048576 - len < k
  · have HZ2 := hid (fun w => szDevice_noL p k kc e0 e1 e2 e3 e4 e5 e6 e7 pr2 st2 tk2 (1048576 - (len : Int)) w (by omega) (by omega) (by omega) gl)
    clear hs hs2 hl gl
    go_enter Try.func4, Try.ntmps4
    go_wp2_with fail
    rw [← hW2.out]
    refine (HZ.out _).mono ?_
    rintro e w1 ⟨rfl, hB1⟩
    have hB1 : Below W.heap.size W w1 := by rw [← hB1]; exact boxD_bel W _ _
    have b1 := hid (bE.out.trans (hB1.mono bE.out.size))
    have QB := hid (QB.out.below hB1 QB.out.lt)
    have y0 := QB.out.cell 0; have y1 := QB.out.cell 1; have y2 := QB.out.cell 2; have y3 := QB.out.cell 3; have y4 := QB.out.cell 4; have y5 := QB.out.cell 5; have y6 := QB.out.cell 6; have y7 := QB.out.cell 7; have y8 := QB.out.cell 8; have y9 := QB.out.cell 9; have y10 := QB.out.cell 10; have y11 := QB.out.cell 11
    simp only [List.getElem?_cons_zero, List.getElem?_cons_succ] at y0 y1 y2 y3 y4 y5 y6 y7 y8 y9 y10 y11
    clear hB1
    go_wp2_with fail
    refine (HZ2.out _).mono ?_
    rintro e w2 ⟨rfl, hB2⟩
    have hB2 : Below w1.heap.size w1 w2 := by rw [← hB2]; exact boxD_bel w1 _ _
    have b2 := hid (b1.out.trans (hB2.mono b1.out.size))
    clear hB2
    go_wp2_with fail
    go_ret
    exact ⟨rfl, b2.out⟩
  have hke : k ≤ 1048576 := by omega
  have HZ2 := hid (fun w => szDevice_okL p k kc e0 e1 e2 e3 e4 e5 e6 e7 pr2 st2 tk2 (1048576 - (len : Int)) w (by omega) (by omega))
  have hz2 : (0 : Int) ≤ 1048576 - (len : Int) - (k : Int) := by omega
  have HS := hid (fun x x' w1 (h1 : Stk w1 x zs) (h3 : Stk w1 x' ys) => specSameDevice_any x x' len k len k zs ys d0 d1 d2 d3 d4 d5 d6 d7 pr st tk e0 e1 e2 e3 e4 e5 e6 e7 pr2 st2 tk2 w1 h1 h3 hn.out gn.out)
  have HM := hid (fun x x' w1 (h1 : Stk w1 x zs) (h3 : Stk w1 x' ys) => implSameDevice_any x x' len k len k zs ys d0 d1 d2 d3 d4 d5 d6 d7 pr st tk e0 e1 e2 e3 e4 e5 e6 e7 pr2 st2 tk2 w1 h1 h3 hn.out gn.out)
  obtain ⟨r, hr⟩ : ∃ r, samDev zs ys [d0, d1, d2, d3, d4, d5, d6, d7] [e0, e1, e2, e3, e4, e5, e6, e7] pr pr2 st st2 tk tk2 = r := ⟨_, rfl⟩
  rw [hr] at HS HM
  have hrr : (r != r) = false := by simp
  clear hs hs2 hl gl hr
  go_enter Try.func4, Try.ntmps4
  go_wp2_with fail
  rw [← hW2.out]
  refine (HZ.out _).mono ?_
  rintro e w1 ⟨rfl, hB1⟩
  have hB1 : Below W.heap.size W w1 := by rw [← hB1]; exact boxD_bel W _ _
  have bV1 := hid hB1
  have QA1 := hid (QA.out.below hB1 QA.out.lt)
  have QB1 := hid (QB.out.below hB1 QB.out.lt)
  have y0 := QB1.out.cell 0; have y1 := QB1.out.cell 1; have y2 := QB1.out.cell 2; have y3 := QB1.out.cell 3; have y4 := QB1.out.cell 4; have y5 := QB1.out.cell 5; have y6 := QB1.out.cell 6; have y7 := QB1.out.cell 7; have y8 := QB1.out.cell 8; have y9 := QB1.out.cell 9; have y10 := QB1.out.cell 10; have y11 := QB1.out.cell 11
  simp only [List.getElem?_cons_zero, List.getElem?_cons_succ] at y0 y1 y2 y3 y4 y5 y6 y7 y8 y9 y10 y11
  clear hB1
  go_wp2_with fail
  refine (HZ2.out _).mono ?_
  rintro e V ⟨rfl, hB2⟩
  have hB2 : Below w1.heap.size w1 V := by rw [← hB2]; exact boxD_bel w1 _ _
  have bV0 := hid (bV1.out.trans (hB2.mono bV1.out.size))
  have QA2 := hid (QA1.out.below hB2 QA1.out.lt)
  have QB2 := hid (QB1.out.below hB2 QB1.out.lt)
  clear y0 y1 y2 y3 y4 y5 y6 y7 y8 y9 y10 y11 hB2
  have lx := QA2.out.lt
  have x0 := QA2.out.cell 0; have x1 := QA2.out.cell 1; have x2 := QA2.out.cell 2; have x3 := QA2.out.cell 3; have x4 := QA2.out.cell 4; have x5 := QA2.out.cell 5; have x6 := QA2.out.cell 6; have x7 := QA2.out.cell 7; have x8 := QA2.out.cell 8; have x9 := QA2.out.cell 9; have x10 := QA2.out.cell 10; have x11 := QA2.out.cell 11
  simp only [List.getElem?_cons_zero, List.getElem?_cons_succ] at x0 x1 x2 x3 x4 x5 x6 x7 x8 x9 x10 x11
  have ly := QB2.out.lt
  have y0 := QB2.out.cell 0; have y1 := QB2.out.cell 1; have y2 := QB2.out.cell 2; have y3 := QB2.out.cell 3; have y4 := QB2.out.cell 4; have y5 := QB2.out.cell 5; have y6 := QB2.out.cell 6; have y7 := QB2.out.cell 7; have y8 := QB2.out.cell 8; have y9 := QB2.out.cell 9; have y10 := QB2.out.cell 10; have y11 := QB2.out.cell 11
  simp only [List.getElem?_cons_zero, List.getElem?_cons_succ] at y0 y1 y2 y3 y4 y5 y6 y7 y8 y9 y10 y11
  have SOF := hid (fun (v : World) (h : Below V.heap.size V v) => (And.intro ((h.cell (p := ⟨w.heap.size, 0, none⟩) lx).trans x0) (And.intro ((h.cell (p := ⟨w.heap.size, 1, none⟩) lx).trans x1) (And.intro ((h.cell (p := ⟨w.heap.size, 2, none⟩) lx).trans x2) (And.intro ((h.cell (p := ⟨w.heap.size, 3, none⟩) lx).trans x3) (And.intro ((h.cell (p := ⟨w.heap.size, 4, none⟩) lx).trans x4) (And.intro ((h.cell (p := ⟨w.heap.size, 5, none⟩) lx).trans x5) (And.intro ((h.cell (p := ⟨w.heap.size, 6, none⟩) lx).trans x6) (And.intro ((h.cell (p := ⟨w.heap.size, 7, none⟩) lx).trans x7) (And.intro ((h.cell (p := ⟨w.heap.size, 8, none⟩) lx).trans x8) (And.intro ((h.cell (p := ⟨w.heap.size, 9, none⟩) lx).trans x9) (And.intro ((h.cell (p := ⟨w.heap.size, 10, none⟩) lx).trans x10) (And.intro ((h.cell (p := ⟨w.heap.size, 11, none⟩) lx).trans x11) (And.intro ((h.cell (p := ⟨w.heap.size + 1, 0, none⟩) ly).trans y0) (And.intro ((h.cell (p := ⟨w.heap.size + 1, 1, none⟩) ly).trans y1) (And.intro ((h.cell (p := ⟨w.heap.size + 1, 2, none⟩) ly).trans y2) (And.intro ((h.cell (p := ⟨w.heap.size + 1, 3, none⟩) ly).trans y3) (And.intro ((h.cell (p := ⟨w.heap.size + 1, 4, none⟩) ly).trans y4) (And.intro ((h.cell (p := ⟨w.heap.size + 1, 5, none⟩) ly).trans y5) (And.intro ((h.cell (p := ⟨w.heap.size + 1, 6, none⟩) ly).trans y6) (And.intro ((h.cell (p := ⟨w.heap.size + 1, 7, none⟩) ly).trans y7) (And.intro ((h.cell (p := ⟨w.heap.size + 1, 8, none⟩) ly).trans y8) (And.intro ((h.cell (p := ⟨w.heap.size + 1, 9, none⟩) ly).trans y9) (And.intro ((h.cell (p := ⟨w.heap.size + 1, 10, none⟩) ly).trans y10) ((h.cell (p := ⟨w.heap.size + 1, 11, none⟩) ly).trans y11)))))))))))))))))))))))))
  have hb0 := Below.refl V.heap.size V
  go_wp2_with fail
  go_region_held3 (fun w' => w'.cell? ⟨w.heap.size, 0, none⟩ = some (.slice a len cap) ∧ w'.cell? ⟨w.heap.size, 1, none⟩ = some (.int .u8 d0) ∧ w'.cell? ⟨w.heap.size, 2, none⟩ = some (.int .u8 d1) ∧ w'.cell? ⟨w.heap.size, 3, none⟩ = some (.int .u8 d2) ∧ w'.cell? ⟨w.heap.size, 4, none⟩ = some (.int .u8 d3) ∧ w'.cell? ⟨w.heap.size, 5, none⟩ = some (.int .u8 d4) ∧ w'.cell? ⟨w.heap.size, 6, none⟩ = some (.int .u8 d5) ∧ w'.cell? ⟨w.heap.size, 7, none⟩ = some (.int .u8 d6) ∧ w'.cell? ⟨w.heap.size, 8, none⟩ = some (.int .u8 d7) ∧ w'.cell? ⟨w.heap.size, 9, none⟩ = some (.int .i64 pr) ∧ w'.cell? ⟨w.heap.size, 10, none⟩ = some (.bool st) ∧ w'.cell? ⟨w.heap.size, 11, none⟩ = some (.int .i64 tk) ∧ w'.cell? ⟨w.heap.size + 1, 0, none⟩ = some (.slice p k kc) ∧ w'.cell? ⟨w.heap.size + 1, 1, none⟩ = some (.int .u8 e0) ∧ w'.cell? ⟨w.heap.size + 1, 2, none⟩ = some (.int .u8 e1) ∧ w'.cell? ⟨w.heap.size + 1, 3, none⟩ = some (.int .u8 e2) ∧ w'.cell? ⟨w.heap.size + 1, 4, none⟩ = some (.int .u8 e3) ∧ w'.cell? ⟨w.heap.size + 1, 5, none⟩ = some (.int .u8 e4) ∧ w'.cell? ⟨w.heap.size + 1, 6, none⟩ = some (.int .u8 e5) ∧ w'.cell? ⟨w.heap.size + 1, 7, none⟩ = some (.int .u8 e6) ∧ w'.cell? ⟨w.heap.size + 1, 8, none⟩ = some (.int .u8 e7) ∧ w'.cell? ⟨w.heap.size + 1, 9, none⟩ = some (.int .i64 pr2) ∧ w'.cell? ⟨w.heap.size + 1, 10, none⟩ = some (.bool st2) ∧ w'.cell? ⟨w.heap.size + 1, 11, none⟩ = some (.int .i64 tk2)) (exact SOF.out _ (by (repeat (first | assumption | refine Below.drew ?_ | refine Below.setCell ?_ (by first | omega | (simp; done) | (simp; omega)) _ | refine Below.alloc ?_ (by first | omega | (simp; done) | (simp; omega)) _))))
    ((first | (go_at_call 13; have hX := toDevice_any p k kc ys e0 e1 e2 e3 e4 e5 e6 e7 pr2 st2 tk2 v1 (gI.out.below (bV0.out.trans (hb1.mono bV0.out.size)) (Nat.le_refl _)) hke; refine hX.mono ?_; clear hX; rintro e v2 ⟨X2, rfl, hB2, hS2, _⟩; have hb2 : Below V.heap.size V v2 := bel_stepD hb1 hB2) | (go_at_call 13; have hX := toDevice_any a len cap zs d0 d1 d2 d3 d4 d5 d6 d7 pr st tk V.drew (hI.out.below bV0.out.drew (Nat.le_refl _)) hle; refine hX.mono ?_; clear hX; rintro e v1 ⟨X1, rfl, hB1, hS1, _⟩; have hb1 : Below V.heap.size V v1 := bel_stepD hb0.drew hB1) | (go_at_call 16; have hX := HS.out X1 X2 v2 (hS1.below hB2 hS1.1) hS2; refine hX.mono ?_; clear hX; rintro e v3 ⟨rfl, hB3⟩; have hb3 : Below V.heap.size V v3 := bel_stepD hb2 hB3)))
  have b3 := hid (bV0.out.trans (hb3.mono bV0.out.size))
  have QA3 := hid (QA2.out.below hb3 lx)
  have QB3 := hid (QB2.out.below hb3 ly)
  clear hb1 hb2 hb3 hB1 hB2 hB3 hS1 hS2 x0 x1 x2 x3 x4 x5 x6 x7 x8 x9 x10 x11 y0 y1 y2 y3 y4 y5 y6 y7 y8 y9 y10 y11 hb0 lx ly SOF
  have x0 := QA3.out.cell 0; have x1 := QA3.out.cell 1; have x2 := QA3.out.cell 2; have x3 := QA3.out.cell 3; have x4 := QA3.out.cell 4; have x5 := QA3.out.cell 5; have x6 := QA3.out.cell 6; have x7 := QA3.out.cell 7; have x8 := QA3.out.cell 8; have x9 := QA3.out.cell 9; have x10 := QA3.out.cell 10; have x11 := QA3.out.cell 11
  simp only [List.getElem?_cons_zero, List.getElem?_cons_succ] at x0 x1 x2 x3 x4 x5 x6 x7 x8 x9 x10 x11
  go_wp2_with fail
  refine (toDevice_any a len cap zs d0 d1 d2 d3 d4 d5 d6 d7 pr st tk _ (hI.out.below b3.out (Nat.le_refl _)) hle).mono ?_
  rintro e u1 ⟨X, rfl, hC1, hSx, _⟩
  have b4 := hid (b3.out.trans (hC1.mono b3.out.size))
  have al1 : Below u1.heap.size u1 (u1.alloc (.cells #[.slice (some ⟨X, 0, none⟩) len len, .int .u8 d0, .int .u8 d1, .int .u8 d2, .int .u8 d3, .int .u8 d4, .int .u8 d5, .int .u8 d6, .int .u8 d7, .int .i64 pr, .bool st, .int .i64 tk] 31)) := boxD_bel u1 _ _
  have QA5 := hid ((QA3.out.below hC1 QA3.out.lt).below al1 (Nat.lt_of_lt_of_le QA3.out.lt hC1.size))
  have QB5 := hid ((QB3.out.below hC1 QB3.out.lt).below al1 (Nat.lt_of_lt_of_le QB3.out.lt hC1.size))
  have SX5 := hid (hSx.below al1 hSx.1)
  have QX5 := hid (Row.new u1 31 [.slice (some ⟨X, 0, none⟩) len len, .int .u8 d0, .int .u8 d1, .int .u8 d2, .int .u8 d3, .int .u8 d4, .int .u8 d5, .int .u8 d6, .int .u8 d7, .int .i64 pr, .bool st, .int .i64 tk])
  have b5 := hid (b4.out.trans (al1.mono b4.out.size))
  clear x0 x1 x2 x3 x4 x5 x6 x7 x8 x9 x10 x11 hC1 hSx al1
  have y0 := QB5.out.cell 0; have y1 := QB5.out.cell 1; have y2 := QB5.out.cell 2; have y3 := QB5.out.cell 3; have y4 := QB5.out.cell 4; have y5 := QB5.out.cell 5; have y6 := QB5.out.cell 6; have y7 := QB5.out.cell 7; have y8 := QB5.out.cell 8; have y9 := QB5.out.cell 9; have y10 := QB5.out.cell 10; have y11 := QB5.out.cell 11
  simp only [List.getElem?_cons_zero, List.getElem?_cons_succ] at y0 y1 y2 y3 y4 y5 y6 y7 y8 y9 y10 y11
  go_wp2_with fail
  refine (toDevice_any p k kc ys e0 e1 e2 e3 e4 e5 e6 e7 pr2 st2 tk2 _ (gI.out.below b5.out (Nat.le_refl _)) hke).mono ?_
  rintro e u2 ⟨Z, rfl, hC2, hSz, _⟩
  have b6 := hid (b5.out.trans (hC2.mono b5.out.size))
  have al2 : Below u2.heap.size u2 (u2.alloc (.cells #[.slice (some ⟨Z, 0, none⟩) k k, .int .u8 e0, .int .u8 e1, .int .u8 e2, .int .u8 e3, .int .u8 e4, .int .u8 e5, .int .u8 e6, .int .u8 e7, .int .i64 pr2, .bool st2, .int .i64 tk2] 31)) := boxD_bel u2 _ _
  have QA7 := hid ((QA5.out.below hC2 QA5.out.lt).below al2 (Nat.lt_of_lt_of_le QA5.out.lt hC2.size))
  have QB7 := hid ((QB5.out.below hC2 QB5.out.lt).below al2 (Nat.lt_of_lt_of_le QB5.out.lt hC2.size))
  have QX7 := hid ((QX5.out.below hC2 QX5.out.lt).below al2 (Nat.lt_of_lt_of_le QX5.out.lt hC2.size))
  have SX7 := hid ((SX5.out.below hC2 SX5.out.1).below al2 (Nat.lt_of_lt_of_le SX5.out.1 hC2.size))
  have SZ7 := hid (hSz.below al2 hSz.1)
  have QZ7 := hid (Row.new u2 31 [.slice (some ⟨Z, 0, none⟩) k k, .int .u8 e0, .int .u8 e1, .int .u8 e2, .int .u8 e3, .int .u8 e4, .int .u8 e5, .int .u8 e6, .int .u8 e7, .int .i64 pr2, .bool st2, .int .i64 tk2])
  have b7 := hid (b6.out.trans (al2.mono b6.out.size))
  clear y0 y1 y2 y3 y4 y5 y6 y7 y8 y9 y10 y11 hC2 hSz al2
  have x0 := QX7.out.cell 0; have x1 := QX7.out.cell 1; have x2 := QX7.out.cell 2; have x3 := QX7.out.cell 3; have x4 := QX7.out.cell 4; have x5 := QX7.out.cell 5; have x6 := QX7.out.cell 6; have x7 := QX7.out.cell 7; have x8 := QX7.out.cell 8; have x9 := QX7.out.cell 9; have x10 := QX7.out.cell 10; have x11 := QX7.out.cell 11
  simp only [List.getElem?_cons_zero, List.getElem?_cons_succ] at x0 x1 x2 x3 x4 x5 x6 x7 x8 x9 x10 x11
  have y0 := QZ7.out.cell 0; have y1 := QZ7.out.cell 1; have y2 := QZ7.out.cell 2; have y3 := QZ7.out.cell 3; have y4 := QZ7.out.cell 4; have y5 := QZ7.out.cell 5; have y6 := QZ7.out.cell 6; have y7 := QZ7.out.cell 7; have y8 := QZ7.out.cell 8; have y9 := QZ7.out.cell 9; have y10 := QZ7.out.cell 10; have y11 := QZ7.out.cell 11
  simp only [List.getElem?_cons_zero, List.getElem?_cons_succ] at y0 y1 y2 y3 y4 y5 y6 y7 y8 y9 y10 y11
  go_wp2_with fail
  refine (HM.out X Z _ SX7.out SZ7.out).mono ?_
  rintro e u3 ⟨rfl, hC3⟩
  have b8 := hid (b7.out.trans (hC3.mono b7.out.size))
  have QA8 := hid (QA7.out.below hC3 QA7.out.lt)
  have QB8 := hid (QB7.out.below hC3 QB7.out.lt)
  have QX8 := hid (QX7.out.below hC3 QX7.out.lt)
  have QZ8 := hid (QZ7.out.below hC3 QZ7.out.lt)
  have SX8 := hid (SX7.out.below hC3 SX7.out.1)
  have SZ8 := hid (SZ7.out.below hC3 SZ7.out.1)
  clear x0 x1 x2 x3 x4 x5 x6 x7 x8 x9 x10 x11 y0 y1 y2 y3 y4 y5 y6 y7 y8 y9 y10 y11 hC3
  have lx := QX8.out.lt
  have x0 := QX8.out.cell 0; have x1 := QX8.out.cell 1; have x2 := QX8.out.cell 2; have x3 := QX8.out.cell 3; have x4 := QX8.out.cell 4; have x5 := QX8.out.cell 5; have x6 := QX8.out.cell 6; have x7 := QX8.out.cell 7; have x8 := QX8.out.cell 8; have x9 := QX8.out.cell 9; have x10 := QX8.out.cell 10; have x11 := QX8.out.cell 11
  simp only [List.getElem?_cons_zero, List.getElem?_cons_succ] at x0 x1 x2 x3 x4 x5 x6 x7 x8 x9 x10 x11
  have ly := QA8.out.lt
  have y0 := QA8.out.cell 0; have y1 := QA8.out.cell 1; have y2 := QA8.out.cell 2; have y3 := QA8.out.cell 3; have y4 := QA8.out.cell 4; have y5 := QA8.out.cell 5; have y6 := QA8.out.cell 6; have y7 := QA8.out.cell 7; have y8 := QA8.out.cell 8; have y9 := QA8.out.cell 9; have y10 := QA8.out.cell 10; have y11 := QA8.out.cell 11
  simp only [List.getElem?_cons_zero, List.getElem?_cons_succ] at y0 y1 y2 y3 y4 y5 y6 y7 y8 y9 y10 y11
  have SOF := hid (fun (v : World) (h : Below u3.heap.size u3 v) => (And.intro ((h.cell (p := ⟨u1.heap.size, 0, none⟩) lx).trans x0) (And.intro ((h.cell (p := ⟨u1.heap.size, 1, none⟩) lx).trans x1) (And.intro ((h.cell (p := ⟨u1.heap.size, 2, none⟩) lx).trans x2) (And.intro ((h.cell (p := ⟨u1.heap.size, 3, none⟩) lx).trans x3) (And.intro ((h.cell (p := ⟨u1.heap.size, 4, none⟩) lx).trans x4) (And.intro ((h.cell (p := ⟨u1.heap.size, 5, none⟩) lx).trans x5) (And.intro ((h.cell (p := ⟨u1.heap.size, 6, none⟩) lx).trans x6) (And.intro ((h.cell (p := ⟨u1.heap.size, 7, none⟩) lx).trans x7) (And.intro ((h.cell (p := ⟨u1.heap.size, 8, none⟩) lx).trans x8) (And.intro ((h.cell (p := ⟨u1.heap.size, 9, none⟩) lx).trans x9) (And.intro ((h.cell (p := ⟨u1.heap.size, 10, none⟩) lx).trans x10) (And.intro ((h.cell (p := ⟨u1.heap.size, 11, none⟩) lx).trans x11) (And.intro ((h.cell (p := ⟨w.heap.size, 0, none⟩) ly).trans y0) (And.intro ((h.cell (p := ⟨w.heap.size, 1, none⟩) ly).trans y1) (And.intro ((h.cell (p := ⟨w.heap.size, 2, none⟩) ly).trans y2) (And.intro ((h.cell (p := ⟨w.heap.size, 3, none⟩) ly).trans y3) (And.intro ((h.cell (p := ⟨w.heap.size, 4, none⟩) ly).trans y4) (And.intro ((h.cell (p := ⟨w.heap.size, 5, none⟩) ly).trans y5) (And.intro ((h.cell (p := ⟨w.heap.size, 6, none⟩) ly).trans y6) (And.intro ((h.cell (p := ⟨w.heap.size, 7, none⟩) ly).trans y7) (And.intro ((h.cell (p := ⟨w.heap.size, 8, none⟩) ly).trans y8) (And.intro ((h.cell (p := ⟨w.heap.size, 9, none⟩) ly).trans y9) (And.intro ((h.cell (p := ⟨w.heap.size, 10, none⟩) ly).trans y10) ((h.cell (p := ⟨w.heap.size, 11, none⟩) ly).trans y11)))))))))))))))))))))))))
  have hb0 := Below.refl u3.heap.size u3
  go_wp2_with fail
  go_region_held3 (fun w' => w'.cell? ⟨u1.heap.size, 0, none⟩ = some (.slice (some ⟨X, 0, none⟩) len len) ∧ w'.cell? ⟨u1.heap.size, 1, none⟩ = some (.int .u8 d0) ∧ w'.cell? ⟨u1.heap.size, 2, none⟩ = some (.int .u8 d1) ∧ w'.cell? ⟨u1.heap.size, 3, none⟩ = some (.int .u8 d2) ∧ w'.cell? ⟨u1.heap.size, 4, none⟩ = some (.int .u8 d3) ∧ w'.cell? ⟨u1.heap.size, 5, none⟩ = some (.int .u8 d4) ∧ w'.cell? ⟨u1.heap.size, 6, none⟩ = some (.int .u8 d5) ∧ w'.cell? ⟨u1.heap.size, 7, none⟩ = some (.int .u8 d6) ∧ w'.cell? ⟨u1.heap.size, 8, none⟩ = some (.int .u8 d7) ∧ w'.cell? ⟨u1.heap.size, 9, none⟩ = some (.int .i64 pr) ∧ w'.cell? ⟨u1.heap.size, 10, none⟩ = some (.bool st) ∧ w'.cell? ⟨u1.heap.size, 11, none⟩ = some (.int .i64 tk) ∧ w'.cell? ⟨w.heap.size, 0, none⟩ = some (.slice a len cap) ∧ w'.cell? ⟨w.heap.size, 1, none⟩ = some (.int .u8 d0) ∧ w'.cell? ⟨w.heap.size, 2, none⟩ = some (.int .u8 d1) ∧ w'.cell? ⟨w.heap.size, 3, none⟩ = some (.int .u8 d2) ∧ w'.cell? ⟨w.heap.size, 4, none⟩ = some (.int .u8 d3) ∧ w'.cell? ⟨w.heap.size, 5, none⟩ = some (.int .u8 d4) ∧ w'.cell? ⟨w.heap.size, 6, none⟩ = some (.int .u8 d5) ∧ w'.cell? ⟨w.heap.size, 7, none⟩ = some (.int .u8 d6) ∧ w'.cell? ⟨w.heap.size, 8, none⟩ = some (.int .u8 d7) ∧ w'.cell? ⟨w.heap.size, 9, none⟩ = some (.int .i64 pr) ∧ w'.cell? ⟨w.heap.size, 10, none⟩ = some (.bool st) ∧ w'.cell? ⟨w.heap.size, 11, none⟩ = some (.int .i64 tk)) (exact SOF.out _ (by (repeat (first | assumption | refine Below.drew ?_ | refine Below.setCell ?_ (by first | omega | (simp; done) | (simp; omega)) _ | refine Below.alloc ?_ (by first | omega | (simp; done) | (simp; omega)) _))))
    ((first | (go_at_call 13; have hX := toDevice_any a len cap zs d0 d1 d2 d3 d4 d5 d6 d7 pr st tk u3.drew (hI.out.below b8.out.drew (Nat.le_refl _)) hle; refine hX.mono ?_; clear hX; rintro e t1 ⟨P1, rfl, hB1, hS1, _⟩; have hk1 : Below u3.heap.size u3 t1 := bel_stepD hb0.drew hB1) | (go_at_call 15; have hX := eqDevice_same X P1 len len len zs d0 d1 d2 d3 d4 d5 d6 d7 pr st tk t1 (SX8.out.below hk1 SX8.out.1) hS1 hn.out; refine hX.mono ?_; clear hX; rintro e t2 ⟨rfl, hB2⟩; have hk2 : Below u3.heap.size u3 t2 := bel_stepD hk1 hB2)))
  obtain ⟨u4, hu4⟩ : ∃ z, z = t2 := ⟨_, rfl⟩
  rw [← hu4] at hk2 ⊢
  have b9 := hid (b8.out.trans (hk2.mono b8.out.size))
  have QB9 := hid (QB8.out.below hk2 QB8.out.lt)
  have QZ9 := hid (QZ8.out.below hk2 QZ8.out.lt)
  have SZ9 := hid (SZ8.out.below hk2 SZ8.out.1)
  clear hb0 hk1 hk2 hB1 hB2 hS1 x0 x1 x2 x3 x4 x5 x6 x7 x8 x9 x10 x11 y0 y1 y2 y3 y4 y5 y6 y7 y8 y9 y10 y11 lx ly SOF hu4
  have lx := QZ9.out.lt
  have x0 := QZ9.out.cell 0; have x1 := QZ9.out.cell 1; have x2 := QZ9.out.cell 2; have x3 := QZ9.out.cell 3; have x4 := QZ9.out.cell 4; have x5 := QZ9.out.cell 5; have x6 := QZ9.out.cell 6; have x7 := QZ9.out.cell 7; have x8 := QZ9.out.cell 8; have x9 := QZ9.out.cell 9; have x10 := QZ9.out.cell 10; have x11 := QZ9.out.cell 11
  simp only [List.getElem?_cons_zero, List.getElem?_cons_succ] at x0 x1 x2 x3 x4 x5 x6 x7 x8 x9 x10 x11
  have ly := QB9.out.lt
  have y0 := QB9.out.cell 0; have y1 := QB9.out.cell 1; have y2 := QB9.out.cell 2; have y3 := QB9.out.cell 3; have y4 := QB9.out.cell 4; have y5 := QB9.out.cell 5; have y6 := QB9.out.cell 6; have y7 := QB9.out.cell 7; have y8 := QB9.out.cell 8; have y9 := QB9.out.cell 9; have y10 := QB9.out.cell 10; have y11 := QB9.out.cell 11
  simp only [List.getElem?_cons_zero, List.getElem?_cons_succ] at y0 y1 y2 y3 y4 y5 y6 y7 y8 y9 y10 y11
  have SOF := hid (fun (v : World) (h : Below u4.heap.size u4 v) => (And.intro ((h.cell (p := ⟨u2.heap.size, 0, none⟩) lx).trans x0) (And.intro ((h.cell (p := ⟨u2.heap.size, 1, none⟩) lx).trans x1) (And.intro ((h.cell (p := ⟨u2.heap.size, 2, none⟩) lx).trans x2) (And.intro ((h.cell (p := ⟨u2.heap.size, 3, none⟩) lx).trans x3) (And.intro ((h.cell (p := ⟨u2.heap.size, 4, none⟩) lx).trans x4) (And.intro ((h.cell (p := ⟨u2.heap.size, 5, none⟩) lx).trans x5) (And.intro ((h.cell (p := ⟨u2.heap.size, 6, none⟩) lx).trans x6) (And.intro ((h.cell (p := ⟨u2.heap.size, 7, none⟩) lx).trans x7) (And.intro ((h.cell (p := ⟨u2.heap.size, 8, none⟩) lx).trans x8) (And.intro ((h.cell (p := ⟨u2.heap.size, 9, none⟩) lx).trans x9) (And.intro ((h.cell (p := ⟨u2.heap.size, 10, none⟩) lx).trans x10) (And.intro ((h.cell (p := ⟨u2.heap.size, 11, none⟩) lx).trans x11) (And.intro ((h.cell (p := ⟨w.heap.size + 1, 0, none⟩) ly).trans y0) (And.intro ((h.cell (p := ⟨w.heap.size + 1, 1, none⟩) ly).trans y1) (And.intro ((h.cell (p := ⟨w.heap.size + 1, 2, none⟩) ly).trans y2) (And.intro ((h.cell (p := ⟨w.heap.size + 1, 3, none⟩) ly).trans y3) (And.intro ((h.cell (p := ⟨w.heap.size + 1, 4, none⟩) ly).trans y4) (And.intro ((h.cell (p := ⟨w.heap.size + 1, 5, none⟩) ly).trans y5) (And.intro ((h.cell (p := ⟨w.heap.size + 1, 6, none⟩) ly).trans y6) (And.intro ((h.cell (p := ⟨w.heap.size + 1, 7, none⟩) ly).trans y7) (And.intro ((h.cell (p := ⟨w.heap.size + 1, 8, none⟩) ly).trans y8) (And.intro ((h.cell (p := ⟨w.heap.size + 1, 9, none⟩) ly).trans y9) (And.intro ((h.cell (p := ⟨w.heap.size + 1, 10, none⟩) ly).trans y10) ((h.cell (p := ⟨w.heap.size + 1, 11, none⟩) ly).trans y11)))))))))))))))))))))))))
  have hb0 := Below.refl u4.heap.size u4
  go_wp2_with fail
  go_region_held3 (fun w' => w'.cell? ⟨u2.heap.size, 0, none⟩ = some (.slice (some ⟨Z, 0, none⟩) k k) ∧ w'.cell? ⟨u2.heap.size, 1, none⟩ = some (.int .u8 e0) ∧ w'.cell? ⟨u2.heap.size, 2, none⟩ = some (.int .u8 e1) ∧ w'.cell? ⟨u2.heap.size, 3, none⟩ = some (.int .u8 e2) ∧ w'.cell? ⟨u2.heap.size, 4, none⟩ = some (.int .u8 e3) ∧ w'.cell? ⟨u2.heap.size, 5, none⟩ = some (.int .u8 e4) ∧ w'.cell? ⟨u2.heap.size, 6, none⟩ = some (.int .u8 e5) ∧ w'.cell? ⟨u2.heap.size, 7, none⟩ = some (.int .u8 e6) ∧ w'.cell? ⟨u2.heap.size, 8, none⟩ = some (.int .u8 e7) ∧ w'.cell? ⟨u2.heap.size, 9, none⟩ = some (.int .i64 pr2) ∧ w'.cell? ⟨u2.heap.size, 10, none⟩ = some (.bool st2) ∧ w'.cell? ⟨u2.heap.size, 11, none⟩ = some (.int .i64 tk2) ∧ w'.cell? ⟨w.heap.size + 1, 0, none⟩ = some (.slice p k kc) ∧ w'.cell? ⟨w.heap.size + 1, 1, none⟩ = some (.int .u8 e0) ∧ w'.cell? ⟨w.heap.size + 1, 2, none⟩ = some (.int .u8 e1) ∧ w'.cell? ⟨w.heap.size + 1, 3, none⟩ = some (.int .u8 e2) ∧ w'.cell? ⟨w.heap.size + 1, 4, none⟩ = some (.int .u8 e3) ∧ w'.cell? ⟨w.heap.size + 1, 5, none⟩ = some (.int .u8 e4) ∧ w'.cell? ⟨w.heap.size + 1, 6, none⟩ = some (.int .u8 e5) ∧ w'.cell? ⟨w.heap.size + 1, 7, none⟩ = some (.int .u8 e6) ∧ w'.cell? ⟨w.heap.size + 1, 8, none⟩ = some (.int .u8 e7) ∧ w'.cell? ⟨w.heap.size + 1, 9, none⟩ = some (.int .i64 pr2) ∧ w'.cell? ⟨w.heap.size + 1, 10, none⟩ = some (.bool st2) ∧ w'.cell? ⟨w.heap.size + 1, 11, none⟩ = some (.int .i64 tk2)) (exact SOF.out _ (by (repeat (first | assumption | refine Below.drew ?_ | refine Below.setCell ?_ (by first | omega | (simp; done) | (simp; omega)) _ | refine Below.alloc ?_ (by first | omega | (simp; done) | (simp; omega)) _))))
    ((first | (go_at_call 13; have hX := toDevice_any p k kc ys e0 e1 e2 e3 e4 e5 e6 e7 pr2 st2 tk2 u4.drew (gI.out.below b9.out.drew (Nat.le_refl _)) hke; refine hX.mono ?_; clear hX; rintro e t1 ⟨P1, rfl, hB1, hS1, _⟩; have hk1 : Below u4.heap.size u4 t1 := bel_stepD hb0.drew hB1) | (go_at_call 15; have hX := eqDevice_same Z P1 k k k ys e0 e1 e2 e3 e4 e5 e6 e7 pr2 st2 tk2 t1 (SZ9.out.below hk1 SZ9.out.1) hS1 gn.out; refine hX.mono ?_; clear hX; rintro e t2 ⟨rfl, hB2⟩; have hk2 : Below u4.heap.size u4 t2 := bel_stepD hk1 hB2)))
  go_wp2_with fail
  go_ret
  exact ⟨rfl, bE.out.trans ((b9.out.trans (hk2.mono b9.out.size)).mono bE.out.size)⟩
end Go.Proofs.Ytangjgfjojfcaaa
