/- The walk of the law over BatchActs. -/
import Derived.Test.YtangjgfjojfcaaaBat
import Derived.Test.YtangjgfjojfcaaaDevR
namespace Go.Proofs.Ytangjgfjojfcaaa
open Go.RowKit
set_option linter.unusedVariables false
set_option linter.unusedSimpArgs false
theorem OwnA.only {g base : Nat} {w w' : World} {v : Value} {zs : List (Int × Int)} (h : OwnA w base v zs) (o : OnlyB g w w') (hg : g < base) : OwnA w' base v zs := by
  obtain ⟨a, cap, h1, h2, h3⟩ := h
  refine ⟨a, cap, h1, h2, ?_⟩
  rcases h3 with h0 | ⟨q, rest, e, hq, hr⟩
  · exact .inl h0
  · exact .inr ⟨q, rest, e, hq, o.row hr (by omega)⟩
theorem OwnA.later {w w' : World} {base : Nat} {v : Value} {zs : List (Int × Int)} (h : OwnA w base v zs) (hb : Below w.heap.size w w') : OwnA w' base v zs := h.low (Below.refl _ _) (Nat.le_refl _) hb
theorem bel_stepB {W w w' : World} (h : Below W.heap.size W w) (hB : Below w.heap.size w w') : Below W.heap.size W w' := h.trans (hB.mono h.size)
set_option maxRecDepth 100000 in
set_option maxHeartbeats 8000000 in
theorem law_FnExactBatchActs (a : Option Addr) (len cap : Nat) (zs : List Int) (d0 d1 d2 d3 d4 d5 d6 d7 : Int) (pr : Int) (st : Bool) (tk : Int) (s m : Int) (w : World) (hl : len ≤ 9223372036854775807) (h : InB w a len zs) (ho : Oct d0 d1 d2 d3 d4 d5 d6 d7) (hp : I64 pr) (ht : I64 tk) (hs64 : (Lit.int .i64 s).wf = true) (hm64 : (Lit.int .i64 m).wf = true) :
    Calls Try.prog 10 #[.agg #[.slice a len cap, .int .u8 d0, .int .u8 d1, .int .u8 d2, .int .u8 d3, .int .u8 d4, .int .u8 d5, .int .u8 d6, .int .u8 d7, .int .i64 pr, .bool st, .int .i64 tk], .int .i64 s, .int .i64 m] w fun e w' => e = .returned (.bool true) ∧ Below w.heap.size w w' := by
  have bel0 : Below w.heap.size w (w.alloc (.cells #[.slice a len cap, .int .u8 d0, .int .u8 d1, .int .u8 d2, .int .u8 d3, .int .u8 d4, .int .u8 d5, .int .u8 d6, .int .u8 d7, .int .i64 pr, .bool st, .int .i64 tk] 25)) := boxD_bel _ _ _
  have bel : Below w.heap.size w ((w.alloc (.cells #[.slice a len cap, .int .u8 d0, .int .u8 d1, .int .u8 d2, .int .u8 d3, .int .u8 d4, .int .u8 d5, .int .u8 d6, .int .u8 d7, .int .i64 pr, .bool st, .int .i64 tk] 25)).alloc (.cells #[.slice a len cap, .int .u8 d0, .int .u8 d1, .int .u8 d2, .int .u8 d3, .int .u8 d4, .int .u8 d5, .int .u8 d6, .int .u8 d7, .int .i64 pr, .bool st, .int .i64 tk] 25)) := bel0.alloc (by simp) _
  have QA0 := hid ((Row.new w 25 [.slice a len cap, .int .u8 d0, .int .u8 d1, .int .u8 d2, .int .u8 d3, .int .u8 d4, .int .u8 d5, .int .u8 d6, .int .u8 d7, .int .i64 pr, .bool st, .int .i64 tk]).alloc (.cells #[.slice a len cap, .int .u8 d0, .int .u8 d1, .int .u8 d2, .int .u8 d3, .int .u8 d4, .int .u8 d5, .int .u8 d6, .int .u8 d7, .int .i64 pr, .bool st, .int .i64 tk] 25))
  by_cases hs : 1048576 < len
  · have HZ := hid (fun w => szDevice_no a len cap d0 d1 d2 d3 d4 d5 d6 d7 pr st tk w hs hl)
    clear h hs hl ho hp ht
    go_enter Try.func10, Try.ntmps10
    go_wp2_with fail
    refine (HZ.out _).mono ?_
    rintro e w' ⟨rfl, rfl⟩
    go_wp2_with fail
    go_ret
    exact ⟨rfl, bel⟩
  have hle : len ≤ 1048576 := by omega
  have HZ := hid (fun w => szDevice_ok a len cap d0 d1 d2 d3 d4 d5 d6 d7 pr st tk w (by omega))
  have hz : (0 : Int) ≤ 1048576 - (len : Int) := by omega
  have hI := hid h
  have hn : Hid (len = zs.length) := hid h.1.symm
  have b0 := hid bel
  have HS := hid (fun (B : Nat) (w1 : World) (k : Stk w1 B zs) => specBatchActs_any B len len zs d0 d1 d2 d3 d4 d5 d6 d7 pr st tk s m w1 k hn.out ho (bounds_i64 hs64) (bounds_i64 hm64))
  have HM := hid (fun (B : Nat) (w1 : World) (k : Stk w1 B zs) => implBatchActs_any B len len zs d0 d1 d2 d3 d4 d5 d6 d7 pr st tk s m w1 k hn.out ho (bounds_i64 hs64) (bounds_i64 hm64))
  obtain ⟨⟨E, c⟩, hR⟩ : ∃ r, batR zs [d0, d1, d2, d3, d4, d5, d6, d7] pr st tk s m = r := ⟨_, rfl⟩
  rw [hR] at HS HM
  have fc1 : (c != c) = false := by simp
  have fc2 : ((1 + 2 * (E.length : Int)) != (1 + 2 * (E.length : Int))) = false := by simp
  have fc3 : (0 : Int) ≤ 1 + 2 * (E.length : Int) := by omega
  have fc4 : (0 : Int) ≤ 1 + (len : Int) := by omega
  have HSR := hid (fun (b : Nat) (w1 : World) (r : Row w1 b 5 (zs.map (Value.int .u8))) => r.stk hI.out.2.1 (by rw [← hn.out]; exact hle))
  clear hR hs hl h bel0 bel ho hp ht hs64 hm64
  go_enter Try.func10, Try.ntmps10
  go_wp2_with fail
  refine (HZ.out _).mono ?_
  rintro e w' ⟨rfl, rfl⟩
  go_wp2_with fail
  refine (toDevice_any a len cap zs d0 d1 d2 d3 d4 d5 d6 d7 pr st tk _ (hI.out.below b0.out (Nat.le_refl _)) hle).mono ?_
  rintro e w1 ⟨X1, rfl, hB1, hS1, _⟩
  have b1 := hid (b0.out.trans (hB1.mono b0.out.size))
  have QA1 := hid (QA0.out.below hB1 QA0.out.lt)
  clear hB1
  go_wp2_with fail
  refine (HS.out _ w1 hS1).mono ?_
  rintro e w3 ⟨v3, rfl, hO3, hB3⟩
  have b3 := hid (b1.out.trans (hB3.mono b1.out.size))
  have QA3 := hid (QA1.out.below hB3 QA1.out.lt)
  have O3 := hid hO3
  have c3 := hid (Below.refl w3.heap.size w3)
  clear hB3 hS1 hO3
  have p0 := QA3.out.cell 0; have p1 := QA3.out.cell 1; have p2 := QA3.out.cell 2; have p3 := QA3.out.cell 3; have p4 := QA3.out.cell 4; have p5 := QA3.out.cell 5; have p6 := QA3.out.cell 6; have p7 := QA3.out.cell 7; have p8 := QA3.out.cell 8; have p9 := QA3.out.cell 9; have p10 := QA3.out.cell 10; have p11 := QA3.out.cell 11
  simp only [List.getElem?_cons_zero, List.getElem?_cons_succ] at p0 p1 p2 p3 p4 p5 p6 p7 p8 p9 p10 p11
  go_wp2_with fail
  refine (toDeviceR_any a len cap zs d0 d1 d2 d3 d4 d5 d6 d7 pr st tk _ (hI.out.below b3.out (Nat.le_refl _)) hle).mono ?_
  rintro e w4 ⟨X, rfl, hB4, hX4, hXl⟩
  have b4 := hid (b3.out.trans (hB4.mono b3.out.size))
  have c4 := hid (c3.out.trans (hB4.mono c3.out.size))
  have al : Below w4.heap.size w4 (w4.alloc (.cells #[.slice (some ⟨X, 0, none⟩) len len, .int .u8 d0, .int .u8 d1, .int .u8 d2, .int .u8 d3, .int .u8 d4, .int .u8 d5, .int .u8 d6, .int .u8 d7, .int .i64 pr, .bool st, .int .i64 tk] 31)) := boxD_bel w4 _ _
  have QA5 := hid ((QA3.out.below hB4 QA3.out.lt).below al (Nat.lt_of_lt_of_le QA3.out.lt hB4.size))
  have QX5 := hid (Row.new w4 31 [.slice (some ⟨X, 0, none⟩) len len, .int .u8 d0, .int .u8 d1, .int .u8 d2, .int .u8 d3, .int .u8 d4, .int .u8 d5, .int .u8 d6, .int .u8 d7, .int .i64 pr, .bool st, .int .i64 tk])
  have X5 := hid (hX4.below al hX4.lt)
  have hXlt := hid hX4.lt
  have hXL := hid hXl
  have qlt := hid (show w.heap.size < w3.heap.size from QA3.out.lt)
  have b5 := hid (b4.out.trans (al.mono b4.out.size))
  have c5 := hid (c4.out.trans (al.mono c4.out.size))
  have s5 := hid (show (w4.alloc (.cells #[.slice (some ⟨X, 0, none⟩) len len, .int .u8 d0, .int .u8 d1, .int .u8 d2, .int .u8 d3, .int .u8 d4, .int .u8 d5, .int .u8 d6, .int .u8 d7, .int .i64 pr, .bool st, .int .i64 tk] 31)).heap.size = w4.heap.size + 1 by simp)
  obtain ⟨w5, hw5⟩ : ∃ z, z = w4.alloc (.cells #[.slice (some ⟨X, 0, none⟩) len len, .int .u8 d0, .int .u8 d1, .int .u8 d2, .int .u8 d3, .int .u8 d4, .int .u8 d5, .int .u8 d6, .int .u8 d7, .int .i64 pr, .bool st, .int .i64 tk] 31) := ⟨_, rfl⟩
  have HW5 := hid hw5
  rw [← hw5] at QA5 QX5 X5 b5 c5 s5
  clear p0 p1 p2 p3 p4 p5 p6 p7 p8 p9 p10 p11 hB4 hX4 hXl al hw5
  have y0 := QX5.out.cell 0; have y1 := QX5.out.cell 1; have y2 := QX5.out.cell 2; have y3 := QX5.out.cell 3; have y4 := QX5.out.cell 4; have y5 := QX5.out.cell 5; have y6 := QX5.out.cell 6; have y7 := QX5.out.cell 7; have y8 := QX5.out.cell 8; have y9 := QX5.out.cell 9; have y10 := QX5.out.cell 10; have y11 := QX5.out.cell 11
  simp only [List.getElem?_cons_zero, List.getElem?_cons_succ] at y0 y1 y2 y3 y4 y5 y6 y7 y8 y9 y10 y11
  go_upto_region 7 with fail
  rw [← HW5.out]
  go_wp2_with fail
  refine (HM.out X w5 (HSR.out _ _ X5.out)).mono ?_
  rintro e w6 ⟨v6, rfl, hO6, hB6⟩
  have b6 := hid (b5.out.trans (hB6.mono b5.out.size))
  have c6 := hid (c5.out.trans (hB6.mono c5.out.size))
  have QA6 := hid (QA5.out.below hB6 QA5.out.lt)
  have QX6 := hid (QX5.out.below hB6 QX5.out.lt)
  have X6 := hid (X5.out.below hB6 X5.out.lt)
  have G6 := hid hO6
  have g6 := hid hB6.size
  clear y0 y1 y2 y3 y4 y5 y6 y7 y8 y9 y10 y11 hB6 hO6
  go_wp2_with fail
  refine (eqA_own _ _ v6 v3 E _ G6.out (O3.out.later c6.out)).mono ?_
  rintro e V ⟨rfl, e7⟩
  have b7 := hid (b6.out.trans (e7.mono b6.out.size))
  have c7 := hid (c6.out.trans (e7.mono c6.out.size))
  have QA7 := hid (QA6.out.below e7 QA6.out.lt)
  have QX7 := hid (QX6.out.below e7 QX6.out.lt)
  have X7 := hid (X6.out.below e7 X6.out.lt)
  have G7 := hid (G6.out.keep e7)
  have g7 := hid (Nat.le_trans g6.out e7.size)
  clear e7
  have ly := QX7.out.lt
  have lp := QA7.out.lt
  have y0 := QX7.out.cell 0; have y1 := QX7.out.cell 1; have y2 := QX7.out.cell 2; have y3 := QX7.out.cell 3; have y4 := QX7.out.cell 4; have y5 := QX7.out.cell 5; have y6 := QX7.out.cell 6; have y7 := QX7.out.cell 7; have y8 := QX7.out.cell 8; have y9 := QX7.out.cell 9; have y10 := QX7.out.cell 10; have y11 := QX7.out.cell 11
  simp only [List.getElem?_cons_zero, List.getElem?_cons_succ] at y0 y1 y2 y3 y4 y5 y6 y7 y8 y9 y10 y11
  have p0 := QA7.out.cell 0; have p1 := QA7.out.cell 1; have p2 := QA7.out.cell 2; have p3 := QA7.out.cell 3; have p4 := QA7.out.cell 4; have p5 := QA7.out.cell 5; have p6 := QA7.out.cell 6; have p7 := QA7.out.cell 7; have p8 := QA7.out.cell 8; have p9 := QA7.out.cell 9; have p10 := QA7.out.cell 10; have p11 := QA7.out.cell 11
  simp only [List.getElem?_cons_zero, List.getElem?_cons_succ] at p0 p1 p2 p3 p4 p5 p6 p7 p8 p9 p10 p11
  have SOF := hid (fun (v : World) (h : Below V.heap.size V v) => (And.intro ((h.cell (p := ⟨w4.heap.size, 0, none⟩) ly).trans y0) (And.intro ((h.cell (p := ⟨w4.heap.size, 1, none⟩) ly).trans y1) (And.intro ((h.cell (p := ⟨w4.heap.size, 2, none⟩) ly).trans y2) (And.intro ((h.cell (p := ⟨w4.heap.size, 3, none⟩) ly).trans y3) (And.intro ((h.cell (p := ⟨w4.heap.size, 4, none⟩) ly).trans y4) (And.intro ((h.cell (p := ⟨w4.heap.size, 5, none⟩) ly).trans y5) (And.intro ((h.cell (p := ⟨w4.heap.size, 6, none⟩) ly).trans y6) (And.intro ((h.cell (p := ⟨w4.heap.size, 7, none⟩) ly).trans y7) (And.intro ((h.cell (p := ⟨w4.heap.size, 8, none⟩) ly).trans y8) (And.intro ((h.cell (p := ⟨w4.heap.size, 9, none⟩) ly).trans y9) (And.intro ((h.cell (p := ⟨w4.heap.size, 10, none⟩) ly).trans y10) (And.intro ((h.cell (p := ⟨w4.heap.size, 11, none⟩) ly).trans y11) (And.intro ((h.cell (p := ⟨w.heap.size, 0, none⟩) lp).trans p0) (And.intro ((h.cell (p := ⟨w.heap.size, 1, none⟩) lp).trans p1) (And.intro ((h.cell (p := ⟨w.heap.size, 2, none⟩) lp).trans p2) (And.intro ((h.cell (p := ⟨w.heap.size, 3, none⟩) lp).trans p3) (And.intro ((h.cell (p := ⟨w.heap.size, 4, none⟩) lp).trans p4) (And.intro ((h.cell (p := ⟨w.heap.size, 5, none⟩) lp).trans p5) (And.intro ((h.cell (p := ⟨w.heap.size, 6, none⟩) lp).trans p6) (And.intro ((h.cell (p := ⟨w.heap.size, 7, none⟩) lp).trans p7) (And.intro ((h.cell (p := ⟨w.heap.size, 8, none⟩) lp).trans p8) (And.intro ((h.cell (p := ⟨w.heap.size, 9, none⟩) lp).trans p9) (And.intro ((h.cell (p := ⟨w.heap.size, 10, none⟩) lp).trans p10) ((h.cell (p := ⟨w.heap.size, 11, none⟩) lp).trans p11)))))))))))))))))))))))))
  have hb0 := Below.refl V.heap.size V
  go_wp2_with fail
  go_region_held3 (fun w' => w'.cell? ⟨w4.heap.size, 0, none⟩ = some (.slice (some ⟨X, 0, none⟩) len len) ∧ w'.cell? ⟨w4.heap.size, 1, none⟩ = some (.int .u8 d0) ∧ w'.cell? ⟨w4.heap.size, 2, none⟩ = some (.int .u8 d1) ∧ w'.cell? ⟨w4.heap.size, 3, none⟩ = some (.int .u8 d2) ∧ w'.cell? ⟨w4.heap.size, 4, none⟩ = some (.int .u8 d3) ∧ w'.cell? ⟨w4.heap.size, 5, none⟩ = some (.int .u8 d4) ∧ w'.cell? ⟨w4.heap.size, 6, none⟩ = some (.int .u8 d5) ∧ w'.cell? ⟨w4.heap.size, 7, none⟩ = some (.int .u8 d6) ∧ w'.cell? ⟨w4.heap.size, 8, none⟩ = some (.int .u8 d7) ∧ w'.cell? ⟨w4.heap.size, 9, none⟩ = some (.int .i64 pr) ∧ w'.cell? ⟨w4.heap.size, 10, none⟩ = some (.bool st) ∧ w'.cell? ⟨w4.heap.size, 11, none⟩ = some (.int .i64 tk) ∧ w'.cell? ⟨w.heap.size, 0, none⟩ = some (.slice a len cap) ∧ w'.cell? ⟨w.heap.size, 1, none⟩ = some (.int .u8 d0) ∧ w'.cell? ⟨w.heap.size, 2, none⟩ = some (.int .u8 d1) ∧ w'.cell? ⟨w.heap.size, 3, none⟩ = some (.int .u8 d2) ∧ w'.cell? ⟨w.heap.size, 4, none⟩ = some (.int .u8 d3) ∧ w'.cell? ⟨w.heap.size, 5, none⟩ = some (.int .u8 d4) ∧ w'.cell? ⟨w.heap.size, 6, none⟩ = some (.int .u8 d5) ∧ w'.cell? ⟨w.heap.size, 7, none⟩ = some (.int .u8 d6) ∧ w'.cell? ⟨w.heap.size, 8, none⟩ = some (.int .u8 d7) ∧ w'.cell? ⟨w.heap.size, 9, none⟩ = some (.int .i64 pr) ∧ w'.cell? ⟨w.heap.size, 10, none⟩ = some (.bool st) ∧ w'.cell? ⟨w.heap.size, 11, none⟩ = some (.int .i64 tk)) (exact SOF.out _ (by (repeat (first | assumption | refine Below.drew ?_ | refine Below.setCell ?_ (by first | omega | (simp; done) | (simp; omega)) _ | refine Below.alloc ?_ (by first | omega | (simp; done) | (simp; omega)) _))))
    ((first | (go_at_call 13; have hX := toDevice_any a len cap zs d0 d1 d2 d3 d4 d5 d6 d7 pr st tk V.drew (hI.out.below b7.out.drew (Nat.le_refl _)) hle; refine hX.mono ?_; clear hX; rintro e t1 ⟨P1, rfl, hB1, hS1, _⟩; have hk1 : Below V.heap.size V t1 := bel_stepB hb0.drew hB1) | (go_at_call 15; have hX := eqDevice_same X P1 len len len zs d0 d1 d2 d3 d4 d5 d6 d7 pr st tk t1 (HSR.out _ _ (X7.out.below hk1 X7.out.lt)) hS1 hn.out; refine hX.mono ?_; clear hX; rintro e t2 ⟨rfl, hB2⟩; have hk2 : Below V.heap.size V t2 := bel_stepB hk1 hB2)))
  have b9 := hid (b7.out.trans (hk2.mono b7.out.size))
  have c9 := hid (c7.out.trans (hk2.mono c7.out.size))
  have QA9 := hid (QA7.out.below hk2 QA7.out.lt)
  have QX9 := hid (QX7.out.below hk2 QX7.out.lt)
  have X9 := hid (X7.out.below hk2 X7.out.lt)
  have G9 := hid (G7.out.keep hk2)
  have g9 := hid (Nat.le_trans g7.out hk2.size)
  clear hb0 hk1 hk2 hB1 hB2 hS1 y0 y1 y2 y3 y4 y5 y6 y7 y8 y9 y10 y11 p0 p1 p2 p3 p4 p5 p6 p7 p8 p9 p10 p11 lp ly SOF
  have y0 := QX9.out.cell 0; have y1 := QX9.out.cell 1; have y2 := QX9.out.cell 2; have y3 := QX9.out.cell 3; have y4 := QX9.out.cell 4; have y5 := QX9.out.cell 5; have y6 := QX9.out.cell 6; have y7 := QX9.out.cell 7; have y8 := QX9.out.cell 8; have y9 := QX9.out.cell 9; have y10 := QX9.out.cell 10; have y11 := QX9.out.cell 11
  simp only [List.getElem?_cons_zero, List.getElem?_cons_succ] at y0 y1 y2 y3 y4 y5 y6 y7 y8 y9 y10 y11
  go_wp2_with fail
  refine (markDevice_any X len len _ d0 d1 d2 d3 d4 d5 d6 d7 pr st tk (by rw [List.length_map]; exact hn.out.symm) hle _ X9.out).mono ?_
  rintro e w10 ⟨rfl, h10⟩
  have al10 : Below t2.heap.size t2 (t2.alloc (.cells #[.slice (some ⟨X, 0, none⟩) len len, .int .u8 d0, .int .u8 d1, .int .u8 d2, .int .u8 d3, .int .u8 d4, .int .u8 d5, .int .u8 d6, .int .u8 d7, .int .i64 pr, .bool st, .int .i64 tk] 31)) := boxD_bel t2 _ _
  have hXw : w.heap.size ≤ X := Nat.le_trans b3.out.size hXL.out
  have b10 := hid ((b9.out.trans (al10.mono b9.out.size)).trans (h10.2.2.mono hXw))
  have c10 := hid ((c9.out.trans (al10.mono c9.out.size)).trans (h10.2.2.mono hXL.out))
  have QA10 := hid (h10.row (QA9.out.below al10 QA9.out.lt) (by have := qlt.out; have := hXL.out; omega))
  have hXb : X < w5.heap.size := by have := s5.out; have := hXlt.out; omega
  have G10 := hid ((G9.out.keep al10).only h10 hXb)
  have g10 := hid (show w5.heap.size ≤ w10.heap.size by rw [h10.1]; exact Nat.le_trans g9.out al10.size)
  clear y0 y1 y2 y3 y4 y5 y6 y7 y8 y9 y10 y11 h10 al10
  go_wp2_with fail
  refine (eqA_own _ _ v6 v3 E _ G10.out (O3.out.later c10.out)).mono ?_
  rintro e w11 ⟨rfl, e11⟩
  have b11 := hid (b10.out.trans (e11.mono b10.out.size))
  have c11 := hid (c10.out.trans (e11.mono c10.out.size))
  have QA11 := hid (QA10.out.below e11 QA10.out.lt)
  have G11 := hid (G10.out.keep e11)
  have g11 := hid (Nat.le_trans g10.out e11.size)
  clear e11
  go_wp2_with fail
  refine (markA_own w5.heap.size v6 E _ G11.out).mono ?_
  rintro e w12 ⟨rfl, hM12, hB12, hs12⟩
  have b12 := hid (b11.out.trans (hB12.mono b5.out.size))
  have c12 := hid (c11.out.trans (hB12.mono c5.out.size))
  have QA12 := hid (QA11.out.below hB12 (by have := QA5.out.lt; exact this))
  have M12 := hid hM12
  clear hM12 hB12 hs12
  go_wp2_with fail
  refine (heldA_own w5.heap.size v6 E.length _ M12.out).mono ?_
  rintro e w13' ⟨rfl, d13, rfl⟩
  obtain ⟨w13, hw13⟩ : ∃ z, z = w12.drewN d13 := ⟨_, rfl⟩
  have e13 : Below w12.heap.size w12 w13 := by rw [hw13]; exact below_drewN (Below.refl _ _) _
  rw [← hw13]
  clear hw13
  have b13 := hid (b12.out.trans (e13.mono b12.out.size))
  have c13 := hid (c12.out.trans (e13.mono c12.out.size))
  have QA13 := hid (QA12.out.below e13 QA12.out.lt)
  have M13 := hid (M12.out.keep e13)
  clear e13
  have p0 := QA13.out.cell 0; have p1 := QA13.out.cell 1; have p2 := QA13.out.cell 2; have p3 := QA13.out.cell 3; have p4 := QA13.out.cell 4; have p5 := QA13.out.cell 5; have p6 := QA13.out.cell 6; have p7 := QA13.out.cell 7; have p8 := QA13.out.cell 8; have p9 := QA13.out.cell 9; have p10 := QA13.out.cell 10; have p11 := QA13.out.cell 11
  simp only [List.getElem?_cons_zero, List.getElem?_cons_succ] at p0 p1 p2 p3 p4 p5 p6 p7 p8 p9 p10 p11
  go_wp2_with fail
  refine (toDevice_any a len cap zs d0 d1 d2 d3 d4 d5 d6 d7 pr st tk _ (hI.out.below b13.out (Nat.le_refl _)) hle).mono ?_
  rintro e w14 ⟨Y, rfl, hB14, hS14, _⟩
  have b14 := hid (b13.out.trans (hB14.mono b13.out.size))
  have c14 := hid (c13.out.trans (hB14.mono c13.out.size))
  have M14 := hid (M13.out.keep hB14)
  clear hB14 p0 p1 p2 p3 p4 p5 p6 p7 p8 p9 p10 p11
  go_wp2_with fail
  refine (HM.out Y w14 hS14).mono ?_
  rintro e w15 ⟨v15, rfl, hO15, hB15⟩
  have b15 := hid (b14.out.trans (hB15.mono b14.out.size))
  have c15 := hid (c14.out.trans (hB15.mono c14.out.size))
  have M15 := hid (M14.out.keep hB15)
  have H15 := hid hO15
  clear hB15 hO15 hS14
  go_wp2_with fail
  refine (eqA_own _ _ v15 v3 E _ H15.out (O3.out.later c15.out)).mono ?_
  rintro e w16 ⟨rfl, e16⟩
  have b16 := hid (b15.out.trans (e16.mono b15.out.size))
  have M16 := hid (M15.out.keep e16)
  clear e16
  go_wp2_with fail
  refine (heldA_own w5.heap.size v6 E.length _ M16.out).mono ?_
  rintro e w17' ⟨rfl, d17, rfl⟩
  go_wp2_with fail
  go_ret
  exact ⟨rfl, below_drewN b16.out _⟩
end Go.Proofs.Ytangjgfjojfcaaa
