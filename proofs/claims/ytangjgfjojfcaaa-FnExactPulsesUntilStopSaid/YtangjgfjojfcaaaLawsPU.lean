/- The walks of laws over one device: PulsesUntilStop. -/
import Derived.Test.YtangjgfjojfcaaaUntil
namespace Go.Proofs.Ytangjgfjojfcaaa
open Go.RowKit
set_option linter.unusedVariables false
set_option maxRecDepth 100000 in
set_option maxHeartbeats 8000000 in
theorem law_FnExactPulsesUntilStop (a : Option Addr) (len cap : Nat) (zs : List Int) (d0 d1 d2 d3 d4 d5 d6 d7 : Int) (pr : Int) (st : Bool) (tk : Int) (w : World) (hl : len ≤ 9223372036854775807) (h : InB w a len zs) (ho : Oct d0 d1 d2 d3 d4 d5 d6 d7) (hp : I64 pr) (ht : I64 tk) :
    Calls Try.prog 9 #[.agg #[.slice a len cap, .int .u8 d0, .int .u8 d1, .int .u8 d2, .int .u8 d3, .int .u8 d4, .int .u8 d5, .int .u8 d6, .int .u8 d7, .int .i64 pr, .bool st, .int .i64 tk]] w fun e w' => e = .returned (.bool true) ∧ Below w.heap.size w w' := by
  have bel0 : Below w.heap.size w (w.alloc (.cells #[.slice a len cap, .int .u8 d0, .int .u8 d1, .int .u8 d2, .int .u8 d3, .int .u8 d4, .int .u8 d5, .int .u8 d6, .int .u8 d7, .int .i64 pr, .bool st, .int .i64 tk] 25)) := (Below.refl _ w).alloc (Nat.le_refl _) _
  have bel : Below w.heap.size w ((w.alloc (.cells #[.slice a len cap, .int .u8 d0, .int .u8 d1, .int .u8 d2, .int .u8 d3, .int .u8 d4, .int .u8 d5, .int .u8 d6, .int .u8 d7, .int .i64 pr, .bool st, .int .i64 tk] 25)).alloc (.cells #[.slice a len cap, .int .u8 d0, .int .u8 d1, .int .u8 d2, .int .u8 d3, .int .u8 d4, .int .u8 d5, .int .u8 d6, .int .u8 d7, .int .i64 pr, .bool st, .int .i64 tk] 25)) := bel0.alloc (by simp) _
  have rA := hid ((Row.new w 25 [.slice a len cap, .int .u8 d0, .int .u8 d1, .int .u8 d2, .int .u8 d3, .int .u8 d4, .int .u8 d5, .int .u8 d6, .int .u8 d7, .int .i64 pr, .bool st, .int .i64 tk]).alloc (.cells #[.slice a len cap, .int .u8 d0, .int .u8 d1, .int .u8 d2, .int .u8 d3, .int .u8 d4, .int .u8 d5, .int .u8 d6, .int .u8 d7, .int .i64 pr, .bool st, .int .i64 tk] 25))
  by_cases hs : 1048576 < len
  · have HZ := hid (fun w => szDevice_no a len cap d0 d1 d2 d3 d4 d5 d6 d7 pr st tk w hs hl)
    clear h hs hl ho hp ht 
    go_enter Try.func9, Try.ntmps9
    go_wp2_with fail
    refine (HZ.out _).mono ?_
    rintro e w' ⟨rfl, rfl⟩
    go_wp2_with fail
    go_ret
    exact ⟨rfl, bel⟩
  have hle : len ≤ 1048576 := by omega
  have HZ := hid (fun w => szDevice_ok a len cap d0 d1 d2 d3 d4 d5 d6 d7 pr st tk w (by omega))
  have hz : (0 : Int) ≤ 1048576 - (len : Int) := by omega
  have hI := hid h
  have hn : Hid (len = zs.length) := hid h.1.symm
  have HS := hid (fun (B : Nat) (w1 : World) (k : Stk w1 B zs) => specPulsesUntilStop_any B len len zs d0 d1 d2 d3 d4 d5 d6 d7 pr st tk w1 k hn.out ho)
  have HM := hid (fun (B : Nat) (w1 : World) (k : Stk w1 B zs) => implPulsesUntilStop_any B len len zs d0 d1 d2 d3 d4 d5 d6 d7 pr st tk w1 k hn.out ho)
  obtain ⟨o0, e0⟩ : ∃ o, (puR zs [d0, d1, d2, d3, d4, d5, d6, d7] pr st tk).1 = o := ⟨_, rfl⟩
  obtain ⟨o1, e1⟩ : ∃ o, (puR zs [d0, d1, d2, d3, d4, d5, d6, d7] pr st tk).2 = o := ⟨_, rfl⟩
  rw [e0, e1] at HS HM
  clear h hs hl ho hp ht  e0 e1
  have hb0 : (o0 != o0) = false := by simp
  have hb1 : (o1 != o1) = false := by simp
  go_enter Try.func9, Try.ntmps9
  go_wp2_with fail
  refine (HZ.out _).mono ?_
  rintro e w' ⟨rfl, rfl⟩
  go_wp2_with fail
  refine (toDevice_any a len cap zs d0 d1 d2 d3 d4 d5 d6 d7 pr st tk _ (hI.out.below bel (Nat.le_refl _)) hle).mono ?_
  rintro e w1 ⟨B, rfl, hB1, hS1, hBl⟩
  have hz1 := hB1.size
  simp only [World.size_alloc] at hB1 hz1 hBl
  go_wp2_with fail
  refine (HS.out B w1 hS1).mono ?_
  rintro e w2 ⟨rfl, hB2⟩
  have hz2 := hB2.size
  clear hS1
  have b2 : Below w.heap.size w w2 := bel.trans ((hB1.mono (by omega)).trans (hB2.mono (by omega)))
  have qa := ((rA.out.below hB1 (by omega)).below hB2 (by omega))
  have p0 := qa.cell 0; have p1 := qa.cell 1; have p2 := qa.cell 2; have p3 := qa.cell 3; have p4 := qa.cell 4; have p5 := qa.cell 5; have p6 := qa.cell 6; have p7 := qa.cell 7; have p8 := qa.cell 8; have p9 := qa.cell 9; have p10 := qa.cell 10; have p11 := qa.cell 11
  simp only [List.getElem?_cons_zero, List.getElem?_cons_succ] at p0 p1 p2 p3 p4 p5 p6 p7 p8 p9 p10 p11
  go_wp2_with fail
  refine (toDevice_any a len cap zs d0 d1 d2 d3 d4 d5 d6 d7 pr st tk _ (hI.out.below b2 (Nat.le_refl _)) hle).mono ?_
  rintro e w3 ⟨X, rfl, hB3, hS3, hXl⟩
  have hz3 := hB3.size
  clear p0 p1 p2 p3 p4 p5 p6 p7 p8 p9 p10 p11
  have bA : Below w3.heap.size w3 (w3.alloc (.cells #[.slice (some ⟨X, 0, none⟩) len len, .int .u8 d0, .int .u8 d1, .int .u8 d2, .int .u8 d3, .int .u8 d4, .int .u8 d5, .int .u8 d6, .int .u8 d7, .int .i64 pr, .bool st, .int .i64 tk] 31)) := (Below.refl _ _).alloc (Nat.le_refl _) _
  have hS4 := hid (hS3.below bA hS3.1)
  have hXb := hS3.1
  have rX := hid (Row.new w3 31 [.slice (some ⟨X, 0, none⟩) len len, .int .u8 d0, .int .u8 d1, .int .u8 d2, .int .u8 d3, .int .u8 d4, .int .u8 d5, .int .u8 d6, .int .u8 d7, .int .i64 pr, .bool st, .int .i64 tk])
  have qa3 := hid ((qa.below hB3 (by omega)).below bA (by omega))
  clear hS3 qa
  go_wp2_with fail
  refine (HM.out X _ hS4.out).mono ?_
  rintro e w4 ⟨rfl, hB4⟩
  have hz4 := hB4.size
  simp only [World.size_alloc] at hB4 hz4
  have b4 : Below w.heap.size w w4 := b2.trans ((hB3.mono (by omega)).trans ((bA.mono (by omega)).trans (hB4.mono (by omega))))
  have hS5 := hid (hS4.out.below hB4 (by omega))
  have qx := rX.out.below hB4 (by omega)
  have qa := qa3.out.below hB4 (by omega)
  have y0 := qx.cell 0; have y1 := qx.cell 1; have y2 := qx.cell 2; have y3 := qx.cell 3; have y4 := qx.cell 4; have y5 := qx.cell 5; have y6 := qx.cell 6; have y7 := qx.cell 7; have y8 := qx.cell 8; have y9 := qx.cell 9; have y10 := qx.cell 10; have y11 := qx.cell 11; have p0 := qa.cell 0; have p1 := qa.cell 1; have p2 := qa.cell 2; have p3 := qa.cell 3; have p4 := qa.cell 4; have p5 := qa.cell 5; have p6 := qa.cell 6; have p7 := qa.cell 7; have p8 := qa.cell 8; have p9 := qa.cell 9; have p10 := qa.cell 10; have p11 := qa.cell 11
  simp only [List.getElem?_cons_zero, List.getElem?_cons_succ] at y0 y1 y2 y3 y4 y5 y6 y7 y8 y9 y10 y11 p0 p1 p2 p3 p4 p5 p6 p7 p8 p9 p10 p11
  clear qx qa
  have hq0 := And.intro y0 (And.intro y1 (And.intro y2 (And.intro y3 (And.intro y4 (And.intro y5 (And.intro y6 (And.intro y7 (And.intro y8 (And.intro y9 (And.intro y10 (And.intro y11 (And.intro p0 (And.intro p1 (And.intro p2 (And.intro p3 (And.intro p4 (And.intro p5 (And.intro p6 (And.intro p7 (And.intro p8 (And.intro p9 (And.intro p10 (p11)))))))))))))))))))))))
  go_wp2_with fail
  go_region_held3 (fun w' => w'.cell? ⟨w3.heap.size, 0, none⟩ = some (.slice (some ⟨X, 0, none⟩) len len) ∧ w'.cell? ⟨w3.heap.size, 1, none⟩ = some (.int .u8 d0) ∧ w'.cell? ⟨w3.heap.size, 2, none⟩ = some (.int .u8 d1) ∧ w'.cell? ⟨w3.heap.size, 3, none⟩ = some (.int .u8 d2) ∧ w'.cell? ⟨w3.heap.size, 4, none⟩ = some (.int .u8 d3) ∧ w'.cell? ⟨w3.heap.size, 5, none⟩ = some (.int .u8 d4) ∧ w'.cell? ⟨w3.heap.size, 6, none⟩ = some (.int .u8 d5) ∧ w'.cell? ⟨w3.heap.size, 7, none⟩ = some (.int .u8 d6) ∧ w'.cell? ⟨w3.heap.size, 8, none⟩ = some (.int .u8 d7) ∧ w'.cell? ⟨w3.heap.size, 9, none⟩ = some (.int .i64 pr) ∧ w'.cell? ⟨w3.heap.size, 10, none⟩ = some (.bool st) ∧ w'.cell? ⟨w3.heap.size, 11, none⟩ = some (.int .i64 tk) ∧ w'.cell? ⟨w.heap.size, 0, none⟩ = some (.slice a len cap) ∧ w'.cell? ⟨w.heap.size, 1, none⟩ = some (.int .u8 d0) ∧ w'.cell? ⟨w.heap.size, 2, none⟩ = some (.int .u8 d1) ∧ w'.cell? ⟨w.heap.size, 3, none⟩ = some (.int .u8 d2) ∧ w'.cell? ⟨w.heap.size, 4, none⟩ = some (.int .u8 d3) ∧ w'.cell? ⟨w.heap.size, 5, none⟩ = some (.int .u8 d4) ∧ w'.cell? ⟨w.heap.size, 6, none⟩ = some (.int .u8 d5) ∧ w'.cell? ⟨w.heap.size, 7, none⟩ = some (.int .u8 d6) ∧ w'.cell? ⟨w.heap.size, 8, none⟩ = some (.int .u8 d7) ∧ w'.cell? ⟨w.heap.size, 9, none⟩ = some (.int .i64 pr) ∧ w'.cell? ⟨w.heap.size, 10, none⟩ = some (.bool st) ∧ w'.cell? ⟨w.heap.size, 11, none⟩ = some (.int .i64 tk)) (first | with_reducible exact hq2 | with_reducible exact hq | exact hq0)
    ((first | (go_at_call 15; have hX := eqDevice_same X U len len len zs d0 d1 d2 d3 d4 d5 d6 d7 pr st tk w5 hS7 hS6 hn.out; refine hX.mono ?_; clear hX; rintro e w6 ⟨rfl, hB6⟩; have hz6 := hB6.size; have hq2 := And.intro ((hB6.cell (p := ⟨w3.heap.size, 0, none⟩) (by show w3.heap.size < _; omega)).trans hq.1) (And.intro ((hB6.cell (p := ⟨w3.heap.size, 1, none⟩) (by show w3.heap.size < _; omega)).trans hq.2.1) (And.intro ((hB6.cell (p := ⟨w3.heap.size, 2, none⟩) (by show w3.heap.size < _; omega)).trans hq.2.2.1) (And.intro ((hB6.cell (p := ⟨w3.heap.size, 3, none⟩) (by show w3.heap.size < _; omega)).trans hq.2.2.2.1) (And.intro ((hB6.cell (p := ⟨w3.heap.size, 4, none⟩) (by show w3.heap.size < _; omega)).trans hq.2.2.2.2.1) (And.intro ((hB6.cell (p := ⟨w3.heap.size, 5, none⟩) (by show w3.heap.size < _; omega)).trans hq.2.2.2.2.2.1) (And.intro ((hB6.cell (p := ⟨w3.heap.size, 6, none⟩) (by show w3.heap.size < _; omega)).trans hq.2.2.2.2.2.2.1) (And.intro ((hB6.cell (p := ⟨w3.heap.size, 7, none⟩) (by show w3.heap.size < _; omega)).trans hq.2.2.2.2.2.2.2.1) (And.intro ((hB6.cell (p := ⟨w3.heap.size, 8, none⟩) (by show w3.heap.size < _; omega)).trans hq.2.2.2.2.2.2.2.2.1) (And.intro ((hB6.cell (p := ⟨w3.heap.size, 9, none⟩) (by show w3.heap.size < _; omega)).trans hq.2.2.2.2.2.2.2.2.2.1) (And.intro ((hB6.cell (p := ⟨w3.heap.size, 10, none⟩) (by show w3.heap.size < _; omega)).trans hq.2.2.2.2.2.2.2.2.2.2.1) (And.intro ((hB6.cell (p := ⟨w3.heap.size, 11, none⟩) (by show w3.heap.size < _; omega)).trans hq.2.2.2.2.2.2.2.2.2.2.2.1) (And.intro ((hB6.cell (p := ⟨w.heap.size, 0, none⟩) (by show w.heap.size < _; omega)).trans hq.2.2.2.2.2.2.2.2.2.2.2.2.1) (And.intro ((hB6.cell (p := ⟨w.heap.size, 1, none⟩) (by show w.heap.size < _; omega)).trans hq.2.2.2.2.2.2.2.2.2.2.2.2.2.1) (And.intro ((hB6.cell (p := ⟨w.heap.size, 2, none⟩) (by show w.heap.size < _; omega)).trans hq.2.2.2.2.2.2.2.2.2.2.2.2.2.2.1) (And.intro ((hB6.cell (p := ⟨w.heap.size, 3, none⟩) (by show w.heap.size < _; omega)).trans hq.2.2.2.2.2.2.2.2.2.2.2.2.2.2.2.1) (And.intro ((hB6.cell (p := ⟨w.heap.size, 4, none⟩) (by show w.heap.size < _; omega)).trans hq.2.2.2.2.2.2.2.2.2.2.2.2.2.2.2.2.1) (And.intro ((hB6.cell (p := ⟨w.heap.size, 5, none⟩) (by show w.heap.size < _; omega)).trans hq.2.2.2.2.2.2.2.2.2.2.2.2.2.2.2.2.2.1) (And.intro ((hB6.cell (p := ⟨w.heap.size, 6, none⟩) (by show w.heap.size < _; omega)).trans hq.2.2.2.2.2.2.2.2.2.2.2.2.2.2.2.2.2.2.1) (And.intro ((hB6.cell (p := ⟨w.heap.size, 7, none⟩) (by show w.heap.size < _; omega)).trans hq.2.2.2.2.2.2.2.2.2.2.2.2.2.2.2.2.2.2.2.1) (And.intro ((hB6.cell (p := ⟨w.heap.size, 8, none⟩) (by show w.heap.size < _; omega)).trans hq.2.2.2.2.2.2.2.2.2.2.2.2.2.2.2.2.2.2.2.2.1) (And.intro ((hB6.cell (p := ⟨w.heap.size, 9, none⟩) (by show w.heap.size < _; omega)).trans hq.2.2.2.2.2.2.2.2.2.2.2.2.2.2.2.2.2.2.2.2.2.1) (And.intro ((hB6.cell (p := ⟨w.heap.size, 10, none⟩) (by show w.heap.size < _; omega)).trans hq.2.2.2.2.2.2.2.2.2.2.2.2.2.2.2.2.2.2.2.2.2.2.1) (((hB6.cell (p := ⟨w.heap.size, 11, none⟩) (by show w.heap.size < _; omega)).trans hq.2.2.2.2.2.2.2.2.2.2.2.2.2.2.2.2.2.2.2.2.2.2.2))))))))))))))))))))))))) | (go_at_call 13; have hX := toDevice_any a len cap zs d0 d1 d2 d3 d4 d5 d6 d7 pr st tk w4.drew (hI.out.below b4.drew (Nat.le_refl _)) hle; refine hX.mono ?_; clear hX; rintro e w5 ⟨U, rfl, hB5, hS6, hUl⟩; simp only [World.size_drew] at hB5 hUl; have hz5 := hB5.size; simp only [World.size_drew] at hz5; have hBd := (Below.refl w4.heap.size w4).drew.trans hB5; have hS7 := hS5.out.below hBd (by omega); have hq := And.intro ((hB5.cell (p := ⟨w3.heap.size, 0, none⟩) (by show w3.heap.size < _; omega)).trans y0) (And.intro ((hB5.cell (p := ⟨w3.heap.size, 1, none⟩) (by show w3.heap.size < _; omega)).trans y1) (And.intro ((hB5.cell (p := ⟨w3.heap.size, 2, none⟩) (by show w3.heap.size < _; omega)).trans y2) (And.intro ((hB5.cell (p := ⟨w3.heap.size, 3, none⟩) (by show w3.heap.size < _; omega)).trans y3) (And.intro ((hB5.cell (p := ⟨w3.heap.size, 4, none⟩) (by show w3.heap.size < _; omega)).trans y4) (And.intro ((hB5.cell (p := ⟨w3.heap.size, 5, none⟩) (by show w3.heap.size < _; omega)).trans y5) (And.intro ((hB5.cell (p := ⟨w3.heap.size, 6, none⟩) (by show w3.heap.size < _; omega)).trans y6) (And.intro ((hB5.cell (p := ⟨w3.heap.size, 7, none⟩) (by show w3.heap.size < _; omega)).trans y7) (And.intro ((hB5.cell (p := ⟨w3.heap.size, 8, none⟩) (by show w3.heap.size < _; omega)).trans y8) (And.intro ((hB5.cell (p := ⟨w3.heap.size, 9, none⟩) (by show w3.heap.size < _; omega)).trans y9) (And.intro ((hB5.cell (p := ⟨w3.heap.size, 10, none⟩) (by show w3.heap.size < _; omega)).trans y10) (And.intro ((hB5.cell (p := ⟨w3.heap.size, 11, none⟩) (by show w3.heap.size < _; omega)).trans y11) (And.intro ((hB5.cell (p := ⟨w.heap.size, 0, none⟩) (by show w.heap.size < _; omega)).trans p0) (And.intro ((hB5.cell (p := ⟨w.heap.size, 1, none⟩) (by show w.heap.size < _; omega)).trans p1) (And.intro ((hB5.cell (p := ⟨w.heap.size, 2, none⟩) (by show w.heap.size < _; omega)).trans p2) (And.intro ((hB5.cell (p := ⟨w.heap.size, 3, none⟩) (by show w.heap.size < _; omega)).trans p3) (And.intro ((hB5.cell (p := ⟨w.heap.size, 4, none⟩) (by show w.heap.size < _; omega)).trans p4) (And.intro ((hB5.cell (p := ⟨w.heap.size, 5, none⟩) (by show w.heap.size < _; omega)).trans p5) (And.intro ((hB5.cell (p := ⟨w.heap.size, 6, none⟩) (by show w.heap.size < _; omega)).trans p6) (And.intro ((hB5.cell (p := ⟨w.heap.size, 7, none⟩) (by show w.heap.size < _; omega)).trans p7) (And.intro ((hB5.cell (p := ⟨w.heap.size, 8, none⟩) (by show w.heap.size < _; omega)).trans p8) (And.intro ((hB5.cell (p := ⟨w.heap.size, 9, none⟩) (by show w.heap.size < _; omega)).trans p9) (And.intro ((hB5.cell (p := ⟨w.heap.size, 10, none⟩) (by show w.heap.size < _; omega)).trans p10) (((hB5.cell (p := ⟨w.heap.size, 11, none⟩) (by show w.heap.size < _; omega)).trans p11)))))))))))))))))))))))))))
  go_wp2_with fail
  go_ret
  exact ⟨rfl, b4.trans (((Below.refl w4.heap.size w4).drew.mono (by omega)).trans ((hB5.mono (by omega)).trans (hB6.mono (by omega))))⟩
end Go.Proofs.Ytangjgfjojfcaaa
