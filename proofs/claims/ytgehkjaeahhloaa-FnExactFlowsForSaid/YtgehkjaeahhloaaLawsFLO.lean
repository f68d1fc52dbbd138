/- The walks of laws over one meter: FlowsFor. -/
import Derived.Test.YtgehkjaeahhloaaMetH
namespace Go.Proofs.Ytgehkjaeahhloaa
open Go.RowKit
set_option linter.unusedVariables false
set_option maxRecDepth 100000 in
set_option maxHeartbeats 4000000 in
theorem law_FnExactFlowsFor (a : Option Addr) (len cap : Nat) (zs : List Int) (x y s : Int) (x1 x2 : Int) (w : World) (hl : len ≤ 9223372036854775807) (h : InB w a len zs) (hth : Th x y s) (hx1 : (Lit.int .i64 x1).wf = true) (hx2 : (Lit.int .i64 x2).wf = true) :
    Calls Try.prog 6 #[.agg #[.slice a len cap, .int .i64 x, .int .i64 y, .int .i64 s], .int .i64 x1, .int .i64 x2] w fun e w' => e = .returned (.bool true) ∧ Below w.heap.size w w' := by
  have bel0 : Below w.heap.size w (w.alloc (.cells #[.slice a len cap, .int .i64 x, .int .i64 y, .int .i64 s] 24)) := (Below.refl _ w).alloc (Nat.le_refl _) _
  have bel : Below w.heap.size w ((w.alloc (.cells #[.slice a len cap, .int .i64 x, .int .i64 y, .int .i64 s] 24)).alloc (.cells #[.slice a len cap, .int .i64 x, .int .i64 y, .int .i64 s] 24)) := bel0.alloc (by simp) _
  have rA := hid ((Row.new w 24 [.slice a len cap, .int .i64 x, .int .i64 y, .int .i64 s]).alloc (.cells #[.slice a len cap, .int .i64 x, .int .i64 y, .int .i64 s] 24))
  by_cases hs : 1048576 < len
  · have HZ := hid (fun w => szMeter_no a len cap x y s w hs hl)
    clear h hs hl hth hx1 hx2
    go_enter Try.func6, Try.ntmps6
    go_wp2_with fail
    refine (HZ.out _).mono ?_
    rintro e w' ⟨rfl, rfl⟩
    go_wp2_with fail
    go_ret
    exact ⟨rfl, bel⟩
  have hle : len ≤ 1048576 := by omega
  have HZ := hid (fun w => szMeter_ok a len cap x y s w (by omega))
  have hz : (0 : Int) ≤ 1048576 - (len : Int) := by omega
  have hI := hid h
  have hn : Hid (len = zs.length) := hid h.1.symm
  have HS := hid (fun (B : Nat) (w1 : World) (k : Stk w1 B zs) => specFlowsFor_any B len len zs x y s x1 x2 (wf64 hx2) w1 k hn.out)
  have HM := hid (fun (B : Nat) (w1 : World) (k : Stk w1 B zs) => implFlowsFor_any B len len zs x y s x1 x2 (wf64 hx2) w1 k hn.out)
  obtain ⟨o0, e0⟩ : ∃ o, (flwA zs x y s x1 x2).1 = o := ⟨_, rfl⟩
  obtain ⟨o1, e1⟩ : ∃ o, (flwA zs x y s x1 x2).2.1 = o := ⟨_, rfl⟩
  obtain ⟨o2, e2⟩ : ∃ o, (flwA zs x y s x1 x2).2.2 = o := ⟨_, rfl⟩
  rw [e0, e1, e2] at HS HM
  clear h hs hl hth hx1 hx2 e0 e1 e2
  have hb0 : (o0 != o0) = false := by simp
  have hb1 : (o1 != o1) = false := by simp
  have hb2 : (o2 != o2) = false := by simp
  go_enter Try.func6, Try.ntmps6
  go_wp2_with fail
  refine (HZ.out _).mono ?_
  rintro e w' ⟨rfl, rfl⟩
  go_wp2_with fail
  refine (toMeter_any a len cap zs x y s _ (hI.out.below bel (Nat.le_refl _)) hle).mono ?_
  rintro e w1 ⟨B, rfl, hB1, hS1, hBl⟩
  have hz1 := hB1.size
  simp only [World.size_alloc] at hB1 hz1 hBl
  go_wp2_with fail
  refine (HS.out B w1 hS1).mono ?_
  rintro e w2 ⟨rfl, hB2⟩
  have hz2 := hB2.size
  clear hS1
  have b2 : Below w.heap.size w w2 := bel.trans ((hB1.mono (by omega)).trans (hB2.mono (by omega)))
  have qa := ((rA.out.below hB1 (by omega)).below hB2 (by omega))
  have p0 := qa.cell 0; have p1 := qa.cell 1; have p2 := qa.cell 2; have p3 := qa.cell 3
  simp only [List.getElem?_cons_zero, List.getElem?_cons_succ] at p0 p1 p2 p3
  go_wp2_with fail
  refine (toMeter_any a len cap zs x y s _ (hI.out.below b2 (Nat.le_refl _)) hle).mono ?_
  rintro e w3 ⟨X, rfl, hB3, hS3, hXl⟩
  have hz3 := hB3.size
  clear p0 p1 p2 p3
  have bA : Below w3.heap.size w3 (w3.alloc (.cells #[.slice (some ⟨X, 0, none⟩) len len, .int .i64 x, .int .i64 y, .int .i64 s] 29)) := (Below.refl _ _).alloc (Nat.le_refl _) _
  have hS4 := hid (hS3.below bA hS3.1)
  have hXb := hS3.1
  have rX := hid (Row.new w3 29 [.slice (some ⟨X, 0, none⟩) len len, .int .i64 x, .int .i64 y, .int .i64 s])
  have qa3 := hid ((qa.below hB3 (by omega)).below bA (by omega))
  clear hS3 qa
  go_wp2_with fail
  refine (HM.out X _ hS4.out).mono ?_
  rintro e w4 ⟨rfl, hB4⟩
  have hz4 := hB4.size
  simp only [World.size_alloc] at hB4 hz4
  have b4 : Below w.heap.size w w4 := b2.trans ((hB3.mono (by omega)).trans ((bA.mono (by omega)).trans (hB4.mono (by omega))))
  have hS5 := hid (hS4.out.below hB4 (by omega))
  have qx := rX.out.below hB4 (by omega)
  have qa := qa3.out.below hB4 (by omega)
  have x0 := qx.cell 0; have x1c := qx.cell 1; have x2c := qx.cell 2; have x3c := qx.cell 3; have p0 := qa.cell 0; have p1 := qa.cell 1; have p2 := qa.cell 2; have p3 := qa.cell 3
  simp only [List.getElem?_cons_zero, List.getElem?_cons_succ] at x0 x1c x2c x3c p0 p1 p2 p3
  clear qx qa
  have hq0 := And.intro x0 (And.intro x1c (And.intro x2c (And.intro x3c (And.intro p0 (And.intro p1 (And.intro p2 p3))))))
  go_wp2_with fail
  go_region_held3 (fun w' => w'.cell? ⟨w3.heap.size, 0, none⟩ = some (.slice (some ⟨X, 0, none⟩) len len) ∧ w'.cell? ⟨w3.heap.size, 1, none⟩ = some (.int .i64 x) ∧ w'.cell? ⟨w3.heap.size, 2, none⟩ = some (.int .i64 y) ∧ w'.cell? ⟨w3.heap.size, 3, none⟩ = some (.int .i64 s) ∧ w'.cell? ⟨w.heap.size, 0, none⟩ = some (.slice a len cap) ∧ w'.cell? ⟨w.heap.size, 1, none⟩ = some (.int .i64 x) ∧ w'.cell? ⟨w.heap.size, 2, none⟩ = some (.int .i64 y) ∧ w'.cell? ⟨w.heap.size, 3, none⟩ = some (.int .i64 s)) (first | with_reducible exact hq2 | with_reducible exact hq | exact hq0)
    ((first | (go_at_call 17; have hX := eqMeter_same X U len len len zs x y s w5 hS7 hS6 hn.out; refine hX.mono ?_; clear hX; rintro e w6 ⟨rfl, hB6⟩; have hz6 := hB6.size; have hq2 := And.intro ((hB6.cell (p := ⟨w3.heap.size, 0, none⟩) (by show w3.heap.size < _; omega)).trans hq.1) (And.intro ((hB6.cell (p := ⟨w3.heap.size, 1, none⟩) (by show w3.heap.size < _; omega)).trans hq.2.1) (And.intro ((hB6.cell (p := ⟨w3.heap.size, 2, none⟩) (by show w3.heap.size < _; omega)).trans hq.2.2.1) (And.intro ((hB6.cell (p := ⟨w3.heap.size, 3, none⟩) (by show w3.heap.size < _; omega)).trans hq.2.2.2.1) (And.intro ((hB6.cell (p := ⟨w.heap.size, 0, none⟩) (by show w.heap.size < _; omega)).trans hq.2.2.2.2.1) (And.intro ((hB6.cell (p := ⟨w.heap.size, 1, none⟩) (by show w.heap.size < _; omega)).trans hq.2.2.2.2.2.1) (And.intro ((hB6.cell (p := ⟨w.heap.size, 2, none⟩) (by show w.heap.size < _; omega)).trans hq.2.2.2.2.2.2.1) (((hB6.cell (p := ⟨w.heap.size, 3, none⟩) (by show w.heap.size < _; omega)).trans hq.2.2.2.2.2.2.2))))))))) | (go_at_call 15; have hX := toMeter_any a len cap zs x y s w4.drew (hI.out.below b4.drew (Nat.le_refl _)) hle; refine hX.mono ?_; clear hX; rintro e w5 ⟨U, rfl, hB5, hS6, hUl⟩; simp only [World.size_drew] at hB5 hUl; have hz5 := hB5.size; simp only [World.size_drew] at hz5; have hBd := (Below.refl w4.heap.size w4).drew.trans hB5; have hS7 := hS5.out.below hBd (by omega); have hq := And.intro ((hB5.cell (p := ⟨w3.heap.size, 0, none⟩) (by show w3.heap.size < _; omega)).trans x0) (And.intro ((hB5.cell (p := ⟨w3.heap.size, 1, none⟩) (by show w3.heap.size < _; omega)).trans x1c) (And.intro ((hB5.cell (p := ⟨w3.heap.size, 2, none⟩) (by show w3.heap.size < _; omega)).trans x2c) (And.intro ((hB5.cell (p := ⟨w3.heap.size, 3, none⟩) (by show w3.heap.size < _; omega)).trans x3c) (And.intro ((hB5.cell (p := ⟨w.heap.size, 0, none⟩) (by show w.heap.size < _; omega)).trans p0) (And.intro ((hB5.cell (p := ⟨w.heap.size, 1, none⟩) (by show w.heap.size < _; omega)).trans p1) (And.intro ((hB5.cell (p := ⟨w.heap.size, 2, none⟩) (by show w.heap.size < _; omega)).trans p2) (((hB5.cell (p := ⟨w.heap.size, 3, none⟩) (by show w.heap.size < _; omega)).trans p3)))))))))))
  go_wp2_with fail
  go_ret
  exact ⟨rfl, b4.trans (((Below.refl w4.heap.size w4).drew.mono (by omega)).trans ((hB5.mono (by omega)).trans (hB6.mono (by omega))))⟩
end Go.Proofs.Ytgehkjaeahhloaa
