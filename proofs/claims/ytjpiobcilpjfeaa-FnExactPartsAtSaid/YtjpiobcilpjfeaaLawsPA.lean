/- The walks of laws over one motion: PartsAt. -/
import Derived.Test.YtjpiobcilpjfeaaPaS
import Derived.Test.YtjpiobcilpjfeaaEqP
namespace Go.Proofs.Ytjpiobcilpjfeaa
open Go.RowKit
set_option maxRecDepth 100000 in
set_option maxHeartbeats 4000000 in
theorem law_FnExactPartsAt (a : Option Addr) (len cap : Nat) (zs : List Int) (a' : Option Addr) (len' cap' : Nat) (js : List (Int × Int)) (x1 : Int) (w : World) (hl : len ≤ 9223372036854775807) (hl' : len' ≤ 9223372036854775807) (h : InB w a len zs) (h' : InJ w a' len' js) (hx1 : (Lit.int .i64 x1).wf = true) :
    Calls Try.prog 6 #[.agg #[.slice a len cap, .slice a' len' cap'], .int .i64 x1] w fun e w' => e = .returned (.bool true) ∧ Below w.heap.size w w' := by
  have bel0 : Below w.heap.size w (w.alloc (.cells #[.slice a len cap, .slice a' len' cap'] 25)) := (Below.refl _ w).alloc (Nat.le_refl _) _
  have bel : Below w.heap.size w ((w.alloc (.cells #[.slice a len cap, .slice a' len' cap'] 25)).alloc (.cells #[.slice a len cap, .slice a' len' cap'] 25)) := bel0.alloc (by simp) _
  have rA := hid ((Row.new w 25 [.slice a len cap, .slice a' len' cap']).alloc (.cells #[.slice a len cap, .slice a' len' cap'] 25))
  by_cases hs : 1048576 < len + len'
  · have HZ := hid (fun w => szMotion_no a len cap a' len' cap' w hs hl hl')
    clear h h' hs hl hl'
    go_enter Try.func6, Try.ntmps6
    go_wp2_with fail
    refine (HZ.out _).mono ?_
    rintro e w' ⟨rfl, rfl⟩
    go_wp2_with fail
    go_ret
    exact ⟨rfl, bel⟩
  have hle : len ≤ 1048576 := by omega
  have hle' : len' ≤ 1048576 := by omega
  have HZ := hid (fun w => szMotion_ok a len cap a' len' cap' w (by omega))
  have hz : (0 : Int) ≤ 1048576 - (len : Int) - (len' : Int) := by omega
  have hI := hid h
  have hJ := hid h'
  have hn : Hid (len = zs.length) := hid h.1.symm
  have hm : Hid (len' = js.length) := hid h'.1.symm
  have hjb := hid (fun j (hj : j < js.length) => h'.2.1 j (by rw [← h'.1]; exact hj))
  have HS := hid (fun (B G : Nat) (w1 : World) (hS1 : Stk w1 B zs) (hJ1 : Jst w1 G js) => specPartsAt_any B len len G len' len' zs js x1 w1 hS1 hJ1 hn.out hm.out (Nat.le_refl _) hjb.out)
  have HM := hid (fun (B G : Nat) (w1 : World) (hS1 : Stk w1 B zs) (hJ1 : Jst w1 G js) => implPartsAt_any B len len G len' len' zs js x1 w1 hS1 hJ1 hn.out hm.out)
  obtain ⟨e0, he0⟩ : ∃ x, x = dg ((paR zs js x1).1) 0 := ⟨_, rfl⟩
  obtain ⟨e1, he1⟩ : ∃ x, x = dg ((paR zs js x1).1) 1 := ⟨_, rfl⟩
  obtain ⟨e2, he2⟩ : ∃ x, x = dg ((paR zs js x1).1) 2 := ⟨_, rfl⟩
  obtain ⟨e3, he3⟩ : ∃ x, x = dg ((paR zs js x1).1) 3 := ⟨_, rfl⟩
  obtain ⟨e4, he4⟩ : ∃ x, x = dg ((paR zs js x1).1) 4 := ⟨_, rfl⟩
  obtain ⟨e5, he5⟩ : ∃ x, x = dg ((paR zs js x1).1) 5 := ⟨_, rfl⟩
  obtain ⟨e6, he6⟩ : ∃ x, x = dg ((paR zs js x1).1) 6 := ⟨_, rfl⟩
  obtain ⟨e7, he7⟩ : ∃ x, x = dg ((paR zs js x1).1) 7 := ⟨_, rfl⟩
  obtain ⟨r0, hr0⟩ : ∃ x, x = (paR zs js x1).2 := ⟨_, rfl⟩
  rw [← he0, ← he1, ← he2, ← he3, ← he4, ← he5, ← he6, ← he7, ← hr0] at HS HM
  clear h h' hs hl hl' he0 he1 he2 he3 he4 he5 he6 he7 hr0
  have hb0 : (r0 != r0) = false := by simp
  go_enter Try.func6, Try.ntmps6
  go_wp2_with fail
  refine (HZ.out _).mono ?_
  rintro e w' ⟨rfl, rfl⟩
  go_wp2_with fail
  refine (toMotion_any a len cap zs a' len' cap' js _ (hI.out.below bel (Nat.le_refl _)) (hJ.out.below bel (Nat.le_refl _)) hle hle').mono ?_
  rintro e w1 ⟨B, G, rfl, hB1, hS1, hJ1, hBl, hGl⟩
  have hz1 := hB1.size
  simp only [World.size_alloc] at hB1 hz1 hBl hGl
  go_wp2_with fail
  refine (HS.out B G w1 hS1 hJ1).mono ?_
  rintro e w2 ⟨rfl, hB2⟩
  have hz2 := hB2.size
  clear hS1 hJ1
  have bw : Below w2.heap.size w2 (w2.alloc (.cells #[.int .i64 e0, .int .i64 e1, .int .i64 e2, .int .i64 e3, .int .i64 e4, .int .i64 e5, .int .i64 e6, .int .i64 e7] 39)) := (Below.refl _ _).alloc (Nat.le_refl _) _
  have b2 : Below w.heap.size w (w2.alloc (.cells #[.int .i64 e0, .int .i64 e1, .int .i64 e2, .int .i64 e3, .int .i64 e4, .int .i64 e5, .int .i64 e6, .int .i64 e7] 39)) := bel.trans ((hB1.mono (by omega)).trans ((hB2.mono (by omega)).trans (bw.mono (by omega))))
  have rW := hid (Row.new w2 39 [.int .i64 e0, .int .i64 e1, .int .i64 e2, .int .i64 e3, .int .i64 e4, .int .i64 e5, .int .i64 e6, .int .i64 e7])
  have qa := (((rA.out.below hB1 (by omega)).below hB2 (by omega)).below bw (by omega))
  have p0 := qa.cell 0; have p1 := qa.cell 1
  simp only [List.getElem?_cons_zero, List.getElem?_cons_succ] at p0 p1
  go_wp2_with fail
  refine (toMotion_any a len cap zs a' len' cap' js _ (hI.out.below b2 (Nat.le_refl _)) (hJ.out.below b2 (Nat.le_refl _)) hle hle').mono ?_
  rintro e w3 ⟨X, Y, rfl, hB3, hS3, hJ3, hXl, hYl⟩
  have hz3 := hB3.size
  simp only [World.size_alloc] at hB3 hz3 hXl hYl
  clear p0 p1
  have bA : Below w3.heap.size w3 (w3.alloc (.cells #[.slice (some ⟨X, 0, none⟩) len len, .slice (some ⟨Y, 0, none⟩) len' len'] 31)) := (Below.refl _ _).alloc (Nat.le_refl _) _
  have hS4 := hid (hS3.below bA hS3.1)
  have hJ4 := hid (hJ3.below bA hJ3.1)
  have hXb := hS3.1
  have hYb := hJ3.1
  have rX := hid (Row.new w3 31 [.slice (some ⟨X, 0, none⟩) len len, .slice (some ⟨Y, 0, none⟩) len' len'])
  have rW3 := hid ((rW.out.below hB3 (by omega)).below bA (by omega))
  have qa3 := hid ((qa.below hB3 (by omega)).below bA (by omega))
  clear hS3 hJ3 qa
  go_wp2_with fail
  refine (HM.out X Y _ hS4.out hJ4.out).mono ?_
  rintro e w4 ⟨rfl, hB4⟩
  have hz4 := hB4.size
  simp only [World.size_alloc] at hB4 hz4
  have bG : Below w4.heap.size w4 (w4.alloc (.cells #[.int .i64 e0, .int .i64 e1, .int .i64 e2, .int .i64 e3, .int .i64 e4, .int .i64 e5, .int .i64 e6, .int .i64 e7] 39)) := (Below.refl _ _).alloc (Nat.le_refl _) _
  have b4 : Below w.heap.size w (w4.alloc (.cells #[.int .i64 e0, .int .i64 e1, .int .i64 e2, .int .i64 e3, .int .i64 e4, .int .i64 e5, .int .i64 e6, .int .i64 e7] 39)) := b2.trans ((hB3.mono (by omega)).trans ((bA.mono (by omega)).trans ((hB4.mono (by omega)).trans (bG.mono (by omega)))))
  have hS5 := hid ((hS4.out.below hB4 (by omega)).below bG (by omega))
  have hJ5 := hid ((hJ4.out.below hB4 (by omega)).below bG (by omega))
  have rXx := hid ((rX.out.below hB4 (by omega)).below bG (by omega))
  have qax := hid ((qa3.out.below hB4 (by omega)).below bG (by omega))
  have rG := Row.new w4 39 [.int .i64 e0, .int .i64 e1, .int .i64 e2, .int .i64 e3, .int .i64 e4, .int .i64 e5, .int .i64 e6, .int .i64 e7]
  have rW4 := (rW3.out.below hB4 (by omega)).below bG (by omega)
  have g0 := rG.cell 0; have g1 := rG.cell 1; have g2 := rG.cell 2; have g3 := rG.cell 3; have g4 := rG.cell 4; have g5 := rG.cell 5; have g6 := rG.cell 6; have g7 := rG.cell 7
  simp only [List.getElem?_cons_zero, List.getElem?_cons_succ] at g0 g1 g2 g3 g4 g5 g6 g7
  have f0 := rW4.cell 0; have f1 := rW4.cell 1; have f2 := rW4.cell 2; have f3 := rW4.cell 3; have f4 := rW4.cell 4; have f5 := rW4.cell 5; have f6 := rW4.cell 6; have f7 := rW4.cell 7
  simp only [List.getElem?_cons_zero, List.getElem?_cons_succ] at f0 f1 f2 f3 f4 f5 f6 f7
  clear rG rW4
  go_wp2_with fail
  refine (eqParts_same e0 e1 e2 e3 e4 e5 e6 e7 _).mono ?_
  rintro e w5 ⟨rfl, hB5⟩
  have hz5 := hB5.size
  simp only [World.size_alloc] at hB5 hz5
  clear g0 f0 g1 f1 g2 f2 g3 f3 g4 f4 g5 f5 g6 f6 g7 f7
  have b5 : Below w.heap.size w w5 := b4.trans (hB5.mono (by omega))
  have hS6 := hid (hS5.out.below hB5 (by omega))
  have hJ6 := hid (hJ5.out.below hB5 (by omega))
  have qx := rXx.out.below hB5 (by omega)
  have qa := qax.out.below hB5 (by omega)
  have x0 := qx.cell 0; have x1' := qx.cell 1; have p0 := qa.cell 0; have p1 := qa.cell 1
  simp only [List.getElem?_cons_zero, List.getElem?_cons_succ] at x0 x1' p0 p1
  clear qx qa
  go_wp2_with fail
  go_region_held3 (fun w' => w'.cell? ⟨w3.heap.size, 0, none⟩ = some (.slice (some ⟨X, 0, none⟩) len len) ∧ w'.cell? ⟨w3.heap.size, 1, none⟩ = some (.slice (some ⟨Y, 0, none⟩) len' len') ∧ w'.cell? ⟨w.heap.size, 0, none⟩ = some (.slice a len cap) ∧ w'.cell? ⟨w.heap.size, 1, none⟩ = some (.slice a' len' cap')) (first | with_reducible exact hq2 | with_reducible exact hq | exact ⟨x0, x1', p0, p1⟩)
    ((first | (go_at_call 17; have hX := eqMotion_same X U len len len Y V len' len' len' zs js w6 hS8 hS7 hn.out hJ8 hJ7 hm.out; refine hX.mono ?_; clear hX; rintro e w7 ⟨rfl, hB7⟩; have hz7 := hB7.size; have hq2 := And.intro ((hB7.cell (p := ⟨w3.heap.size, 0, none⟩) (by show w3.heap.size < _; omega)).trans hq.1) (And.intro ((hB7.cell (p := ⟨w3.heap.size, 1, none⟩) (by show w3.heap.size < _; omega)).trans hq.2.1) (And.intro ((hB7.cell (p := ⟨w.heap.size, 0, none⟩) (by show w.heap.size < _; omega)).trans hq.2.2.1) ((hB7.cell (p := ⟨w.heap.size, 1, none⟩) (by show w.heap.size < _; omega)).trans hq.2.2.2)))) | (go_at_call 15; have hX := toMotion_any a len cap zs a' len' cap' js w5.drew (hI.out.below b5.drew (Nat.le_refl _)) (hJ.out.below b5.drew (Nat.le_refl _)) hle hle'; refine hX.mono ?_; clear hX; rintro e w6 ⟨U, V, rfl, hB6, hS7, hJ7, hUl, hVl⟩; simp only [World.size_drew] at hB6 hUl hVl; have hz6 := hB6.size; simp only [World.size_drew] at hz6; have hBd := (Below.refl w5.heap.size w5).drew.trans hB6; have hS8 := hS6.out.below hBd (by omega); have hJ8 := hJ6.out.below hBd (by omega); have hq := And.intro ((hB6.cell (p := ⟨w3.heap.size, 0, none⟩) (by show w3.heap.size < _; omega)).trans x0) (And.intro ((hB6.cell (p := ⟨w3.heap.size, 1, none⟩) (by show w3.heap.size < _; omega)).trans x1') (And.intro ((hB6.cell (p := ⟨w.heap.size, 0, none⟩) (by show w.heap.size < _; omega)).trans p0) ((hB6.cell (p := ⟨w.heap.size, 1, none⟩) (by show w.heap.size < _; omega)).trans p1))))))
  go_wp2_with fail
  go_ret
  exact ⟨rfl, b5.trans (((Below.refl w5.heap.size w5).drew.mono (by omega)).trans ((hB6.mono (by omega)).trans (hB7.mono (by omega))))⟩
end Go.Proofs.Ytjpiobcilpjfeaa
