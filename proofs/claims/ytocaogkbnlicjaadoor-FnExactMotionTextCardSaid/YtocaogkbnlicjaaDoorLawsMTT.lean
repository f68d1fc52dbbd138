/- The walk of the law MotionText. -/
import Derived.Test.YtocaogkbnlicjaaDoorMtA
namespace Go.Proofs.YtocaogkbnlicjaaDoor
open Go.RowKit
set_option maxRecDepth 100000 in
set_option maxHeartbeats 4000000 in
theorem law_FnExactMotionText (a : Option Addr) (len cap : Nat) (zs : List Int) (a' : Option Addr) (len' cap' : Nat) (js : List (Int × Int)) (w : World) (hl : len ≤ 9223372036854775807) (hl' : len' ≤ 9223372036854775807) (h : InB w a len zs) (h' : InJ w a' len' js) (ht : Lib.TabIs Tryd.prog w "internal/strconv.uint64pow10" .u64 Lib.pow10Tab) (hg : 4 < w.heap.size) :
    Calls Tryd.prog 3 #[.agg #[.slice a len cap, .slice a' len' cap']] w fun e w' => e = .returned (.bool true) ∧ Below w.heap.size w w' := by
  have bel0 : Below w.heap.size w (w.alloc (.cells #[.slice a len cap, .slice a' len' cap'] 25)) := (Below.refl _ w).alloc (Nat.le_refl _) _
  have bel : Below w.heap.size w ((w.alloc (.cells #[.slice a len cap, .slice a' len' cap'] 25)).alloc (.cells #[.slice a len cap, .slice a' len' cap'] 25)) := bel0.alloc (by simp) _
  have rA := hid ((Row.new w 25 [.slice a len cap, .slice a' len' cap']).alloc (.cells #[.slice a len cap, .slice a' len' cap'] 25))
  by_cases hs : 1048576 < len + len'
  · have HZ := hid (fun w => szMotion_no a len cap a' len' cap' w hs hl hl')
    clear h h' hs hl hl'
    go_enter Tryd.func3, Tryd.ntmps3
    go_wp2_with fail
    refine (HZ.out _).mono ?_
    rintro e w' ⟨rfl, rfl⟩
    go_wp2_with fail
    go_ret
    exact ⟨rfl, bel⟩
  have hle : len ≤ 1048576 := by omega
  have hle' : len' ≤ 1048576 := by omega
  have HZ := hid (fun w => szMotion_ok a len cap a' len' cap' w (by omega))
  have hz : (0 : Int) ≤ 1048576 - (len : Int) - (len' : Int) := by omega
  have hI := hid h
  have hJ := hid h'
  have hn : Hid (len = zs.length) := hid h.1.symm
  have hm : Hid (len' = js.length) := hid h'.1.symm
  have hjb := hid (fun j (hj : j < js.length) => h'.2.1 j (by rw [← h'.1]; exact hj))
  clear h h' hs hl hl'
  have HTB := hid ht
  have HG := hid hg
  clear ht hg
  have HS := hid (fun b g w k k' => specMTT_any b len len g len' len' zs js w k k' hn.out hm.out hjb.out)
  have HMM := hid (fun b g w k k' t gg => implMTT_any b len len g len' len' zs js w k k' hn.out hm.out t gg)
  obtain ⟨T, hT⟩ : ∃ T : ByteArray, ⟨(mtR zs js).toArray⟩ = T := ⟨_, rfl⟩
  rw [hT] at HS HMM
  clear hT
  go_enter Tryd.func3, Tryd.ntmps3
  go_wp2_with fail
  refine (HZ.out _).mono ?_
  rintro e w' ⟨rfl, rfl⟩
  go_wp2_with fail
  refine (toMotion_any a len cap zs a' len' cap' js _ (hI.out.below bel (Nat.le_refl _)) (hJ.out.below bel (Nat.le_refl _)) hle hle').mono ?_
  rintro e w1 ⟨B, G, rfl, hB1, hS1, hJ1, hBl, hGl⟩
  have hz1 := hB1.size
  simp only [World.size_alloc] at hB1 hz1 hBl hGl
  go_wp2_with fail
  refine (HS.out B G w1 hS1 hJ1).mono ?_
  rintro e w2 ⟨rfl, hB2⟩
  have hz2 := hB2.size
  clear hS1 hJ1
  have b2 : Below w.heap.size w w2 := bel.trans ((hB1.mono (by omega)).trans (hB2.mono (by omega)))
  have qa := ((rA.out.below hB1 (by omega)).below hB2 (by omega))
  have p0 := qa.cell 0; have p1 := qa.cell 1
  simp only [List.getElem?_cons_zero, List.getElem?_cons_succ] at p0 p1
  go_wp2_with fail
  refine (toMotion_any a len cap zs a' len' cap' js _ (hI.out.below b2 (Nat.le_refl _)) (hJ.out.below b2 (Nat.le_refl _)) hle hle').mono ?_
  rintro e w3 ⟨X, Y, rfl, hB3, hS3, hJ3, hXl, hYl⟩
  have hz3 := hB3.size
  clear p0 p1
  have bA : Below w3.heap.size w3 (w3.alloc (.cells #[.slice (some ⟨X, 0, none⟩) len len, .slice (some ⟨Y, 0, none⟩) len' len'] 31)) := (Below.refl _ _).alloc (Nat.le_refl _) _
  have hS4 := hid (hS3.below bA hS3.1)
  have hJ4 := hid (hJ3.below bA hJ3.1)
  have hXb := hS3.1
  have hYb := hJ3.1
  have rX := hid (Row.new w3 31 [.slice (some ⟨X, 0, none⟩) len len, .slice (some ⟨Y, 0, none⟩) len' len'])
  have qa3 := hid ((qa.below hB3 (by omega)).below bA (by omega))
  clear hS3 hJ3 qa
  go_wp2_with fail
  refine (HMM.out X Y _ hS4.out hJ4.out (tab_belowO HTB.out (b2.trans ((hB3.mono (by omega)).trans (bA.mono (by omega)))) HG.out) (by have := HG.out; simp; omega)).mono ?_
  rintro e w4 ⟨rfl, hB4⟩
  have hz4 := hB4.size
  simp only [World.size_alloc] at hB4 hz4
  have b4 : Below w.heap.size w w4 := b2.trans ((hB3.mono (by omega)).trans ((bA.mono (by omega)).trans (hB4.mono (by omega))))
  have hS5 := hid (hS4.out.below hB4 (by omega))
  have hJ5 := hid (hJ4.out.below hB4 (by omega))
  have qx := rX.out.below hB4 (by omega)
  have qa := qa3.out.below hB4 (by omega)
  have x0 := qx.cell 0; have x1 := qx.cell 1; have p0 := qa.cell 0; have p1 := qa.cell 1
  simp only [List.getElem?_cons_zero, List.getElem?_cons_succ] at x0 x1 p0 p1
  clear qx qa
  go_wp2_with fail
  go_region_held3 (fun w' => w'.cell? ⟨w3.heap.size, 0, none⟩ = some (.slice (some ⟨X, 0, none⟩) len len) ∧ w'.cell? ⟨w3.heap.size, 1, none⟩ = some (.slice (some ⟨Y, 0, none⟩) len' len') ∧ w'.cell? ⟨w.heap.size, 0, none⟩ = some (.slice a len cap) ∧ w'.cell? ⟨w.heap.size, 1, none⟩ = some (.slice a' len' cap')) (first | exact hq2 | exact hq | exact ⟨x0, x1, p0, p1⟩)
    ((first | (go_at_call 11; have hX := eqMotion_same X U len len len Y V len' len' len' zs js w5 hS7 hS6 hn.out hJ7 hJ6 hm.out; refine hX.mono ?_; clear hX; rintro e w6 ⟨rfl, hB6⟩; have hz6 := hB6.size; have hq2 := And.intro ((hB6.cell (p := ⟨w3.heap.size, 0, none⟩) (by show w3.heap.size < _; omega)).trans hq.1) (And.intro ((hB6.cell (p := ⟨w3.heap.size, 1, none⟩) (by show w3.heap.size < _; omega)).trans hq.2.1) (And.intro ((hB6.cell (p := ⟨w.heap.size, 0, none⟩) (by show w.heap.size < _; omega)).trans hq.2.2.1) ((hB6.cell (p := ⟨w.heap.size, 1, none⟩) (by show w.heap.size < _; omega)).trans hq.2.2.2)))) | (go_at_call 9; have hX := toMotion_any a len cap zs a' len' cap' js w4.drew (hI.out.below b4.drew (Nat.le_refl _)) (hJ.out.below b4.drew (Nat.le_refl _)) hle hle'; refine hX.mono ?_; clear hX; rintro e w5 ⟨U, V, rfl, hB5, hS6, hJ6, hUl, hVl⟩; simp only [World.size_drew] at hB5 hUl hVl; have hz5 := hB5.size; simp only [World.size_drew] at hz5; have hBd := (Below.refl w4.heap.size w4).drew.trans hB5; have hS7 := hS5.out.below hBd (by omega); have hJ7 := hJ5.out.below hBd (by omega); have hq := And.intro ((hB5.cell (p := ⟨w3.heap.size, 0, none⟩) (by show w3.heap.size < _; omega)).trans x0) (And.intro ((hB5.cell (p := ⟨w3.heap.size, 1, none⟩) (by show w3.heap.size < _; omega)).trans x1) (And.intro ((hB5.cell (p := ⟨w.heap.size, 0, none⟩) (by show w.heap.size < _; omega)).trans p0) ((hB5.cell (p := ⟨w.heap.size, 1, none⟩) (by show w.heap.size < _; omega)).trans p1))))))
  go_wp2_with fail
  go_ret
  exact ⟨rfl, b4.trans (((Below.refl w4.heap.size w4).drew.mono (by omega)).trans ((hB5.mono (by omega)).trans (hB6.mono (by omega))))⟩
end Go.Proofs.YtocaogkbnlicjaaDoor
