/- The walk of the law over CompareRatios. -/
import Derived.Test.YtgomeeheleiapaaCompare
namespace Go.Proofs.Ytgomeeheleiapaa
open Go.RowKit
set_option maxHeartbeats 4000000 in
theorem law_FnExactCompareRatios (p q u v : Int) (w : World) (hp : I64 p) (hq : I64 q) (hu : I64 u) (hv : I64 v) :
    Calls Try.prog 5 #[.agg #[.int .i64 p, .int .i64 q], .agg #[.int .i64 u, .int .i64 v]] w fun e w' => e = .returned (.bool true) ∧ Below w.heap.size w w' := by
  have HS := hid (fun w => specCompare_any p q u v hp hq hu hv w)
  have HM := hid (fun w => implCompare_any p q u v hp hq hu hv w)
  obtain ⟨x, hx⟩ : ∃ b, b = (cmpR p q u v).1 := ⟨_, rfl⟩
  obtain ⟨y, hy⟩ : ∃ b, b = (cmpR p q u v).2 := ⟨_, rfl⟩
  rw [← hx, ← hy] at HS HM
  have d1 : (x != x) = false := by simp
  have d2 : (y != y) = false := by simp
  obtain ⟨W, hW⟩ : ∃ W, W = ((w.alloc (.cells #[.int .i64 p, .int .i64 q] 23)).alloc (.cells #[.int .i64 u, .int .i64 v] 23)) := ⟨_, rfl⟩
  obtain ⟨q0, q1, bW, sW⟩ := two_ratios w 23 23 (.int .i64 p) (.int .i64 q) (.int .i64 u) (.int .i64 v) W hW
  have Q0 := hid q0
  have Q1 := hid q1
  have bE := hid bW
  have hW2 := hid hW
  clear q0 q1 bW hx hy hp hq hu hv hW
  have l0 := Q0.out.lt
  have l1 := Q1.out.lt
  have hb0 := Below.refl W.heap.size W
  go_enter Try.func5, Try.ntmps5
  go_wp2_with fail
  rw [← hW2.out]
  have c0 := Q0.out.cell 0
  have c1 := Q0.out.cell 1
  have c2 := Q1.out.cell 0
  have c3 := Q1.out.cell 1
  simp only [List.getElem?_cons_zero, List.getElem?_cons_succ] at c0 c1 c2 c3
  clear sW
  have hqs1 := (And.intro ((hb0.cell (p := ⟨w.heap.size, 0, none⟩) l0).trans c0) (And.intro ((hb0.cell (p := ⟨w.heap.size, 1, none⟩) l0).trans c1) (And.intro ((hb0.cell (p := ⟨w.heap.size + 1, 0, none⟩) l1).trans c2) ((hb0.cell (p := ⟨w.heap.size + 1, 1, none⟩) l1).trans c3))))
  go_region_held3 (fun w' => w'.cell? ⟨w.heap.size, 0, none⟩ = some (.int .i64 p) ∧ w'.cell? ⟨w.heap.size, 1, none⟩ = some (.int .i64 q) ∧ w'.cell? ⟨w.heap.size + 1, 0, none⟩ = some (.int .i64 u) ∧ w'.cell? ⟨w.heap.size + 1, 1, none⟩ = some (.int .i64 v)) (first | with_reducible exact hq3 | with_reducible exact hq2 | with_reducible exact hq1 | exact hqs1)
    ((first | (go_at_call 21; have hX := HS.out v2; refine hX.mono ?_; clear hX; rintro e v3 ⟨rfl, hB3⟩; have hb3 := hb2.trans (hB3.mono hb2.size); have hq3 := (And.intro ((hb3.cell (p := ⟨w.heap.size, 0, none⟩) l0).trans c0) (And.intro ((hb3.cell (p := ⟨w.heap.size, 1, none⟩) l0).trans c1) (And.intro ((hb3.cell (p := ⟨w.heap.size + 1, 0, none⟩) l1).trans c2) ((hb3.cell (p := ⟨w.heap.size + 1, 1, none⟩) l1).trans c3))))) | (go_at_call 16; have hX := toRatio_any u v v1; refine hX.mono ?_; clear hX; rintro e v2 ⟨rfl, hB2⟩; have hb2 := hb1.trans (hB2.mono hb1.size); have hq2 := (And.intro ((hb2.cell (p := ⟨w.heap.size, 0, none⟩) l0).trans c0) (And.intro ((hb2.cell (p := ⟨w.heap.size, 1, none⟩) l0).trans c1) (And.intro ((hb2.cell (p := ⟨w.heap.size + 1, 0, none⟩) l1).trans c2) ((hb2.cell (p := ⟨w.heap.size + 1, 1, none⟩) l1).trans c3))))) | (go_at_call 16; have hX := toRatio_any p q W.drew; refine hX.mono ?_; clear hX; rintro e v1 ⟨rfl, hB1⟩; have hb1 := hb0.drew.trans (hB1.mono hb0.size); have hq1 := (And.intro ((hb1.cell (p := ⟨w.heap.size, 0, none⟩) l0).trans c0) (And.intro ((hb1.cell (p := ⟨w.heap.size, 1, none⟩) l0).trans c1) (And.intro ((hb1.cell (p := ⟨w.heap.size + 1, 0, none⟩) l1).trans c2) ((hb1.cell (p := ⟨w.heap.size + 1, 1, none⟩) l1).trans c3)))))))
  clear hqs1 hq1 hq2 hq3
  go_wp2_with fail
  have hqs4 := (And.intro ((hb3.cell (p := ⟨w.heap.size, 0, none⟩) l0).trans c0) (And.intro ((hb3.cell (p := ⟨w.heap.size, 1, none⟩) l0).trans c1) (And.intro ((hb3.cell (p := ⟨w.heap.size + 1, 0, none⟩) l1).trans c2) ((hb3.cell (p := ⟨w.heap.size + 1, 1, none⟩) l1).trans c3))))
  go_region_held3 (fun w' => w'.cell? ⟨w.heap.size, 0, none⟩ = some (.int .i64 p) ∧ w'.cell? ⟨w.heap.size, 1, none⟩ = some (.int .i64 q) ∧ w'.cell? ⟨w.heap.size + 1, 0, none⟩ = some (.int .i64 u) ∧ w'.cell? ⟨w.heap.size + 1, 1, none⟩ = some (.int .i64 v)) (first | with_reducible exact hq6 | with_reducible exact hq5 | with_reducible exact hq4 | exact hqs4)
    ((first | (go_at_call 22; have hX := HM.out v5; refine hX.mono ?_; clear hX; rintro e v6 ⟨rfl, hB6⟩; have hb6 := hb5.trans (hB6.mono hb5.size); have hq6 := (And.intro ((hb6.cell (p := ⟨w.heap.size, 0, none⟩) l0).trans c0) (And.intro ((hb6.cell (p := ⟨w.heap.size, 1, none⟩) l0).trans c1) (And.intro ((hb6.cell (p := ⟨w.heap.size + 1, 0, none⟩) l1).trans c2) ((hb6.cell (p := ⟨w.heap.size + 1, 1, none⟩) l1).trans c3))))) | (go_at_call 16; have hX := toRatio_any u v v4; refine hX.mono ?_; clear hX; rintro e v5 ⟨rfl, hB5⟩; have hb5 := hb4.trans (hB5.mono hb4.size); have hq5 := (And.intro ((hb5.cell (p := ⟨w.heap.size, 0, none⟩) l0).trans c0) (And.intro ((hb5.cell (p := ⟨w.heap.size, 1, none⟩) l0).trans c1) (And.intro ((hb5.cell (p := ⟨w.heap.size + 1, 0, none⟩) l1).trans c2) ((hb5.cell (p := ⟨w.heap.size + 1, 1, none⟩) l1).trans c3))))) | (go_at_call 16; have hX := toRatio_any p q v3.drew; refine hX.mono ?_; clear hX; rintro e v4 ⟨rfl, hB4⟩; have hb4 := hb3.drew.trans (hB4.mono hb3.size); have hq4 := (And.intro ((hb4.cell (p := ⟨w.heap.size, 0, none⟩) l0).trans c0) (And.intro ((hb4.cell (p := ⟨w.heap.size, 1, none⟩) l0).trans c1) (And.intro ((hb4.cell (p := ⟨w.heap.size + 1, 0, none⟩) l1).trans c2) ((hb4.cell (p := ⟨w.heap.size + 1, 1, none⟩) l1).trans c3)))))))
  clear hqs4 hq4 hq5 hq6
  go_wp2_with fail
  go_ret
  exact ⟨rfl, bE.out.trans (hb6.mono (by omega))⟩
end Go.Proofs.Ytgomeeheleiapaa
