/- The walk of the law over NearerRatio. -/
import Derived.Test.YtgomeeheleiapaaNearR
namespace Go.Proofs.Ytgomeeheleiapaa
open Go.RowKit
set_option maxHeartbeats 4000000 in
theorem law_FnExactNearerRatio (p q a b c d : Int) (w : World) (hp : I64 p) (hq : I64 q) (ha : I64 a) (hb : I64 b) (hc : I64 c) (hd : I64 d) :
    Calls Try.prog 14 #[.agg #[.int .i64 p, .int .i64 q], .agg #[.int .i64 a, .int .i64 b], .agg #[.int .i64 c, .int .i64 d]] w fun e w' => e = .returned (.bool true) ∧ Below w.heap.size w w' := by
  have HS := hid (fun w => specNearer_any p q a b c d hp hq ha hb hc hd w)
  have HM := hid (fun w => implNearer_any p q a b c d hp hq ha hb hc hd w)
  obtain ⟨x, hx⟩ : ∃ z, z = (nearR p q a b c d).1 := ⟨_, rfl⟩
  obtain ⟨y, hy⟩ : ∃ z, z = (nearR p q a b c d).2 := ⟨_, rfl⟩
  rw [← hx, ← hy] at HS HM
  have d1 : (x != x) = false := by simp
  have d2 : (y != y) = false := by simp
  obtain ⟨W, hW⟩ : ∃ W, W = (((w.alloc (.cells #[.int .i64 p, .int .i64 q] 23)).alloc (.cells #[.int .i64 a, .int .i64 b] 23)).alloc (.cells #[.int .i64 c, .int .i64 d] 23)) := ⟨_, rfl⟩
  obtain ⟨q0, q1, q2, bW, sW⟩ := three_ratios w 23 (.int .i64 p) (.int .i64 q) (.int .i64 a) (.int .i64 b) (.int .i64 c) (.int .i64 d) W hW
  have Q0 := hid q0
  have Q1 := hid q1
  have Q2 := hid q2
  have bE := hid bW
  have hW2 := hid hW
  clear q0 q1 q2 bW hx hy hp hq ha hb hc hd hW
  have l0 := Q0.out.lt
  have l1 := Q1.out.lt
  have l2 := Q2.out.lt
  have hb0 := Below.refl W.heap.size W
  go_enter Try.func14, Try.ntmps14
  go_wp2_with fail
  rw [← hW2.out]
  have c0 := Q0.out.cell 0
  have c1 := Q0.out.cell 1
  have c2 := Q1.out.cell 0
  have c3 := Q1.out.cell 1
  have c4 := Q2.out.cell 0
  have c5 := Q2.out.cell 1
  simp only [List.getElem?_cons_zero, List.getElem?_cons_succ] at c0 c1 c2 c3 c4 c5
  clear sW
  have hqs1 := (And.intro ((hb0.cell (p := ⟨w.heap.size, 0, none⟩) l0).trans c0) (And.intro ((hb0.cell (p := ⟨w.heap.size, 1, none⟩) l0).trans c1) (And.intro ((hb0.cell (p := ⟨w.heap.size + 1, 0, none⟩) l1).trans c2) (And.intro ((hb0.cell (p := ⟨w.heap.size + 1, 1, none⟩) l1).trans c3) (And.intro ((hb0.cell (p := ⟨w.heap.size + 2, 0, none⟩) l2).trans c4) ((hb0.cell (p := ⟨w.heap.size + 2, 1, none⟩) l2).trans c5))))))
  go_region_held3 (fun w' => w'.cell? ⟨w.heap.size, 0, none⟩ = some (.int .i64 p) ∧ w'.cell? ⟨w.heap.size, 1, none⟩ = some (.int .i64 q) ∧ w'.cell? ⟨w.heap.size + 1, 0, none⟩ = some (.int .i64 a) ∧ w'.cell? ⟨w.heap.size + 1, 1, none⟩ = some (.int .i64 b) ∧ w'.cell? ⟨w.heap.size + 2, 0, none⟩ = some (.int .i64 c) ∧ w'.cell? ⟨w.heap.size + 2, 1, none⟩ = some (.int .i64 d)) (first | with_reducible exact hq4 | with_reducible exact hq3 | with_reducible exact hq2 | with_reducible exact hq1 | exact hqs1)
    ((first | (go_at_call 44; have hX := HS.out v3; refine hX.mono ?_; clear hX; rintro e v4 ⟨rfl, hB4⟩; have hb4 := hb3.trans (hB4.mono hb3.size); have hq4 := (And.intro ((hb4.cell (p := ⟨w.heap.size, 0, none⟩) l0).trans c0) (And.intro ((hb4.cell (p := ⟨w.heap.size, 1, none⟩) l0).trans c1) (And.intro ((hb4.cell (p := ⟨w.heap.size + 1, 0, none⟩) l1).trans c2) (And.intro ((hb4.cell (p := ⟨w.heap.size + 1, 1, none⟩) l1).trans c3) (And.intro ((hb4.cell (p := ⟨w.heap.size + 2, 0, none⟩) l2).trans c4) ((hb4.cell (p := ⟨w.heap.size + 2, 1, none⟩) l2).trans c5))))))) | (go_at_call 16; have hX := toRatio_any c d v2; refine hX.mono ?_; clear hX; rintro e v3 ⟨rfl, hB3⟩; have hb3 := hb2.trans (hB3.mono hb2.size); have hq3 := (And.intro ((hb3.cell (p := ⟨w.heap.size, 0, none⟩) l0).trans c0) (And.intro ((hb3.cell (p := ⟨w.heap.size, 1, none⟩) l0).trans c1) (And.intro ((hb3.cell (p := ⟨w.heap.size + 1, 0, none⟩) l1).trans c2) (And.intro ((hb3.cell (p := ⟨w.heap.size + 1, 1, none⟩) l1).trans c3) (And.intro ((hb3.cell (p := ⟨w.heap.size + 2, 0, none⟩) l2).trans c4) ((hb3.cell (p := ⟨w.heap.size + 2, 1, none⟩) l2).trans c5))))))) | (go_at_call 16; have hX := toRatio_any a b v1; refine hX.mono ?_; clear hX; rintro e v2 ⟨rfl, hB2⟩; have hb2 := hb1.trans (hB2.mono hb1.size); have hq2 := (And.intro ((hb2.cell (p := ⟨w.heap.size, 0, none⟩) l0).trans c0) (And.intro ((hb2.cell (p := ⟨w.heap.size, 1, none⟩) l0).trans c1) (And.intro ((hb2.cell (p := ⟨w.heap.size + 1, 0, none⟩) l1).trans c2) (And.intro ((hb2.cell (p := ⟨w.heap.size + 1, 1, none⟩) l1).trans c3) (And.intro ((hb2.cell (p := ⟨w.heap.size + 2, 0, none⟩) l2).trans c4) ((hb2.cell (p := ⟨w.heap.size + 2, 1, none⟩) l2).trans c5))))))) | (go_at_call 16; have hX := toRatio_any p q W.drew; refine hX.mono ?_; clear hX; rintro e v1 ⟨rfl, hB1⟩; have hb1 := hb0.drew.trans (hB1.mono hb0.size); have hq1 := (And.intro ((hb1.cell (p := ⟨w.heap.size, 0, none⟩) l0).trans c0) (And.intro ((hb1.cell (p := ⟨w.heap.size, 1, none⟩) l0).trans c1) (And.intro ((hb1.cell (p := ⟨w.heap.size + 1, 0, none⟩) l1).trans c2) (And.intro ((hb1.cell (p := ⟨w.heap.size + 1, 1, none⟩) l1).trans c3) (And.intro ((hb1.cell (p := ⟨w.heap.size + 2, 0, none⟩) l2).trans c4) ((hb1.cell (p := ⟨w.heap.size + 2, 1, none⟩) l2).trans c5)))))))))
  clear hqs1 hq1 hq2 hq3 hq4
  go_wp2_with fail
  have hqs5 := (And.intro ((hb4.cell (p := ⟨w.heap.size, 0, none⟩) l0).trans c0) (And.intro ((hb4.cell (p := ⟨w.heap.size, 1, none⟩) l0).trans c1) (And.intro ((hb4.cell (p := ⟨w.heap.size + 1, 0, none⟩) l1).trans c2) (And.intro ((hb4.cell (p := ⟨w.heap.size + 1, 1, none⟩) l1).trans c3) (And.intro ((hb4.cell (p := ⟨w.heap.size + 2, 0, none⟩) l2).trans c4) ((hb4.cell (p := ⟨w.heap.size + 2, 1, none⟩) l2).trans c5))))))
  go_region_held3 (fun w' => w'.cell? ⟨w.heap.size, 0, none⟩ = some (.int .i64 p) ∧ w'.cell? ⟨w.heap.size, 1, none⟩ = some (.int .i64 q) ∧ w'.cell? ⟨w.heap.size + 1, 0, none⟩ = some (.int .i64 a) ∧ w'.cell? ⟨w.heap.size + 1, 1, none⟩ = some (.int .i64 b) ∧ w'.cell? ⟨w.heap.size + 2, 0, none⟩ = some (.int .i64 c) ∧ w'.cell? ⟨w.heap.size + 2, 1, none⟩ = some (.int .i64 d)) (first | with_reducible exact hq8 | with_reducible exact hq7 | with_reducible exact hq6 | with_reducible exact hq5 | exact hqs5)
    ((first | (go_at_call 45; have hX := HM.out v7; refine hX.mono ?_; clear hX; rintro e v8 ⟨rfl, hB8⟩; have hb8 := hb7.trans (hB8.mono hb7.size); have hq8 := (And.intro ((hb8.cell (p := ⟨w.heap.size, 0, none⟩) l0).trans c0) (And.intro ((hb8.cell (p := ⟨w.heap.size, 1, none⟩) l0).trans c1) (And.intro ((hb8.cell (p := ⟨w.heap.size + 1, 0, none⟩) l1).trans c2) (And.intro ((hb8.cell (p := ⟨w.heap.size + 1, 1, none⟩) l1).trans c3) (And.intro ((hb8.cell (p := ⟨w.heap.size + 2, 0, none⟩) l2).trans c4) ((hb8.cell (p := ⟨w.heap.size + 2, 1, none⟩) l2).trans c5))))))) | (go_at_call 16; have hX := toRatio_any c d v6; refine hX.mono ?_; clear hX; rintro e v7 ⟨rfl, hB7⟩; have hb7 := hb6.trans (hB7.mono hb6.size); have hq7 := (And.intro ((hb7.cell (p := ⟨w.heap.size, 0, none⟩) l0).trans c0) (And.intro ((hb7.cell (p := ⟨w.heap.size, 1, none⟩) l0).trans c1) (And.intro ((hb7.cell (p := ⟨w.heap.size + 1, 0, none⟩) l1).trans c2) (And.intro ((hb7.cell (p := ⟨w.heap.size + 1, 1, none⟩) l1).trans c3) (And.intro ((hb7.cell (p := ⟨w.heap.size + 2, 0, none⟩) l2).trans c4) ((hb7.cell (p := ⟨w.heap.size + 2, 1, none⟩) l2).trans c5))))))) | (go_at_call 16; have hX := toRatio_any a b v5; refine hX.mono ?_; clear hX; rintro e v6 ⟨rfl, hB6⟩; have hb6 := hb5.trans (hB6.mono hb5.size); have hq6 := (And.intro ((hb6.cell (p := ⟨w.heap.size, 0, none⟩) l0).trans c0) (And.intro ((hb6.cell (p := ⟨w.heap.size, 1, none⟩) l0).trans c1) (And.intro ((hb6.cell (p := ⟨w.heap.size + 1, 0, none⟩) l1).trans c2) (And.intro ((hb6.cell (p := ⟨w.heap.size + 1, 1, none⟩) l1).trans c3) (And.intro ((hb6.cell (p := ⟨w.heap.size + 2, 0, none⟩) l2).trans c4) ((hb6.cell (p := ⟨w.heap.size + 2, 1, none⟩) l2).trans c5))))))) | (go_at_call 16; have hX := toRatio_any p q v4.drew; refine hX.mono ?_; clear hX; rintro e v5 ⟨rfl, hB5⟩; have hb5 := hb4.drew.trans (hB5.mono hb4.size); have hq5 := (And.intro ((hb5.cell (p := ⟨w.heap.size, 0, none⟩) l0).trans c0) (And.intro ((hb5.cell (p := ⟨w.heap.size, 1, none⟩) l0).trans c1) (And.intro ((hb5.cell (p := ⟨w.heap.size + 1, 0, none⟩) l1).trans c2) (And.intro ((hb5.cell (p := ⟨w.heap.size + 1, 1, none⟩) l1).trans c3) (And.intro ((hb5.cell (p := ⟨w.heap.size + 2, 0, none⟩) l2).trans c4) ((hb5.cell (p := ⟨w.heap.size + 2, 1, none⟩) l2).trans c5)))))))))
  clear hqs5 hq5 hq6 hq7 hq8
  go_wp2_with fail
  go_ret
  exact ⟨rfl, bE.out.trans (hb8.mono (by omega))⟩
end Go.Proofs.Ytgomeeheleiapaa
