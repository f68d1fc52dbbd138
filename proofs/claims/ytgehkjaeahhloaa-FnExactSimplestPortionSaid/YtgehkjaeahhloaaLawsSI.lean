/- The walk of the law over SimplestPortion. -/
import Derived.Test.YtgehkjaeahhloaaSimI
import Derived.Test.YtgehkjaeahhloaaOpenR
import Derived.Deep.DeepCutAuto
namespace Go.Proofs.Ytgehkjaeahhloaa
open Go.RowKit
set_option maxHeartbeats 8000000 in
theorem law_FnExactSimplestPortion (p q u v : Int) (w : World) (hp : I64 p) (hq : I64 q) (hu : I64 u) (hv : I64 v) :
    Calls Try.prog 7 #[.agg #[.int .i64 p, .int .i64 q], .agg #[.int .i64 u, .int .i64 v]] w fun e w' => e = .returned (.bool true) ∧ Below w.heap.size w w' := by
  have HS := hid (fun w => specSimplest_any p q u v hp hq hu hv w)
  have HM := hid (fun w => implSimplest_any p q u v hp hq hu hv w)
  obtain ⟨⟨⟨x, y⟩, c⟩, hm⟩ : ∃ m, simR p q u v = m := ⟨_, rfl⟩
  rw [hm] at HS HM
  unfold pairW at HS HM
  simp only at HS HM
  have d1 : (c != c) = false := by simp
  obtain ⟨W, hW⟩ : ∃ W, W = ((w.alloc (.cells #[.int .i64 p, .int .i64 q] 41)).alloc (.cells #[.int .i64 u, .int .i64 v] 41)) := ⟨_, rfl⟩
  obtain ⟨q0, q1, bW, sW⟩ := two_boxes2 w 41 41 (.int .i64 p) (.int .i64 q) (.int .i64 u) (.int .i64 v) W hW
  have Q0 := hid q0
  have Q1 := hid q1
  have bE := hid bW
  have hW2 := hid hW
  have l0 := q0.lt
  have l1 := q1.lt
  clear q0 q1 bW hm hp hq hu hv hW sW
  go_enter Try.func7, Try.ntmps7
  go_upto_region 1 with fail
  rw [← hW2.out]
  go_cut [5, 6] (fun s5 s6 wx => ∃ (g : Nat) (V : World), V = wx ∧ s5 = .pointer (some ⟨g, 0, none⟩) ∧ s6 = .int .i64 c ∧ Row V g 42 [.int .i64 x, .int .i64 y] ∧ Below W.heap.size W V)
  case first =>
    have hb0 := Below.refl W.heap.size W
    have c0 := Q0.out.cell 0
    have c1 := Q0.out.cell 1
    have c2 := Q1.out.cell 0
    have c3 := Q1.out.cell 1
    simp only [List.getElem?_cons_zero, List.getElem?_cons_succ] at c0 c1 c2 c3
    have SOF := hid (fun (v : World) (h : Below W.heap.size W v) => (And.intro ((h.cell (p := ⟨w.heap.size, 0, none⟩) l0).trans c0) (And.intro ((h.cell (p := ⟨w.heap.size, 1, none⟩) l0).trans c1) (And.intro ((h.cell (p := ⟨w.heap.size + 1, 0, none⟩) l1).trans c2) ((h.cell (p := ⟨w.heap.size + 1, 1, none⟩) l1).trans c3)))))
    go_region_held3 (fun w' => w'.cell? ⟨w.heap.size, 0, none⟩ = some (.int .i64 p) ∧ w'.cell? ⟨w.heap.size, 1, none⟩ = some (.int .i64 q) ∧ w'.cell? ⟨w.heap.size + 1, 0, none⟩ = some (.int .i64 u) ∧ w'.cell? ⟨w.heap.size + 1, 1, none⟩ = some (.int .i64 v)) (exact SOF.out _ (by (repeat (first | assumption | refine Below.drew ?_ | refine Below.setCell ?_ (by first | omega | (simp; done) | (simp; omega)) _ | refine Below.alloc ?_ (by first | omega | (simp; done) | (simp; omega)) _))))
      ((first | (go_at_call 24; have _t := hb2; (with_reducible refine (HS.out _).mono ?_); rintro e v3 ⟨rfl, hB3⟩; have hb3 : Below W.heap.size W v3 := bel_step (by (repeat (first | assumption | refine Below.drew ?_ | refine Below.setCell ?_ (by first | omega | (simp; done) | (simp; omega)) _ | refine Below.alloc ?_ (by first | omega | (simp; done) | (simp; omega)) _))) hB3; have hz3 := hb3.size; have hy3 := hB3.size; (try simp only [World.size_drew, World.size_alloc] at hy3); (first | (have rb1 := Row.below rb1 hB3 (by first | omega | (simp; done) | (simp; omega))) | (have rb1 := Row.below (Row.new _ 42 [.int .i64 0, .int .i64 0]) hB3 (by first | omega | (simp; done) | (simp; omega))) | (have rb1 := Row.below (Row.drewN (Row.new _ 42 [.int .i64 0, .int .i64 0]) 1) hB3 (by first | omega | (simp; done) | (simp; omega))) | skip); (try (have cb10 := rb1.cell 0; have cb11 := rb1.cell 1; have fb10 := rb1.frozen 0; have fb11 := rb1.frozen 1; simp only [List.getElem?_cons_zero, List.getElem?_cons_succ] at cb10 cb11))) | (go_at_call 25; have _t := hb1; (with_reducible refine (toPortion_any u v _).mono ?_); rintro e v2 ⟨rfl, hB2⟩; have hb2 : Below W.heap.size W v2 := bel_step (by (repeat (first | assumption | refine Below.drew ?_ | refine Below.setCell ?_ (by first | omega | (simp; done) | (simp; omega)) _ | refine Below.alloc ?_ (by first | omega | (simp; done) | (simp; omega)) _))) hB2; have hz2 := hb2.size; have hy2 := hB2.size; (try simp only [World.size_drew, World.size_alloc] at hy2); (first | (have rb1 := Row.below rb1 hB2 (by first | omega | (simp; done) | (simp; omega))) | (have rb1 := Row.below (Row.new _ 42 [.int .i64 0, .int .i64 0]) hB2 (by first | omega | (simp; done) | (simp; omega))) | (have rb1 := Row.below (Row.drewN (Row.new _ 42 [.int .i64 0, .int .i64 0]) 1) hB2 (by first | omega | (simp; done) | (simp; omega))) | skip); (try (have cb10 := rb1.cell 0; have cb11 := rb1.cell 1; have fb10 := rb1.frozen 0; have fb11 := rb1.frozen 1; simp only [List.getElem?_cons_zero, List.getElem?_cons_succ] at cb10 cb11))) | (go_at_call 25; have _t := hb0; (with_reducible refine (toPortion_any p q _).mono ?_); rintro e v1 ⟨rfl, hB1⟩; have hb1 : Below W.heap.size W v1 := bel_step (by (repeat (first | assumption | refine Below.drew ?_ | refine Below.setCell ?_ (by first | omega | (simp; done) | (simp; omega)) _ | refine Below.alloc ?_ (by first | omega | (simp; done) | (simp; omega)) _))) hB1; have hz1 := hb1.size; have hy1 := hB1.size; (try simp only [World.size_drew, World.size_alloc] at hy1); (first | (have rb1 := Row.below rb1 hB1 (by first | omega | (simp; done) | (simp; omega))) | (have rb1 := Row.below (Row.new _ 42 [.int .i64 0, .int .i64 0]) hB1 (by first | omega | (simp; done) | (simp; omega))) | (have rb1 := Row.below (Row.drewN (Row.new _ 42 [.int .i64 0, .int .i64 0]) 1) hB1 (by first | omega | (simp; done) | (simp; omega))) | skip); (try (have cb10 := rb1.cell 0; have cb11 := rb1.cell 1; have fb10 := rb1.frozen 0; have fb11 := rb1.frozen 1; simp only [List.getElem?_cons_zero, List.getElem?_cons_succ] at cb10 cb11)))))
    all_goals (go_wp2_with fail)
    all_goals go_meet
    all_goals exact ⟨_, _, rfl, rfl, rfl, by (repeat (first | exact Row.new _ _ _ | exact rb1 | exact rb2 | apply Row.set2 | refine Row.alloc ?_ _ | refine Row.other ?_ (by first | omega | (simp; done) | (simp; omega)) _ | exact (Row.drewN (Row.new _ _ _) 1))), by (repeat (first | assumption | refine Below.drew ?_ | refine Below.setCell ?_ (by first | omega | (simp; done) | (simp; omega)) _ | refine Below.alloc ?_ (by first | omega | (simp; done) | (simp; omega)) _))⟩
  case rest =>
    obtain ⟨g, V, rfl, rfl, rfl, rG, bV⟩ := hcut
    have lg := rG.lt
    have hzV := bV.size
    have k0 := Q0.out.below bV l0
    have k1 := Q1.out.below bV l1
    have G := hid rG
    have K0 := hid k0
    have K1 := hid k1
    have j0 := k0.lt
    have j1 := k1.lt
    clear rG k0 k1
    go_upto_region 2 with fail
    go_cut [7, 8] (fun s7 s8 wx => ∃ (g2 : Nat) (U : World), U = wx ∧ s7 = .pointer (some ⟨g2, 0, none⟩) ∧ s8 = .int .i64 c ∧ Row U g2 42 [.int .i64 x, .int .i64 y] ∧ Below V.heap.size V U)
    case first =>
      have hb0 := Below.refl V.heap.size V
      have c0 := K0.out.cell 0
      have c1 := K0.out.cell 1
      have c2 := K1.out.cell 0
      have c3 := K1.out.cell 1
      simp only [List.getElem?_cons_zero, List.getElem?_cons_succ] at c0 c1 c2 c3
      have SOF := hid (fun (v : World) (h : Below V.heap.size V v) => (And.intro ((h.cell (p := ⟨w.heap.size, 0, none⟩) j0).trans c0) (And.intro ((h.cell (p := ⟨w.heap.size, 1, none⟩) j0).trans c1) (And.intro ((h.cell (p := ⟨w.heap.size + 1, 0, none⟩) j1).trans c2) ((h.cell (p := ⟨w.heap.size + 1, 1, none⟩) j1).trans c3)))))
      go_region_held3 (fun w' => w'.cell? ⟨w.heap.size, 0, none⟩ = some (.int .i64 p) ∧ w'.cell? ⟨w.heap.size, 1, none⟩ = some (.int .i64 q) ∧ w'.cell? ⟨w.heap.size + 1, 0, none⟩ = some (.int .i64 u) ∧ w'.cell? ⟨w.heap.size + 1, 1, none⟩ = some (.int .i64 v)) (exact SOF.out _ (by (repeat (first | assumption | refine Below.drew ?_ | refine Below.setCell ?_ (by first | omega | (simp; done) | (simp; omega)) _ | refine Below.alloc ?_ (by first | omega | (simp; done) | (simp; omega)) _))))
        ((first | (go_at_call 26; have _t := hb2; (with_reducible refine (HM.out _).mono ?_); rintro e v3 ⟨rfl, hB3⟩; have hb3 : Below V.heap.size V v3 := bel_step (by (repeat (first | assumption | refine Below.drew ?_ | refine Below.setCell ?_ (by first | omega | (simp; done) | (simp; omega)) _ | refine Below.alloc ?_ (by first | omega | (simp; done) | (simp; omega)) _))) hB3; have hz3 := hb3.size; have hy3 := hB3.size; (try simp only [World.size_drew, World.size_alloc] at hy3); (first | (have rb1 := Row.below rb1 hB3 (by first | omega | (simp; done) | (simp; omega))) | (have rb1 := Row.below (Row.new _ 42 [.int .i64 0, .int .i64 0]) hB3 (by first | omega | (simp; done) | (simp; omega))) | (have rb1 := Row.below (Row.drewN (Row.new _ 42 [.int .i64 0, .int .i64 0]) 1) hB3 (by first | omega | (simp; done) | (simp; omega))) | skip); (try (have cb10 := rb1.cell 0; have cb11 := rb1.cell 1; have fb10 := rb1.frozen 0; have fb11 := rb1.frozen 1; simp only [List.getElem?_cons_zero, List.getElem?_cons_succ] at cb10 cb11))) | (go_at_call 25; have _t := hb1; (with_reducible refine (toPortion_any u v _).mono ?_); rintro e v2 ⟨rfl, hB2⟩; have hb2 : Below V.heap.size V v2 := bel_step (by (repeat (first | assumption | refine Below.drew ?_ | refine Below.setCell ?_ (by first | omega | (simp; done) | (simp; omega)) _ | refine Below.alloc ?_ (by first | omega | (simp; done) | (simp; omega)) _))) hB2; have hz2 := hb2.size; have hy2 := hB2.size; (try simp only [World.size_drew, World.size_alloc] at hy2); (first | (have rb1 := Row.below rb1 hB2 (by first | omega | (simp; done) | (simp; omega))) | (have rb1 := Row.below (Row.new _ 42 [.int .i64 0, .int .i64 0]) hB2 (by first | omega | (simp; done) | (simp; omega))) | (have rb1 := Row.below (Row.drewN (Row.new _ 42 [.int .i64 0, .int .i64 0]) 1) hB2 (by first | omega | (simp; done) | (simp; omega))) | skip); (try (have cb10 := rb1.cell 0; have cb11 := rb1.cell 1; have fb10 := rb1.frozen 0; have fb11 := rb1.frozen 1; simp only [List.getElem?_cons_zero, List.getElem?_cons_succ] at cb10 cb11))) | (go_at_call 25; have _t := hb0; (with_reducible refine (toPortion_any p q _).mono ?_); rintro e v1 ⟨rfl, hB1⟩; have hb1 : Below V.heap.size V v1 := bel_step (by (repeat (first | assumption | refine Below.drew ?_ | refine Below.setCell ?_ (by first | omega | (simp; done) | (simp; omega)) _ | refine Below.alloc ?_ (by first | omega | (simp; done) | (simp; omega)) _))) hB1; have hz1 := hb1.size; have hy1 := hB1.size; (try simp only [World.size_drew, World.size_alloc] at hy1); (first | (have rb1 := Row.below rb1 hB1 (by first | omega | (simp; done) | (simp; omega))) | (have rb1 := Row.below (Row.new _ 42 [.int .i64 0, .int .i64 0]) hB1 (by first | omega | (simp; done) | (simp; omega))) | (have rb1 := Row.below (Row.drewN (Row.new _ 42 [.int .i64 0, .int .i64 0]) 1) hB1 (by first | omega | (simp; done) | (simp; omega))) | skip); (try (have cb10 := rb1.cell 0; have cb11 := rb1.cell 1; have fb10 := rb1.frozen 0; have fb11 := rb1.frozen 1; simp only [List.getElem?_cons_zero, List.getElem?_cons_succ] at cb10 cb11)))))
      all_goals (go_wp2_with fail)
      all_goals go_meet
      all_goals exact ⟨_, _, rfl, rfl, rfl, by (repeat (first | exact Row.new _ _ _ | exact rb1 | exact rb2 | apply Row.set2 | refine Row.alloc ?_ _ | refine Row.other ?_ (by first | omega | (simp; done) | (simp; omega)) _ | exact (Row.drewN (Row.new _ _ _) 1))), by (repeat (first | assumption | refine Below.drew ?_ | refine Below.setCell ?_ (by first | omega | (simp; done) | (simp; omega)) _ | refine Below.alloc ?_ (by first | omega | (simp; done) | (simp; omega)) _))⟩
    case rest =>
      obtain ⟨g2, U, rfl, rfl, rfl, rG2, bU⟩ := hcut
      have r1 := G.out.below bU lg
      have c0 := r1.cell 0
      have c1 := r1.cell 1
      have c2 := rG2.cell 0
      have c3 := rG2.cell 1
      simp only [List.getElem?_cons_zero, List.getElem?_cons_succ] at c0 c1 c2 c3
      have bF := hid (bE.out.trans ((bV.mono (by omega)).trans (bU.mono (by omega))))
      have hzU := bF.out.size
      clear rG2 r1 bU bV
      go_wp2_with fail
      refine (eqPortion_same x y _).mono ?_
      rintro e w5 ⟨rfl, hB5⟩
      clear c0 c1 c2 c3
      go_wp2_with fail
      go_ret
      exact ⟨rfl, bF.out.trans (hB5.mono (by omega))⟩
end Go.Proofs.Ytgehkjaeahhloaa
