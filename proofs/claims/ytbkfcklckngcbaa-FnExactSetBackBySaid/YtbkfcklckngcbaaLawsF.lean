/- The walks of the laws over CountsBetween, RoundsBetween and SetBackBy. -/
import Derived.Test.YtbkfcklckngcbaaFlowT
namespace Go.Proofs.Ytbkfcklckngcbaa
open Go.RowKit
set_option linter.unusedVariables false
theorem toReading_any (p q : Int) (w : World) : Calls Try.prog 26 #[.agg #[.int .i64 p, .int .i64 q]] w (GivesB w (.agg #[.int .i64 p, .int .i64 q])) := by
  go_enter Try.func26, Try.ntmps26
  go_wp2
  exact bodyPost_ret (v := .agg #[.int .i64 p, .int .i64 q]) (by simp [results, Try.results26, go_sem]) rfl ⟨rfl, (((Below.refl _ _).alloc (Nat.le_refl _) _).alloc (by simp) _).alloc (by simp; omega) _⟩
theorem toFlow_any (p q : Int) (w : World) : Calls Try.prog 23 #[.agg #[.int .i64 p, .int .i64 q]] w (GivesB w (.agg #[.int .i64 p, .int .i64 q])) := by
  go_enter Try.func23, Try.ntmps23
  go_wp2
  exact bodyPost_ret (v := .agg #[.int .i64 p, .int .i64 q]) (by simp [results, Try.results23, go_sem]) rfl ⟨rfl, (((Below.refl _ _).alloc (Nat.le_refl _) _).alloc (by simp) _).alloc (by simp; omega) _⟩
set_option maxHeartbeats 4000000 in
theorem law_FnExactCountsBetween (a : Option Addr) (len cap : Nat) (zs : List Int) (p1 q1 : Int) (p2 q2 : Int) (p3 q3 : Int) (w : World) (h : InB w a len zs) (u1 : I64 p1) (v1 : I64 q1) (u2 : I64 p2) (v2 : I64 q2) (u3 : I64 p3) (v3 : I64 q3) :
    Calls Try.prog 6 #[.slice a len cap, .agg #[.int .i64 p1, .int .i64 q1], .agg #[.int .i64 p2, .int .i64 q2], .agg #[.int .i64 p3, .int .i64 q3]] w fun e w' => e = .returned (.bool true) ∧ Below w.heap.size w w' := by
  obtain ⟨W, hW⟩ : ∃ W, W = (((w.alloc (.cells #[.int .i64 p1, .int .i64 q1] 41)).alloc (.cells #[.int .i64 p2, .int .i64 q2] 41)).alloc (.cells #[.int .i64 p3, .int .i64 q3] 35)) := ⟨_, rfl⟩
  have bW : Below w.heap.size w W := by rw [hW]; exact ((((Below.refl _ w).alloc (by first | exact Nat.le_refl _ | (simp; done) | (simp; omega)) _).alloc (by first | exact Nat.le_refl _ | (simp; done) | (simp; omega)) _).alloc (by first | exact Nat.le_refl _ | (simp; done) | (simp; omega)) _)
  have r0 : Row W (w.heap.size) 41 [.int .i64 p1, .int .i64 q1] := by
    have h := Row.new w 41 [.int .i64 p1, .int .i64 q1]
    try simp only [World.size_alloc] at h
    rw [hW]; exact ((h.alloc _).alloc _)
  have r1 : Row W (w.heap.size + 1) 41 [.int .i64 p2, .int .i64 q2] := by
    have h := Row.new (w.alloc (.cells #[.int .i64 p1, .int .i64 q1] 41)) 41 [.int .i64 p2, .int .i64 q2]
    try simp only [World.size_alloc] at h
    rw [hW]; exact (h.alloc _)
  have r2 : Row W (w.heap.size + 1 + 1) 35 [.int .i64 p3, .int .i64 q3] := by
    have h := Row.new ((w.alloc (.cells #[.int .i64 p1, .int .i64 q1] 41)).alloc (.cells #[.int .i64 p2, .int .i64 q2] 41)) 35 [.int .i64 p3, .int .i64 q3]
    try simp only [World.size_alloc] at h
    rw [hW]; exact h
  have sW : W.heap.size = w.heap.size + 1 + 1 + 1 := by rw [hW]; simp
  by_cases hl : 1048576 < len
  · have bW2 := hid bW
    have hW2 := hid hW
    clear hW bW sW r0 r1 r2
    go_enter Try.func6, Try.ntmps6
    go_wp2
    go_ret
    exact ⟨rfl, by rw [← hW2.out]; exact bW2.out⟩
  have hI := hid (h.below bW (Nat.le_refl _))
  have hI0 := hid h
  have hn : Hid (len = zs.length) := hid h.1.symm
  have HS := hid (fun b w1 (k : Stk w1 b zs) => specCounts_any b len len zs hn.out p1 q1 p2 q2 p3 q3 w1 k)
  have HM := hid (fun b w1 (k : Stk w1 b zs) => implCounts_any b len len zs hn.out p1 q1 p2 q2 p3 q3 w1 k)
  unfold tup3 at HS HM
  obtain ⟨R, hR⟩ : ∃ R, cntR zs p1 q1 p2 q2 p3 q3 = R := ⟨_, rfl⟩
  rw [hR] at HS HM
  obtain ⟨⟨o0, o1⟩, o2⟩ := R
  dsimp only at HS HM
  clear hR
  have e0 : (o0 != o0) = false := by simp
  have e1 : (o1 != o1) = false := by simp
  have e2 : (o2 != o2) = false := by simp
  have l0 := r0.lt
  have c0 := r0.cell 0
  have c1 := r0.cell 1
  have l1 := r1.lt
  have c2 := r1.cell 0
  have c3 := r1.cell 1
  have l2 := r2.lt
  have c4 := r2.cell 0
  have c5 := r2.cell 1
  simp only [List.getElem?_cons_zero, List.getElem?_cons_succ] at c0 c1 c2 c3 c4 c5
  have SOF := hid (fun (v : World) (h : Below W.heap.size W v) => (And.intro ((h.cell (p := ⟨w.heap.size, 0, none⟩) l0).trans c0) (And.intro ((h.cell (p := ⟨w.heap.size, 1, none⟩) l0).trans c1) (And.intro ((h.cell (p := ⟨w.heap.size + 1, 0, none⟩) l1).trans c2) (And.intro ((h.cell (p := ⟨w.heap.size + 1, 1, none⟩) l1).trans c3) (And.intro ((h.cell (p := ⟨w.heap.size + 1 + 1, 0, none⟩) l2).trans c4) ((h.cell (p := ⟨w.heap.size + 1 + 1, 1, none⟩) l2).trans c5)))))))
  have hb0 := Below.refl W.heap.size W
  have bE := hid bW
  have hW2 := hid hW
  have SW := hid sW
  clear h hW bW sW r0 r1 r2 u1 v1 u2 v2 u3 v3
  go_enter Try.func6, Try.ntmps6
  go_wp2_with fail
  rw [← hW2.out]
  go_region_held3 (fun w' => w'.cell? ⟨w.heap.size, 0, none⟩ = some (.int .i64 p1) ∧ w'.cell? ⟨w.heap.size, 1, none⟩ = some (.int .i64 q1) ∧ w'.cell? ⟨w.heap.size + 1, 0, none⟩ = some (.int .i64 p2) ∧ w'.cell? ⟨w.heap.size + 1, 1, none⟩ = some (.int .i64 q2) ∧ w'.cell? ⟨w.heap.size + 1 + 1, 0, none⟩ = some (.int .i64 p3) ∧ w'.cell? ⟨w.heap.size + 1 + 1, 1, none⟩ = some (.int .i64 q3)) (exact SOF.out _ (by (repeat (first | assumption | refine Below.drew ?_ | refine Below.setCell ?_ (by first | omega | (simp; done) | (simp; omega)) _ | refine Below.alloc ?_ (by first | omega | (simp; done) | (simp; omega)) _))))
    ((first | (go_at_call 23; have hX := toFlow_any p3 q3 v3; refine hX.mono ?_; clear hX; rintro e v4 ⟨rfl, hB4⟩; have hb4 : Below W.heap.size W v4 := bel_step hb3 hB4; (try simp only [World.size_drew] at hB4); have hy4 := hB4.size; (try simp only [World.size_drew] at hy4)) | (go_at_call 26; have hX := toReading_any p2 q2 v2; refine hX.mono ?_; clear hX; rintro e v3 ⟨rfl, hB3⟩; have hb3 : Below W.heap.size W v3 := bel_step hb2 hB3; (try simp only [World.size_drew] at hB3); have hy3 := hB3.size; (try simp only [World.size_drew] at hy3)) | (go_at_call 26; have hX := toReading_any p1 q1 v1; refine hX.mono ?_; clear hX; rintro e v2 ⟨rfl, hB2⟩; have hb2 : Below W.heap.size W v2 := bel_step hb1 hB2; (try simp only [World.size_drew] at hB2); have hy2 := hB2.size; (try simp only [World.size_drew] at hy2)) | (go_at_call 15; have hX := toStack_any a len cap zs _ (hI.out.below hb0.drew (Nat.le_refl _)) (by omega); refine hX.mono ?_; clear hX; rintro e v1 ⟨rfl, hB1, hS1, hz1⟩; simp only [World.size_drew] at hB1 hS1 hz1; have hb1 : Below W.heap.size W v1 := hb0.drew.trans hB1; have hy1 := hB1.size) | (go_at_call 25; have hX := HS.out _ v4 (((hS1.below hB2 (by omega)).below hB3 (by omega)).below hB4 (by omega)); refine hX.mono ?_; clear hX; rintro e v5 ⟨rfl, hB5⟩; have hb5 : Below W.heap.size W v5 := bel_step hb4 hB5; have hy5 := hB5.size)))
  have hyK := hb5.size
  have hIK := hid (hI.out.below hb5 (Nat.le_refl _))
  clear hS1
  go_wp2_with fail
  refine (toStack_any a len cap zs _ hIK.out (by omega)).mono ?_
  rintro e v6 ⟨rfl, hB6, hT1, hg1⟩
  have hb6 : Below W.heap.size W v6 := bel_step hb5 hB6
  have hy6 := hB6.size
  go_wp2_with fail
  have hgK : v5.heap.size < v6.heap.size := hg1
  go_region_held3 (fun w' => w'.cell? ⟨w.heap.size, 0, none⟩ = some (.int .i64 p1) ∧ w'.cell? ⟨w.heap.size, 1, none⟩ = some (.int .i64 q1) ∧ w'.cell? ⟨w.heap.size + 1, 0, none⟩ = some (.int .i64 p2) ∧ w'.cell? ⟨w.heap.size + 1, 1, none⟩ = some (.int .i64 q2) ∧ w'.cell? ⟨w.heap.size + 1 + 1, 0, none⟩ = some (.int .i64 p3) ∧ w'.cell? ⟨w.heap.size + 1 + 1, 1, none⟩ = some (.int .i64 q3)) (exact SOF.out _ (by (repeat (first | assumption | refine Below.drew ?_ | refine Below.setCell ?_ (by first | omega | (simp; done) | (simp; omega)) _ | refine Below.alloc ?_ (by first | omega | (simp; done) | (simp; omega)) _))))
    ((first | (go_at_call 23; have hX := toFlow_any p3 q3 v8; refine hX.mono ?_; clear hX; rintro e v9 ⟨rfl, hB9⟩; have hb9 : Below W.heap.size W v9 := bel_step hb8 hB9; (try simp only [World.size_drew] at hB9); have hy9 := hB9.size; (try simp only [World.size_drew] at hy9)) | (go_at_call 26; have hX := toReading_any p2 q2 v7; refine hX.mono ?_; clear hX; rintro e v8 ⟨rfl, hB8⟩; have hb8 : Below W.heap.size W v8 := bel_step hb7 hB8; (try simp only [World.size_drew] at hB8); have hy8 := hB8.size; (try simp only [World.size_drew] at hy8)) | (go_at_call 26; have hX := toReading_any p1 q1 v6.drew; refine hX.mono ?_; clear hX; rintro e v7 ⟨rfl, hB7⟩; have hb7 : Below W.heap.size W v7 := bel_step hb6.drew hB7; (try simp only [World.size_drew] at hB7); have hy7 := hB7.size; (try simp only [World.size_drew] at hy7)) | (go_at_call 27; have hX := HM.out _ v9 ((((hT1.below (Below.refl _ _).drew hT1.1).below hB7 (by omega)).below hB8 (by omega)).below hB9 (by omega)); refine hX.mono ?_; clear hX; rintro e v10 ⟨rfl, hB10⟩; have hb10 : Below W.heap.size W v10 := bel_step hb9 hB10; have hy10 := hB10.size)))
  have hy7' := hB7.size
  try simp only [World.size_drew] at hy7'
  have hy8' := hB8.size
  try simp only [World.size_drew] at hy8'
  have hy9' := hB9.size
  try simp only [World.size_drew] at hy9'
  have hy10' := hB10.size
  try simp only [World.size_drew] at hy10'
  have hTz := hid (((((hT1.below (Below.refl _ _).drew hT1.1).below hB7 (by first | omega | (simp at *; omega))).below hB8 (by first | omega | (simp at *; omega))).below hB9 (by first | omega | (simp at *; omega))).below hB10 (by first | omega | (simp at *; omega)))
  have hIz := hid (hI.out.below hb10 (Nat.le_refl _))
  have hyz := hb10.size
  go_wp2_with fail
  refine (toStack_any a len cap zs _ hIz.out (by omega)).mono ?_
  rintro e y1 ⟨rfl, hE1, hSy, hzy⟩
  go_wp2_with fail
  refine (eqStack_same _ _ len len len zs y1 (hTz.out.below hE1 (by omega)) hSy hn.out).mono ?_
  rintro e y2 ⟨rfl, hE2⟩
  go_wp2_with fail
  go_ret
  exact ⟨rfl, bE.out.trans (((hb10.trans (hE1.mono (by omega))).trans (hE2.mono (by have := hE1.size; omega))).mono (by have := SW.out; omega))⟩
set_option maxHeartbeats 4000000 in
theorem law_FnExactRoundsBetween (a : Option Addr) (len cap : Nat) (zs : List Int) (p1 q1 : Int) (p2 q2 : Int) (p3 q3 : Int) (w : World) (h : InB w a len zs) (u1 : I64 p1) (v1 : I64 q1) (u2 : I64 p2) (v2 : I64 q2) (u3 : I64 p3) (v3 : I64 q3) :
    Calls Try.prog 7 #[.slice a len cap, .agg #[.int .i64 p1, .int .i64 q1], .agg #[.int .i64 p2, .int .i64 q2], .agg #[.int .i64 p3, .int .i64 q3]] w fun e w' => e = .returned (.bool true) ∧ Below w.heap.size w w' := by
  obtain ⟨W, hW⟩ : ∃ W, W = (((w.alloc (.cells #[.int .i64 p1, .int .i64 q1] 41)).alloc (.cells #[.int .i64 p2, .int .i64 q2] 41)).alloc (.cells #[.int .i64 p3, .int .i64 q3] 35)) := ⟨_, rfl⟩
  have bW : Below w.heap.size w W := by rw [hW]; exact ((((Below.refl _ w).alloc (by first | exact Nat.le_refl _ | (simp; done) | (simp; omega)) _).alloc (by first | exact Nat.le_refl _ | (simp; done) | (simp; omega)) _).alloc (by first | exact Nat.le_refl _ | (simp; done) | (simp; omega)) _)
  have r0 : Row W (w.heap.size) 41 [.int .i64 p1, .int .i64 q1] := by
    have h := Row.new w 41 [.int .i64 p1, .int .i64 q1]
    try simp only [World.size_alloc] at h
    rw [hW]; exact ((h.alloc _).alloc _)
  have r1 : Row W (w.heap.size + 1) 41 [.int .i64 p2, .int .i64 q2] := by
    have h := Row.new (w.alloc (.cells #[.int .i64 p1, .int .i64 q1] 41)) 41 [.int .i64 p2, .int .i64 q2]
    try simp only [World.size_alloc] at h
    rw [hW]; exact (h.alloc _)
  have r2 : Row W (w.heap.size + 1 + 1) 35 [.int .i64 p3, .int .i64 q3] := by
    have h := Row.new ((w.alloc (.cells #[.int .i64 p1, .int .i64 q1] 41)).alloc (.cells #[.int .i64 p2, .int .i64 q2] 41)) 35 [.int .i64 p3, .int .i64 q3]
    try simp only [World.size_alloc] at h
    rw [hW]; exact h
  have sW : W.heap.size = w.heap.size + 1 + 1 + 1 := by rw [hW]; simp
  by_cases hl : 1048576 < len
  · have bW2 := hid bW
    have hW2 := hid hW
    clear hW bW sW r0 r1 r2
    go_enter Try.func7, Try.ntmps7
    go_wp2
    go_ret
    exact ⟨rfl, by rw [← hW2.out]; exact bW2.out⟩
  have hI := hid (h.below bW (Nat.le_refl _))
  have hI0 := hid h
  have hn : Hid (len = zs.length) := hid h.1.symm
  have HS := hid (fun b w1 (k : Stk w1 b zs) => specRounds_any b len len zs hn.out p1 q1 p2 q2 p3 q3 w1 k)
  have HM := hid (fun b w1 (k : Stk w1 b zs) => implRounds_any b len len zs hn.out p1 q1 p2 q2 p3 q3 w1 k)
  unfold tup3 at HS HM
  obtain ⟨R, hR⟩ : ∃ R, rndR zs p1 q1 p2 q2 p3 q3 = R := ⟨_, rfl⟩
  rw [hR] at HS HM
  obtain ⟨⟨o0, o1⟩, o2⟩ := R
  dsimp only at HS HM
  clear hR
  have e0 : (o0 != o0) = false := by simp
  have e1 : (o1 != o1) = false := by simp
  have e2 : (o2 != o2) = false := by simp
  have l0 := r0.lt
  have c0 := r0.cell 0
  have c1 := r0.cell 1
  have l1 := r1.lt
  have c2 := r1.cell 0
  have c3 := r1.cell 1
  have l2 := r2.lt
  have c4 := r2.cell 0
  have c5 := r2.cell 1
  simp only [List.getElem?_cons_zero, List.getElem?_cons_succ] at c0 c1 c2 c3 c4 c5
  have SOF := hid (fun (v : World) (h : Below W.heap.size W v) => (And.intro ((h.cell (p := ⟨w.heap.size, 0, none⟩) l0).trans c0) (And.intro ((h.cell (p := ⟨w.heap.size, 1, none⟩) l0).trans c1) (And.intro ((h.cell (p := ⟨w.heap.size + 1, 0, none⟩) l1).trans c2) (And.intro ((h.cell (p := ⟨w.heap.size + 1, 1, none⟩) l1).trans c3) (And.intro ((h.cell (p := ⟨w.heap.size + 1 + 1, 0, none⟩) l2).trans c4) ((h.cell (p := ⟨w.heap.size + 1 + 1, 1, none⟩) l2).trans c5)))))))
  have hb0 := Below.refl W.heap.size W
  have bE := hid bW
  have hW2 := hid hW
  have SW := hid sW
  clear h hW bW sW r0 r1 r2 u1 v1 u2 v2 u3 v3
  go_enter Try.func7, Try.ntmps7
  go_wp2_with fail
  rw [← hW2.out]
  go_region_held3 (fun w' => w'.cell? ⟨w.heap.size, 0, none⟩ = some (.int .i64 p1) ∧ w'.cell? ⟨w.heap.size, 1, none⟩ = some (.int .i64 q1) ∧ w'.cell? ⟨w.heap.size + 1, 0, none⟩ = some (.int .i64 p2) ∧ w'.cell? ⟨w.heap.size + 1, 1, none⟩ = some (.int .i64 q2) ∧ w'.cell? ⟨w.heap.size + 1 + 1, 0, none⟩ = some (.int .i64 p3) ∧ w'.cell? ⟨w.heap.size + 1 + 1, 1, none⟩ = some (.int .i64 q3)) (exact SOF.out _ (by (repeat (first | assumption | refine Below.drew ?_ | refine Below.setCell ?_ (by first | omega | (simp; done) | (simp; omega)) _ | refine Below.alloc ?_ (by first | omega | (simp; done) | (simp; omega)) _))))
    ((first | (go_at_call 23; have hX := toFlow_any p3 q3 v3; refine hX.mono ?_; clear hX; rintro e v4 ⟨rfl, hB4⟩; have hb4 : Below W.heap.size W v4 := bel_step hb3 hB4; (try simp only [World.size_drew] at hB4); have hy4 := hB4.size; (try simp only [World.size_drew] at hy4)) | (go_at_call 26; have hX := toReading_any p2 q2 v2; refine hX.mono ?_; clear hX; rintro e v3 ⟨rfl, hB3⟩; have hb3 : Below W.heap.size W v3 := bel_step hb2 hB3; (try simp only [World.size_drew] at hB3); have hy3 := hB3.size; (try simp only [World.size_drew] at hy3)) | (go_at_call 26; have hX := toReading_any p1 q1 v1; refine hX.mono ?_; clear hX; rintro e v2 ⟨rfl, hB2⟩; have hb2 : Below W.heap.size W v2 := bel_step hb1 hB2; (try simp only [World.size_drew] at hB2); have hy2 := hB2.size; (try simp only [World.size_drew] at hy2)) | (go_at_call 15; have hX := toStack_any a len cap zs _ (hI.out.below hb0.drew (Nat.le_refl _)) (by omega); refine hX.mono ?_; clear hX; rintro e v1 ⟨rfl, hB1, hS1, hz1⟩; simp only [World.size_drew] at hB1 hS1 hz1; have hb1 : Below W.heap.size W v1 := hb0.drew.trans hB1; have hy1 := hB1.size) | (go_at_call 28; have hX := HS.out _ v4 (((hS1.below hB2 (by omega)).below hB3 (by omega)).below hB4 (by omega)); refine hX.mono ?_; clear hX; rintro e v5 ⟨rfl, hB5⟩; have hb5 : Below W.heap.size W v5 := bel_step hb4 hB5; have hy5 := hB5.size)))
  have hyK := hb5.size
  have hIK := hid (hI.out.below hb5 (Nat.le_refl _))
  clear hS1
  go_wp2_with fail
  refine (toStack_any a len cap zs _ hIK.out (by omega)).mono ?_
  rintro e v6 ⟨rfl, hB6, hT1, hg1⟩
  have hb6 : Below W.heap.size W v6 := bel_step hb5 hB6
  have hy6 := hB6.size
  go_wp2_with fail
  have hgK : v5.heap.size < v6.heap.size := hg1
  go_region_held3 (fun w' => w'.cell? ⟨w.heap.size, 0, none⟩ = some (.int .i64 p1) ∧ w'.cell? ⟨w.heap.size, 1, none⟩ = some (.int .i64 q1) ∧ w'.cell? ⟨w.heap.size + 1, 0, none⟩ = some (.int .i64 p2) ∧ w'.cell? ⟨w.heap.size + 1, 1, none⟩ = some (.int .i64 q2) ∧ w'.cell? ⟨w.heap.size + 1 + 1, 0, none⟩ = some (.int .i64 p3) ∧ w'.cell? ⟨w.heap.size + 1 + 1, 1, none⟩ = some (.int .i64 q3)) (exact SOF.out _ (by (repeat (first | assumption | refine Below.drew ?_ | refine Below.setCell ?_ (by first | omega | (simp; done) | (simp; omega)) _ | refine Below.alloc ?_ (by first | omega | (simp; done) | (simp; omega)) _))))
    ((first | (go_at_call 23; have hX := toFlow_any p3 q3 v8; refine hX.mono ?_; clear hX; rintro e v9 ⟨rfl, hB9⟩; have hb9 : Below W.heap.size W v9 := bel_step hb8 hB9; (try simp only [World.size_drew] at hB9); have hy9 := hB9.size; (try simp only [World.size_drew] at hy9)) | (go_at_call 26; have hX := toReading_any p2 q2 v7; refine hX.mono ?_; clear hX; rintro e v8 ⟨rfl, hB8⟩; have hb8 : Below W.heap.size W v8 := bel_step hb7 hB8; (try simp only [World.size_drew] at hB8); have hy8 := hB8.size; (try simp only [World.size_drew] at hy8)) | (go_at_call 26; have hX := toReading_any p1 q1 v6.drew; refine hX.mono ?_; clear hX; rintro e v7 ⟨rfl, hB7⟩; have hb7 : Below W.heap.size W v7 := bel_step hb6.drew hB7; (try simp only [World.size_drew] at hB7); have hy7 := hB7.size; (try simp only [World.size_drew] at hy7)) | (go_at_call 29; have hX := HM.out _ v9 ((((hT1.below (Below.refl _ _).drew hT1.1).below hB7 (by omega)).below hB8 (by omega)).below hB9 (by omega)); refine hX.mono ?_; clear hX; rintro e v10 ⟨rfl, hB10⟩; have hb10 : Below W.heap.size W v10 := bel_step hb9 hB10; have hy10 := hB10.size)))
  have hy7' := hB7.size
  try simp only [World.size_drew] at hy7'
  have hy8' := hB8.size
  try simp only [World.size_drew] at hy8'
  have hy9' := hB9.size
  try simp only [World.size_drew] at hy9'
  have hy10' := hB10.size
  try simp only [World.size_drew] at hy10'
  have hTz := hid (((((hT1.below (Below.refl _ _).drew hT1.1).below hB7 (by first | omega | (simp at *; omega))).below hB8 (by first | omega | (simp at *; omega))).below hB9 (by first | omega | (simp at *; omega))).below hB10 (by first | omega | (simp at *; omega)))
  have hIz := hid (hI.out.below hb10 (Nat.le_refl _))
  have hyz := hb10.size
  go_wp2_with fail
  refine (toStack_any a len cap zs _ hIz.out (by omega)).mono ?_
  rintro e y1 ⟨rfl, hE1, hSy, hzy⟩
  go_wp2_with fail
  refine (eqStack_same _ _ len len len zs y1 (hTz.out.below hE1 (by omega)) hSy hn.out).mono ?_
  rintro e y2 ⟨rfl, hE2⟩
  go_wp2_with fail
  go_ret
  exact ⟨rfl, bE.out.trans (((hb10.trans (hE1.mono (by omega))).trans (hE2.mono (by have := hE1.size; omega))).mono (by have := SW.out; omega))⟩
set_option maxHeartbeats 4000000 in
theorem law_FnExactSetBackBy (a : Option Addr) (len cap : Nat) (zs : List Int) (p1 q1 : Int) (p2 q2 : Int) (p3 q3 : Int) (w : World) (h : InB w a len zs) (u1 : I64 p1) (v1 : I64 q1) (u2 : I64 p2) (v2 : I64 q2) (u3 : I64 p3) (v3 : I64 q3) :
    Calls Try.prog 8 #[.slice a len cap, .agg #[.int .i64 p1, .int .i64 q1], .agg #[.int .i64 p2, .int .i64 q2], .agg #[.int .i64 p3, .int .i64 q3]] w fun e w' => e = .returned (.bool true) ∧ Below w.heap.size w w' := by
  obtain ⟨W, hW⟩ : ∃ W, W = (((w.alloc (.cells #[.int .i64 p1, .int .i64 q1] 41)).alloc (.cells #[.int .i64 p2, .int .i64 q2] 41)).alloc (.cells #[.int .i64 p3, .int .i64 q3] 35)) := ⟨_, rfl⟩
  have bW : Below w.heap.size w W := by rw [hW]; exact ((((Below.refl _ w).alloc (by first | exact Nat.le_refl _ | (simp; done) | (simp; omega)) _).alloc (by first | exact Nat.le_refl _ | (simp; done) | (simp; omega)) _).alloc (by first | exact Nat.le_refl _ | (simp; done) | (simp; omega)) _)
  have r0 : Row W (w.heap.size) 41 [.int .i64 p1, .int .i64 q1] := by
    have h := Row.new w 41 [.int .i64 p1, .int .i64 q1]
    try simp only [World.size_alloc] at h
    rw [hW]; exact ((h.alloc _).alloc _)
  have r1 : Row W (w.heap.size + 1) 41 [.int .i64 p2, .int .i64 q2] := by
    have h := Row.new (w.alloc (.cells #[.int .i64 p1, .int .i64 q1] 41)) 41 [.int .i64 p2, .int .i64 q2]
    try simp only [World.size_alloc] at h
    rw [hW]; exact (h.alloc _)
  have r2 : Row W (w.heap.size + 1 + 1) 35 [.int .i64 p3, .int .i64 q3] := by
    have h := Row.new ((w.alloc (.cells #[.int .i64 p1, .int .i64 q1] 41)).alloc (.cells #[.int .i64 p2, .int .i64 q2] 41)) 35 [.int .i64 p3, .int .i64 q3]
    try simp only [World.size_alloc] at h
    rw [hW]; exact h
  have sW : W.heap.size = w.heap.size + 1 + 1 + 1 := by rw [hW]; simp
  by_cases hl : 1048576 < len
  · have bW2 := hid bW
    have hW2 := hid hW
    clear hW bW sW r0 r1 r2
    go_enter Try.func8, Try.ntmps8
    go_wp2
    go_ret
    exact ⟨rfl, by rw [← hW2.out]; exact bW2.out⟩
  have hI := hid (h.below bW (Nat.le_refl _))
  have hI0 := hid h
  have hn : Hid (len = zs.length) := hid h.1.symm
  have HS := hid (fun b w1 (k : Stk w1 b zs) => specBack_any b len len zs hn.out p1 q1 p2 q2 p3 q3 w1 k)
  have HM := hid (fun b w1 (k : Stk w1 b zs) => implBack_any b len len zs hn.out p1 q1 p2 q2 p3 q3 w1 k)
  unfold tup2 at HS HM
  obtain ⟨R, hR⟩ : ∃ R, backR zs p1 q1 p2 q2 p3 q3 = R := ⟨_, rfl⟩
  rw [hR] at HS HM
  obtain ⟨o0, o1⟩ := R
  dsimp only at HS HM
  clear hR
  have e0 : (o0 != o0) = false := by simp
  have e1 : (o1 != o1) = false := by simp
  have l0 := r0.lt
  have c0 := r0.cell 0
  have c1 := r0.cell 1
  have l1 := r1.lt
  have c2 := r1.cell 0
  have c3 := r1.cell 1
  have l2 := r2.lt
  have c4 := r2.cell 0
  have c5 := r2.cell 1
  simp only [List.getElem?_cons_zero, List.getElem?_cons_succ] at c0 c1 c2 c3 c4 c5
  have SOF := hid (fun (v : World) (h : Below W.heap.size W v) => (And.intro ((h.cell (p := ⟨w.heap.size, 0, none⟩) l0).trans c0) (And.intro ((h.cell (p := ⟨w.heap.size, 1, none⟩) l0).trans c1) (And.intro ((h.cell (p := ⟨w.heap.size + 1, 0, none⟩) l1).trans c2) (And.intro ((h.cell (p := ⟨w.heap.size + 1, 1, none⟩) l1).trans c3) (And.intro ((h.cell (p := ⟨w.heap.size + 1 + 1, 0, none⟩) l2).trans c4) ((h.cell (p := ⟨w.heap.size + 1 + 1, 1, none⟩) l2).trans c5)))))))
  have hb0 := Below.refl W.heap.size W
  have bE := hid bW
  have hW2 := hid hW
  have SW := hid sW
  clear h hW bW sW r0 r1 r2 u1 v1 u2 v2 u3 v3
  go_enter Try.func8, Try.ntmps8
  go_wp2_with fail
  rw [← hW2.out]
  go_region_held3 (fun w' => w'.cell? ⟨w.heap.size, 0, none⟩ = some (.int .i64 p1) ∧ w'.cell? ⟨w.heap.size, 1, none⟩ = some (.int .i64 q1) ∧ w'.cell? ⟨w.heap.size + 1, 0, none⟩ = some (.int .i64 p2) ∧ w'.cell? ⟨w.heap.size + 1, 1, none⟩ = some (.int .i64 q2) ∧ w'.cell? ⟨w.heap.size + 1 + 1, 0, none⟩ = some (.int .i64 p3) ∧ w'.cell? ⟨w.heap.size + 1 + 1, 1, none⟩ = some (.int .i64 q3)) (exact SOF.out _ (by (repeat (first | assumption | refine Below.drew ?_ | refine Below.setCell ?_ (by first | omega | (simp; done) | (simp; omega)) _ | refine Below.alloc ?_ (by first | omega | (simp; done) | (simp; omega)) _))))
    ((first | (go_at_call 23; have hX := toFlow_any p3 q3 v3; refine hX.mono ?_; clear hX; rintro e v4 ⟨rfl, hB4⟩; have hb4 : Below W.heap.size W v4 := bel_step hb3 hB4; (try simp only [World.size_drew] at hB4); have hy4 := hB4.size; (try simp only [World.size_drew] at hy4)) | (go_at_call 26; have hX := toReading_any p2 q2 v2; refine hX.mono ?_; clear hX; rintro e v3 ⟨rfl, hB3⟩; have hb3 : Below W.heap.size W v3 := bel_step hb2 hB3; (try simp only [World.size_drew] at hB3); have hy3 := hB3.size; (try simp only [World.size_drew] at hy3)) | (go_at_call 26; have hX := toReading_any p1 q1 v1; refine hX.mono ?_; clear hX; rintro e v2 ⟨rfl, hB2⟩; have hb2 : Below W.heap.size W v2 := bel_step hb1 hB2; (try simp only [World.size_drew] at hB2); have hy2 := hB2.size; (try simp only [World.size_drew] at hy2)) | (go_at_call 15; have hX := toStack_any a len cap zs _ (hI.out.below hb0.drew (Nat.le_refl _)) (by omega); refine hX.mono ?_; clear hX; rintro e v1 ⟨rfl, hB1, hS1, hz1⟩; simp only [World.size_drew] at hB1 hS1 hz1; have hb1 : Below W.heap.size W v1 := hb0.drew.trans hB1; have hy1 := hB1.size) | (go_at_call 30; have hX := HS.out _ v4 (((hS1.below hB2 (by omega)).below hB3 (by omega)).below hB4 (by omega)); refine hX.mono ?_; clear hX; rintro e v5 ⟨rfl, hB5⟩; have hb5 : Below W.heap.size W v5 := bel_step hb4 hB5; have hy5 := hB5.size)))
  have hyK := hb5.size
  have hIK := hid (hI.out.below hb5 (Nat.le_refl _))
  clear hS1
  go_wp2_with fail
  refine (toStack_any a len cap zs _ hIK.out (by omega)).mono ?_
  rintro e v6 ⟨rfl, hB6, hT1, hg1⟩
  have hb6 : Below W.heap.size W v6 := bel_step hb5 hB6
  have hy6 := hB6.size
  go_wp2_with fail
  have hgK : v5.heap.size < v6.heap.size := hg1
  go_region_held3 (fun w' => w'.cell? ⟨w.heap.size, 0, none⟩ = some (.int .i64 p1) ∧ w'.cell? ⟨w.heap.size, 1, none⟩ = some (.int .i64 q1) ∧ w'.cell? ⟨w.heap.size + 1, 0, none⟩ = some (.int .i64 p2) ∧ w'.cell? ⟨w.heap.size + 1, 1, none⟩ = some (.int .i64 q2) ∧ w'.cell? ⟨w.heap.size + 1 + 1, 0, none⟩ = some (.int .i64 p3) ∧ w'.cell? ⟨w.heap.size + 1 + 1, 1, none⟩ = some (.int .i64 q3)) (exact SOF.out _ (by (repeat (first | assumption | refine Below.drew ?_ | refine Below.setCell ?_ (by first | omega | (simp; done) | (simp; omega)) _ | refine Below.alloc ?_ (by first | omega | (simp; done) | (simp; omega)) _))))
    ((first | (go_at_call 23; have hX := toFlow_any p3 q3 v8; refine hX.mono ?_; clear hX; rintro e v9 ⟨rfl, hB9⟩; have hb9 : Below W.heap.size W v9 := bel_step hb8 hB9; (try simp only [World.size_drew] at hB9); have hy9 := hB9.size; (try simp only [World.size_drew] at hy9)) | (go_at_call 26; have hX := toReading_any p2 q2 v7; refine hX.mono ?_; clear hX; rintro e v8 ⟨rfl, hB8⟩; have hb8 : Below W.heap.size W v8 := bel_step hb7 hB8; (try simp only [World.size_drew] at hB8); have hy8 := hB8.size; (try simp only [World.size_drew] at hy8)) | (go_at_call 26; have hX := toReading_any p1 q1 v6.drew; refine hX.mono ?_; clear hX; rintro e v7 ⟨rfl, hB7⟩; have hb7 : Below W.heap.size W v7 := bel_step hb6.drew hB7; (try simp only [World.size_drew] at hB7); have hy7 := hB7.size; (try simp only [World.size_drew] at hy7)) | (go_at_call 31; have hX := HM.out _ v9 ((((hT1.below (Below.refl _ _).drew hT1.1).below hB7 (by omega)).below hB8 (by omega)).below hB9 (by omega)); refine hX.mono ?_; clear hX; rintro e v10 ⟨rfl, hB10⟩; have hb10 : Below W.heap.size W v10 := bel_step hb9 hB10; have hy10 := hB10.size)))
  have hy7' := hB7.size
  try simp only [World.size_drew] at hy7'
  have hy8' := hB8.size
  try simp only [World.size_drew] at hy8'
  have hy9' := hB9.size
  try simp only [World.size_drew] at hy9'
  have hy10' := hB10.size
  try simp only [World.size_drew] at hy10'
  have hTz := hid (((((hT1.below (Below.refl _ _).drew hT1.1).below hB7 (by first | omega | (simp at *; omega))).below hB8 (by first | omega | (simp at *; omega))).below hB9 (by first | omega | (simp at *; omega))).below hB10 (by first | omega | (simp at *; omega)))
  have hIz := hid (hI.out.below hb10 (Nat.le_refl _))
  have hyz := hb10.size
  go_wp2_with fail
  refine (toStack_any a len cap zs _ hIz.out (by omega)).mono ?_
  rintro e y1 ⟨rfl, hE1, hSy, hzy⟩
  go_wp2_with fail
  refine (eqStack_same _ _ len len len zs y1 (hTz.out.below hE1 (by omega)) hSy hn.out).mono ?_
  rintro e y2 ⟨rfl, hE2⟩
  go_wp2_with fail
  go_ret
  exact ⟨rfl, bE.out.trans (((hb10.trans (hE1.mono (by omega))).trans (hE2.mono (by have := hE1.size; omega))).mono (by have := SW.out; omega))⟩
set_option maxHeartbeats 2000000 in
theorem law_FnExactValidFlow (p q : Int) (w : World) (hp : I64 p) (hq : I64 q) :
    Calls Try.prog 5 #[.agg #[.int .i64 p, .int .i64 q]] w fun e w' => e = .returned (.bool true) ∧ Below w.heap.size w w' := by
  have HS := hid (fun w => specValidFlow_any p q w)
  have HM := hid (fun w => implValidFlow_any p q w)
  obtain ⟨b, hb⟩ : ∃ b, b = okF p q := ⟨_, rfl⟩
  rw [← hb] at HS HM
  clear hb hp hq
  have Q0 := hid (Row.new w 35 [.int .i64 p, .int .i64 q])
  have b0 := hid (box2_bel w 35 (.int .i64 p) (.int .i64 q))
  cases b
  all_goals
    go_enter Try.func5, Try.ntmps5
    go_wp2_with fail
    refine (toFlow_any p q _).mono ?_
    rintro e w1 ⟨rfl, hB1⟩
    have hz1 := hB1.size
    simp only [World.size_alloc] at hB1 hz1
    go_wp2_with fail
    refine (HS.out _).mono ?_
    rintro e w2 ⟨rfl, hB2⟩
    have hz2 := hB2.size
    have Q2 := (Q0.out.below hB1 (by omega)).below hB2 (by omega)
    have c0 := Q2.cell 0
    have c1 := Q2.cell 1
    simp only [List.getElem?_cons_zero, List.getElem?_cons_succ] at c0 c1
    have b2 := hid (b0.out.trans ((hB1.mono (by omega)).trans (hB2.mono (by omega))))
    clear hB1 hB2 Q2
    go_wp2_with fail
    refine (toFlow_any p q _).mono ?_
    rintro e w3 ⟨rfl, hB3⟩
    have hz3 := hB3.size
    clear c0 c1
    go_wp2_with fail
    refine (HM.out _).mono ?_
    rintro e w4 ⟨rfl, hB4⟩
    have b4 := hid (b2.out.trans ((hB3.mono (by omega)).trans (hB4.mono (by omega))))
    clear hB3 hB4
    go_wp2_with fail
    go_ret
    exact ⟨rfl, b4.out⟩
end Go.Proofs.Ytbkfcklckngcbaa
