/- A ticket is like itself. -/
import Derived.Test.YtcbhlljgcndhdaaGreatDoorRkM
namespace Go.Proofs.YtcbhlljgcndhdaaGreatDoor
open Go.RowKit
set_option linter.unusedVariables false
set_option linter.unusedSimpArgs false
set_option maxRecDepth 100000 in
set_option maxHeartbeats 4000000 in
theorem eqTicket_same (n d0 d1 d2 d3 d4 d5 d6 d7 c : Int) (w : World) :
    Calls Tryz.prog 7 #[.agg #[.int .i64 n, .int .u8 d0, .int .u8 d1, .int .u8 d2, .int .u8 d3, .int .u8 d4, .int .u8 d5, .int .u8 d6, .int .u8 d7, .int .u16 c], .agg #[.int .i64 n, .int .u8 d0, .int .u8 d1, .int .u8 d2, .int .u8 d3, .int .u8 d4, .int .u8 d5, .int .u8 d6, .int .u8 d7, .int .u16 c]] w fun e w' => e = .returned (.bool true) ∧ Below w.heap.size w w' := by
  obtain ⟨TC, hTC⟩ : ∃ t, t = #[Value.int .i64 n, .int .u8 d0, .int .u8 d1, .int .u8 d2, .int .u8 d3, .int .u8 d4, .int .u8 d5, .int .u8 d6, .int .u8 d7, .int .u16 c] := ⟨_, rfl⟩
  obtain ⟨W, hW⟩ : ∃ W, W = (w.alloc (.cells TC 27)).alloc (.cells TC 27) := ⟨_, rfl⟩
  have bel : Below w.heap.size w W := by rw [hW]; exact ((Below.refl _ w).alloc (Nat.le_refl _) _).alloc (by simp) _
  have r1 : Row W w.heap.size 27 TC.toList := by rw [hW]; exact (Row.new w _ _).alloc _
  have r2 : Row W (w.heap.size + 1) 27 TC.toList := by
    have h := Row.new (w.alloc (.cells TC 27)) 27 TC.toList
    simp only [World.size_alloc] at h
    rw [hW]; exact h
  have n1 : (n != n) = false := by simp
  have n2 : (c != c) = false := by simp
  rw [hTC] at r1 r2 hW
  have R1 := hid r1
  have R2 := hid r2
  have l1 := r1.lt
  have l2 := r2.lt
  have BE := hid bel
  have HW := hid hW
  have p0 := r1.cell 0; have q0 := r2.cell 0; have p1 := r1.cell 1; have q1 := r2.cell 1; have p2 := r1.cell 2; have q2 := r2.cell 2; have p3 := r1.cell 3; have q3 := r2.cell 3; have p4 := r1.cell 4; have q4 := r2.cell 4; have p5 := r1.cell 5; have q5 := r2.cell 5; have p6 := r1.cell 6; have q6 := r2.cell 6; have p7 := r1.cell 7; have q7 := r2.cell 7; have p8 := r1.cell 8; have q8 := r2.cell 8; have p9 := r1.cell 9; have q9 := r2.cell 9
  simp only [List.getElem?_cons_zero, List.getElem?_cons_succ] at p0 q0 p1 q1 p2 q2 p3 q3 p4 q4 p5 q5 p6 q6 p7 q7 p8 q8 p9 q9
  clear r1 r2 bel hW hTC
  go_enter Tryz.func7, Tryz.ntmps7
  go_upto_region 1 with fail
  rw [← HW.out]
  go_wp2_with fail
  refine (eqDigits_same _ _ _ _ _ _ _ _ _).mono ?_
  rintro e w1 ⟨rfl, hB1⟩
  have s1 := R1.out.below hB1 l1
  have s2 := R2.out.below hB1 l2
  clear p0 q0 p1 q1 p2 q2 p3 q3 p4 q4 p5 q5 p6 q6 p7 q7 p8 q8 p9 q9
  have p9 := s1.cell 9; have q9 := s2.cell 9
  simp only [List.getElem?_cons_zero, List.getElem?_cons_succ] at p9 q9
  clear s1 s2
  go_wp2_with fail
  go_ret
  exact ⟨rfl, BE.out.trans (hB1.mono BE.out.size)⟩
end Go.Proofs.YtcbhlljgcndhdaaGreatDoor
