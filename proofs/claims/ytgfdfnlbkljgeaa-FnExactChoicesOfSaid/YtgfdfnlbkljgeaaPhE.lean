/- Photos that are equal. -/
import Derived.Test.YtgfdfnlbkljgeaaPhA
namespace Go.Proofs.Ytgfdfnlbkljgeaa
open Go.RowKit
set_option maxHeartbeats 400000 in
theorem eqMarks_same (x y : Int) (w : World) :
    Calls Try.prog 49 #[.agg #[.int .u64 x, .int .u64 y], .agg #[.int .u64 x, .int .u64 y]] w fun e w' => e = .returned (.bool true) ∧ Below w.heap.size w w' := by
  go_enter Try.func49, Try.ntmps49
  go_wp2
  refine wp_loop_rounds 3 ?_
  iterate 2 (rw [rounds_succ]; go_wp2; go_quiet (fail); go_wp2)
  rw [rounds_succ]
  go_wp2
  go_ret
  exact ⟨rfl, below_drewN (((Below.refl _ _).alloc (Nat.le_refl _) _).alloc (by simp) _) _⟩
set_option maxHeartbeats 1000000 in
theorem eqPhoto_same (ps : List (Int × Int)) (w : World) :
    Calls Try.prog 21 #[.agg (phL ps).toArray, .agg (phL ps).toArray] w fun e w' => e = .returned (.bool true) ∧ Below w.heap.size w w' := by
  have r1 := (Row.new w 31 (phL ps)).alloc (.cells (phL ps).toArray 31)
  have r2 := Row.new (w.alloc (.cells (phL ps).toArray 31)) 31 (phL ps)
  have hB : Below w.heap.size w ((w.alloc (.cells (phL ps).toArray 31)).alloc (.cells (phL ps).toArray 31)) := ((Below.refl _ _).alloc (Nat.le_refl _) _).alloc (by simp) _
  simp only [World.size_alloc] at r2
  go_enter Try.func21, Try.ntmps21
  go_wp2_with fail
  go_loopw [5] (fun i wr => ∃ k : Nat, k ≤ 8 ∧ i = .int .i64 k ∧ Row wr w.heap.size 31 (phL ps) ∧ Row wr (w.heap.size + 1) 31 (phL ps) ∧ Below w.heap.size w wr) (fun i _ => 8 - (intOf i).toNat)
  case atStart => exact ⟨0, Nat.zero_le _, rfl, r1, r2, hB⟩
  case round =>
    clear r1 r2 hB
    obtain ⟨k, hk, rfl, r1, r2, hB⟩ := hrel
    by_cases hlt : k < 8
    · obtain ⟨p1, p2⟩ := phL_at ps k hlt
      have x1 := (r1.cell (k * 2)).trans p1
      have x2 := (r1.cell (k * 2 + 1)).trans p2
      have y1 := (r2.cell (k * 2)).trans p1
      have y2 := (r2.cell (k * 2 + 1)).trans p2
      have hlt' : (k : Int) < 8 := by omega
      have hk0 : (0 : Int) ≤ (k : Int) := by omega
      have hzr := hB.size
      have HR1 := hid r1
      have HR2 := hid r2
      obtain ⟨x, hx⟩ : ∃ x, x = pa ps k := ⟨_, rfl⟩
      obtain ⟨y, hy⟩ : ∃ y, y = pb ps k := ⟨_, rfl⟩
      rw [← hx] at x1 y1
      rw [← hy] at x2 y2
      clear hx hy p1 p2
      have l2 := r2.lt
      have l1 : w.heap.size < wr.heap.size := by omega
      clear r1 r2
      go_wp2_with fail
      go_region_held3 (fun w' => w'.cell? ⟨w.heap.size, k * 2, none⟩ = some (.int .u64 x) ∧ w'.cell? ⟨w.heap.size, k * 2 + 1, none⟩ = some (.int .u64 y) ∧ w'.cell? ⟨w.heap.size + 1, k * 2, none⟩ = some (.int .u64 x) ∧ w'.cell? ⟨w.heap.size + 1, k * 2 + 1, none⟩ = some (.int .u64 y)) (first | exact hq | exact ⟨x1, x2, y1, y2⟩) ((go_at_call 49; have hX := eqMarks_same x y wr.drew; refine hX.mono ?_; clear hX; rintro e w1 ⟨rfl, hB1⟩; have hq := And.intro ((hB1.cell (p := ⟨w.heap.size, k * 2, none⟩) l1).trans x1) (And.intro ((hB1.cell (p := ⟨w.heap.size, k * 2 + 1, none⟩) l1).trans x2) (And.intro ((hB1.cell (p := ⟨w.heap.size + 1, k * 2, none⟩) l2).trans y1) ((hB1.cell (p := ⟨w.heap.size + 1, k * 2 + 1, none⟩) l2).trans y2)))))
      go_wp2_with fail
      all_goals go_roundw
      case rel => exact ⟨k + 1, by omega, by go_num, HR1.out.below ((Below.refl wr.heap.size wr).drew.trans hB1) l1, HR2.out.below ((Below.refl wr.heap.size wr).drew.trans hB1) l2, hB.trans ((Below.refl wr.heap.size wr).drew.mono hzr |>.trans (hB1.mono hzr))⟩
      case measure => simp [intOf]; omega
    · obtain rfl : k = 8 := by omega
      go_wp2_with fail
      go_ret
      exact ⟨rfl, hB⟩
end Go.Proofs.Ytgfdfnlbkljgeaa
