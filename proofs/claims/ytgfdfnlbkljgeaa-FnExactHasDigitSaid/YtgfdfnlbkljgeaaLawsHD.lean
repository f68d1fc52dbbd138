/- The walk of the law HasDigit. -/
import Derived.Test.YtgfdfnlbkljgeaaPhB
import Derived.Test.YtgfdfnlbkljgeaaPhO
namespace Go.Proofs.Ytgfdfnlbkljgeaa
open Go.RowKit
set_option maxRecDepth 100000 in
set_option maxHeartbeats 4000000 in
theorem law_FnExactHasDigit (ps : List (Int × Int)) (x1 x2 : Int) (w : World) (hp : Ph ps) (_ : (Lit.int .i64 x1).wf = true) (_ : (Lit.int .i64 x2).wf = true) :
    Calls Try.prog 6 #[.agg (phL ps).toArray, .int .i64 x1, .int .i64 x2] w fun e w' => e = .returned (.bool true) ∧ Below w.heap.size w w' := by
  have r1 := Row.new w 25 (phL ps)
  have hB : Below w.heap.size w (w.alloc (.cells (phL ps).toArray 25)) := (Below.refl _ _).alloc (Nat.le_refl _) _
  have hi := Try.infoPhoto'
  have hb : (hasW ps x1 x2 != hasW ps x1 x2) = false := by simp
  have HP := hid hp
  have HB := hid hB
  clear hp hB
  go_enter Try.func6, Try.ntmps6
  go_wp2_with (refine wpList_load_row rfl 25 _ rfl w.heap.size rfl 25 (phL ps).toArray (0, 0) _ r1 Try.underlying25 rfl (by rw [hi]; simp [phL_len]) ?_)
  refine (toPhoto_any ps _).mono ?_
  rintro e w1 ⟨rfl, hB1⟩
  go_wp2_with fail
  refine (specHasDigit_any ps x1 x2 w1 HP.out).mono ?_
  rintro e w2 ⟨rfl, hB2⟩
  have hz1 := hB1.size; have hz2 := hB2.size
  simp only [World.size_alloc] at hB1 hz1
  have r2 := (r1.below hB1 (by omega)).below hB2 (by omega)
  have b2 := hid (HB.out.trans ((hB1.mono (by omega)).trans (hB2.mono (by omega))))
  clear r1 hB1 hB2
  go_wp2_with (refine wpList_load_row rfl 25 _ rfl w.heap.size rfl 25 (phL ps).toArray (0, 0) _ r2 Try.underlying25 rfl (by rw [hi]; simp [phL_len]) ?_)
  refine (toPhoto_any ps _).mono ?_
  rintro e w3 ⟨rfl, hB3⟩
  have hz3 := hB3.size
  go_wp2_with fail
  refine (implHasDigit_any ps x1 x2 w3 HP.out).mono ?_
  rintro e w4 ⟨rfl, hB4⟩
  go_wp2_with fail
  go_ret
  exact ⟨rfl, b2.out.trans ((hB3.mono (by omega)).trans (hB4.mono (by omega)))⟩
end Go.Proofs.Ytgfdfnlbkljgeaa
