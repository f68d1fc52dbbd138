/- The walk of the law over MakeRatio. -/
import Derived.Test.YtgomeeheleiapaaMade
import Derived.Test.YtgomeeheleiapaaOpenR
namespace Go.Proofs.Ytgomeeheleiapaa
open Go.RowKit
set_option maxHeartbeats 2000000 in
theorem law_FnExactMakeRatio (p q : Int) (w : World) (hp : (Lit.int .i64 p).wf = true) (hq : (Lit.int .i64 q).wf = true) :
    Calls Try.prog 4 #[.int .i64 p, .int .i64 q] w fun e w' => e = .returned (.bool true) ∧ Below w.heap.size w w' := by
  have HS := hid (fun w => specMakeRatio_any p q (wf64 hp) (wf64 hq) w)
  have HM := hid (fun w => implMakeRatio_any p q (wf64 hp) (wf64 hq) w)
  obtain ⟨⟨⟨x, y⟩, c⟩, hm⟩ : ∃ m, m = makeR p q := ⟨_, rfl⟩
  rw [← hm] at HS HM
  unfold pairV at HS HM
  simp only at HS HM
  have d1 : (c != c) = false := by simp
  clear hm hp hq
  go_enter Try.func4, Try.ntmps4
  go_wp2_with fail
  refine (HS.out _).mono ?_
  rintro e w1 ⟨rfl, hB1⟩
  have hz1 := hB1.size
  have q1 := hid (nilpair_new w1 25 (.int .i64 x) (.int .i64 y))
  have b1 := hid (hB1.alloc hz1 (.cells #[.int .i64 x, .int .i64 y] 25))
  clear hB1
  go_wp2_with fail
  refine (HM.out _).mono ?_
  rintro e w2 ⟨rfl, hB2⟩
  have hz2 := hB2.size
  simp only [World.size_alloc] at hB2 hz2
  have Q1 := (q1.out.below hB2 (by omega)).alloc (.cells #[.int .i64 x, .int .i64 y] 25)
  have Q2 := nilpair_new w2 25 (.int .i64 x) (.int .i64 y)
  have b2 := hid ((b1.out.trans (hB2.mono (by omega))).alloc (show w.heap.size ≤ w2.heap.size by omega) (.cells #[.int .i64 x, .int .i64 y] 25))
  clear hB2
  have c0 := Q1.cell 0
  have c1 := Q1.cell 1
  have c2 := Q2.cell 0
  have c3 := Q2.cell 1
  simp only [List.getElem?_cons_zero, List.getElem?_cons_succ] at c0 c1 c2 c3
  clear Q1 Q2
  go_wp2_with fail
  refine (eqRatio_same x y _).mono ?_
  rintro e w3 ⟨rfl, hB3⟩
  simp only [World.size_alloc] at hB3
  clear c0 c1 c2 c3
  go_wp2_with fail
  go_ret
  exact ⟨rfl, b2.out.trans (hB3.mono (by omega))⟩
end Go.Proofs.Ytgomeeheleiapaa
