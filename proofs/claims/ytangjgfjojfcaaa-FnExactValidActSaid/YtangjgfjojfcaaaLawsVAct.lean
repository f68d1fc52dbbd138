/- The walk of the law over ValidAct. -/
import Derived.Test.YtangjgfjojfcaaaAct
namespace Go.Proofs.Ytangjgfjojfcaaa
open Go.RowKit
set_option maxHeartbeats 2000000 in
theorem law_FnExactValidAct (k n : Int) (w : World) (hp : -128 ≤ k ∧ k ≤ 127) (hq : I64 n) :
    Calls Try.prog 5 #[.agg #[.int .i8 k, .int .i64 n]] w fun e w' => e = .returned (.bool true) ∧ Below w.heap.size w w' := by
  have HS := hid (fun w => specValidAct_any k n w)
  have HM := hid (fun w => implValidAct_any k n w)
  obtain ⟨b, hb⟩ : ∃ b, b = okAct k n := ⟨_, rfl⟩
  rw [← hb] at HS HM
  clear hb hp hq
  have Q0 := hid (Row.new w 38 [.int .i8 k, .int .i64 n])
  have b0 := hid (box2_bel w 38 (.int .i8 k) (.int .i64 n))
  cases b
  all_goals
    go_enter Try.func5, Try.ntmps5
    go_wp2_with fail
    refine (toAct_any k n _).mono ?_
    rintro e w1 ⟨rfl, hB1⟩
    have hz1 := hB1.size
    simp only [World.size_alloc] at hB1 hz1
    go_wp2_with fail
    refine (HS.out _).mono ?_
    rintro e w2 ⟨rfl, hB2⟩
    have hz2 := hB2.size
    have Q2 := (Q0.out.below hB1 (by omega)).below hB2 (by omega)
    have c0 := Q2.cell 0
    have c1 := Q2.cell 1
    simp only [List.getElem?_cons_zero, List.getElem?_cons_succ] at c0 c1
    have b2 := hid (b0.out.trans ((hB1.mono (by omega)).trans (hB2.mono (by omega))))
    clear hB1 hB2 Q2
    go_wp2_with fail
    refine (toAct_any k n _).mono ?_
    rintro e w3 ⟨rfl, hB3⟩
    have hz3 := hB3.size
    clear c0 c1
    go_wp2_with fail
    refine (HM.out _).mono ?_
    rintro e w4 ⟨rfl, hB4⟩
    have b4 := hid (b2.out.trans ((hB3.mono (by omega)).trans (hB4.mono (by omega))))
    clear hB3 hB4
    go_wp2_with fail
    go_ret
    exact ⟨rfl, b4.out⟩
end Go.Proofs.Ytangjgfjojfcaaa
