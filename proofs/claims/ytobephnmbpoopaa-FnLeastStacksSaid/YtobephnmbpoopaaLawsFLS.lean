/- The law on least stacks: FnLeastStacks. -/
import Derived.Test.YtobephnmbpoopaaFlsT
namespace Go.Proofs.Ytobephnmbpoopaa
open Go.RowKit
set_option linter.unusedVariables false
set_option linter.unusedSimpArgs false
set_option maxRecDepth 100000 in
set_option maxHeartbeats 1000000 in
theorem law_FnLeastStacks (a : Option Addr) (len cap : Nat) (zs : List Int) (a' : Option Addr) (len' cap' : Nat) (zs' : List Int) (w : World) (h : InB w a len zs) (h' : InB w a' len' zs') :
    Calls Try.prog 3 #[.slice a len cap, .slice a' len' cap'] w fun e w' => e = .returned (.bool true) ∧ Below w.heap.size w w' := by
  by_cases hl : len ≤ 4096
  · by_cases hl' : len' ≤ 4096
    · exact law_FnLeastStacks_in a len cap zs a' len' cap' zs' w h h' hl hl'
    · have F1 := hid (f6big_no a len cap w hl); have F2 := hid (f6big_yes a' len' cap' w (by omega))
      clear h h' hl hl'
      go_enter Try.func3, Try.ntmps3
      go_wp2_with fail
      refine F1.out.mono ?_
      rintro e w1 ⟨rfl, hw⟩
      subst hw
      go_wp2_with fail
      refine F2.out.mono ?_
      rintro e w2 ⟨rfl, hw⟩
      subst hw
      go_wp2_with fail
      go_ret
      exact ⟨rfl, Below.refl _ _⟩
  · have F1 := hid (f6big_yes a len cap w (by omega))
    clear h h' hl
    go_enter Try.func3, Try.ntmps3
    go_wp2_with fail
    refine F1.out.mono ?_
    rintro e w1 ⟨rfl, hw⟩
    subst hw
    go_wp2_with fail
    go_ret
    exact ⟨rfl, Below.refl _ _⟩
end Go.Proofs.Ytobephnmbpoopaa
