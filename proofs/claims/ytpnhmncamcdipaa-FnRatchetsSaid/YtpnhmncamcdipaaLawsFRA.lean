/- The law on ratchets: FnRatchets. -/
import Derived.Test.YtpnhmncamcdipaaLawsRAT
namespace Go.Proofs.Ytpnhmncamcdipaa
open Go.RowKit
set_option linter.unusedVariables false
set_option linter.unusedSimpArgs false
set_option maxRecDepth 100000 in
set_option maxHeartbeats 1000000 in
theorem law_FnRatchets (a : Option Addr) (len cap : Nat) (zs : List Int) (a' : Option Addr) (len' cap' : Nat) (zs' : List Int) (w : World) (h : InB w a len zs) (h' : InB w a' len' zs') :
    Calls Try.prog 3 #[.slice a len cap, .slice a' len' cap'] w fun e w' => e = .returned (.bool true) ∧ Below w.heap.size w w' := by
  by_cases hl : len ≤ 3000 ∧ len' ≤ 3000
  · exact law_FnRatchets_in a len cap zs a' len' cap' zs' w h h' hl.1 hl.2
  · have F1 := hid (a2Long_yes a len cap a' len' cap' w (by omega))
    clear h h' hl
    go_enter Try.func3, Try.ntmps3
    go_wp2_with fail
    refine F1.out.mono ?_
    rintro e w1 ⟨rfl, hw⟩
    subst hw
    go_wp2_with fail
    go_ret
    exact ⟨rfl, Below.refl _ _⟩
end Go.Proofs.Ytpnhmncamcdipaa
