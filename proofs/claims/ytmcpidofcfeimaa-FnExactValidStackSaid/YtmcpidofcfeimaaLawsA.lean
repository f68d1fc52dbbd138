/- The walks of laws over stacks alone. -/
import Derived.Test.YtmcpidofcfeimaaValid
import Derived.Test.YtmcpidofcfeimaaOpen
namespace Go.Proofs.Ytmcpidofcfeimaa
open Go.RowKit
set_option maxHeartbeats 1000000 in
theorem law_FnExactValidStack (a : Option Addr) (len cap : Nat) (zs : List Int) (w : World) (h : InB w a len zs) :
    Calls Try.prog 4 #[.slice a len cap] w fun e w' => e = .returned (.bool true) ∧ Below w.heap.size w w' := by
  by_cases hl : 1048576 < len
  · go_enter Try.func4, Try.ntmps4
    go_wp2
    go_ret
    exact ⟨rfl, Below.refl _ _⟩
  have hI := hid h
  have hL := hid h.1
  clear h
  have hb : (okL zs != okL zs) = false := by simp
  go_enter Try.func4, Try.ntmps4
  go_wp2_with fail
  refine (toStack_any a len cap zs _ hI.out (by omega)).mono ?_
  rintro e w1 ⟨rfl, hB1, hS1, hz1⟩
  go_wp2_with fail
  refine (specValidStack_any _ _ _ zs _ hS1 hL.out.symm).mono ?_
  rintro e w' ⟨rfl, rfl⟩
  go_wp2_with fail
  have hI1 := hid (hI.out.below hB1 (Nat.le_refl _))
  refine (toStack_any a len cap zs _ hI1.out (by omega)).mono ?_
  rintro e w2 ⟨rfl, hB2, hS2, hz2⟩
  go_wp2_with fail
  refine (validStack_any _ _ _ zs _ hS2 hL.out.symm).mono ?_
  rintro e w' ⟨rfl, rfl⟩
  go_wp2_with fail
  have hI2 := hid (hI1.out.below hB2 (Nat.le_refl _))
  refine (toStack_any a len cap zs _ hI2.out (by omega)).mono ?_
  rintro e w3 ⟨rfl, hB3, hS3, hz3⟩
  go_wp2_with fail
  refine (eqStack_same _ _ _ _ _ zs _ (hS2.below hB3 hz2) hS3 hL.out.symm).mono ?_
  rintro e w4 ⟨rfl, hB4⟩
  go_wp2_with fail
  go_ret
  exact ⟨rfl, hB1.trans ((hB2.mono (by omega)).trans ((hB3.mono (by omega)).trans (hB4.mono (by omega))))⟩
end Go.Proofs.Ytmcpidofcfeimaa
