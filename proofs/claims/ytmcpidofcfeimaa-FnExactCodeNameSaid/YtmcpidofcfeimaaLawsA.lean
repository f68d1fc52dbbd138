/- The walks of laws over stacks alone. -/
import Derived.Test.YtmcpidofcfeimaaValid
import Derived.Test.YtmcpidofcfeimaaOpen
import Derived.Test.YtmcpidofcfeimaaSame
namespace Go.Proofs.Ytmcpidofcfeimaa
open Go.RowKit
set_option maxHeartbeats 1000000 in
theorem law_FnExactValidStack (a : Option Addr) (len cap : Nat) (zs : List Int) (w : World) (h : InB w a len zs) :
    Calls Try.prog 4 #[.slice a len cap] w fun e w' => e = .returned (.bool true) ∧ Below w.heap.size w w' := by
  by_cases hl : 1048576 < len
  · go_enter Try.func4, Try.ntmps4
    go_wp2
    go_ret
    exact ⟨rfl, Below.refl _ _⟩
  have hI := hid h
  have hL := hid h.1
  clear h
  have hb : (okL zs != okL zs) = false := by simp
  go_enter Try.func4, Try.ntmps4
  go_wp2_with fail
  refine (toStack_any a len cap zs _ hI.out (by omega)).mono ?_
  rintro e w1 ⟨rfl, hB1, hS1, hz1⟩
  go_wp2_with fail
  refine (specValidStack_any _ _ _ zs _ hS1 hL.out.symm).mono ?_
  rintro e w' ⟨rfl, rfl⟩
  go_wp2_with fail
  have hI1 := hid (hI.out.below hB1 (Nat.le_refl _))
  refine (toStack_any a len cap zs _ hI1.out (by omega)).mono ?_
  rintro e w2 ⟨rfl, hB2, hS2, hz2⟩
  go_wp2_with fail
  refine (validStack_any _ _ _ zs _ hS2 hL.out.symm).mono ?_
  rintro e w' ⟨rfl, rfl⟩
  go_wp2_with fail
  have hI2 := hid (hI1.out.below hB2 (Nat.le_refl _))
  refine (toStack_any a len cap zs _ hI2.out (by omega)).mono ?_
  rintro e w3 ⟨rfl, hB3, hS3, hz3⟩
  go_wp2_with fail
  refine (eqStack_same _ _ _ _ _ zs _ (hS2.below hB3 hz2) hS3 hL.out.symm).mono ?_
  rintro e w4 ⟨rfl, hB4⟩
  go_wp2_with fail
  go_ret
  exact ⟨rfl, hB1.trans ((hB2.mono (by omega)).trans ((hB3.mono (by omega)).trans (hB4.mono (by omega))))⟩
set_option maxHeartbeats 2000000 in
theorem law_FnExactCodeName (n : Int) (w : World) (_ : (Lit.int .i64 n).wf = true) :
    Calls Try.prog 3 #[.int .i64 n] w fun e w' => e = .returned (.bool true) ∧ Below w.heap.size w w' := by
  by_cases h : 0 ≤ n ∧ n ≤ 8
  · obtain ⟨k, rfl⟩ := Int.eq_ofNat_of_zero_le h.1
    have hk : k = 0 ∨ k = 1 ∨ k = 2 ∨ k = 3 ∨ k = 4 ∨ k = 5 ∨ k = 6 ∨ k = 7 ∨ k = 8 := by omega
    clear h
    rcases hk with rfl | rfl | rfl | rfl | rfl | rfl | rfl | rfl | rfl
    all_goals
      go_enter Try.func3, Try.ntmps3
      go_wp2
      go_ret
      exact ⟨rfl, (Below.refl _ _).alloc (Nat.le_refl _) _⟩
  · have e0 : (n == 0) = false := by simp; omega
    have e1 : (n == 1) = false := by simp; omega
    have e2 : (n == 2) = false := by simp; omega
    have e3 : (n == 3) = false := by simp; omega
    have e4 : (n == 4) = false := by simp; omega
    have e5 : (n == 5) = false := by simp; omega
    have e6 : (n == 6) = false := by simp; omega
    have e7 : (n == 7) = false := by simp; omega
    have e8 : (n == 8) = false := by simp; omega
    go_enter Try.func3, Try.ntmps3
    go_wp2_with (first | (go_at_call 45; refine (inr_no _ _ _ _ (by omega)).mono ?_; rintro e w' ⟨rfl, rfl⟩) | go_in)
    go_ret
    exact ⟨rfl, (Below.refl _ _).alloc (Nat.le_refl _) _⟩

set_option maxHeartbeats 2000000 in
theorem law_FnExactSameStack (a : Option Addr) (len cap : Nat) (zs : List Int) (a' : Option Addr) (len' cap' : Nat) (zs' : List Int) (w : World) (h : InB w a len zs) (h' : InB w a' len' zs') :
    Calls Try.prog 5 #[.slice a len cap, .slice a' len' cap'] w fun e w' => e = .returned (.bool true) ∧ Below w.heap.size w w' := by
  by_cases hl : 1048576 < len
  · go_enter Try.func5, Try.ntmps5
    go_wp2
    go_ret
    exact ⟨rfl, Below.refl _ _⟩
  by_cases hl' : 1048576 < len'
  · go_enter Try.func5, Try.ntmps5
    go_wp2
    go_ret
    exact ⟨rfl, Below.refl _ _⟩
  have hI := hid h
  have hL := hid h.1
  have hI' := hid h'
  have hL' := hid h'.1
  clear h h'
  have hb : (sameL zs zs' != sameL zs zs') = false := by simp
  go_enter Try.func5, Try.ntmps5
  go_wp2_with fail
  refine (toStack_any a len cap zs _ hI.out (by omega)).mono ?_
  rintro e w1 ⟨rfl, hB1, hS1, hz1⟩
  go_wp2_with fail
  have hJ1 := hid (hI'.out.below hB1 (Nat.le_refl _))
  refine (toStack_any a' len' cap' zs' _ hJ1.out (by omega)).mono ?_
  rintro e w2 ⟨rfl, hB2, hS2, hz2⟩
  go_wp2_with fail
  refine (specSame_any _ _ _ _ _ _ zs zs' _ (hS1.below hB2 hz1) hS2 hL.out.symm hL'.out.symm).mono ?_
  rintro e w3 ⟨rfl, hB3⟩
  go_wp2_with fail
  have hB13 : Below w.heap.size w w3 := hB1.trans ((hB2.mono (by omega)).trans (hB3.mono (by omega)))
  have hz3 := hB3.size
  have hI3 := hid (hI.out.below hB13 (Nat.le_refl _))
  have hJ3 := hid (hI'.out.below hB13 (Nat.le_refl _))
  clear hS1 hS2
  refine (toStack_any a len cap zs _ hI3.out (by omega)).mono ?_
  rintro e w4 ⟨rfl, hB4, hS4, hz4⟩
  go_wp2_with fail
  have hJ4 := hid (hJ3.out.below hB4 (Nat.le_refl _))
  refine (toStack_any a' len' cap' zs' _ hJ4.out (by omega)).mono ?_
  rintro e w5 ⟨rfl, hB5, hS5, hz5⟩
  go_wp2_with fail
  have hS4' := hid (hS4.below hB5 hz4)
  have hS5' := hid hS5
  refine (implSame_any _ _ _ _ _ _ zs zs' _ hS4'.out hS5 hL.out.symm hL'.out.symm).mono ?_
  rintro e w6 ⟨rfl, hB6⟩
  go_wp2_with fail
  have hz6 := hB6.size
  have hB36 : Below w3.heap.size w3 w6 := hB4.trans ((hB5.mono (by omega)).trans (hB6.mono (by omega)))
  have hI6 := hid (hI3.out.below hB36 (Nat.le_refl _))
  have hJ6 := hid (hJ3.out.below hB36 (Nat.le_refl _))
  refine (toStack_any a len cap zs _ hI6.out (by omega)).mono ?_
  rintro e w7 ⟨rfl, hB7, hS7, hz7⟩
  go_wp2_with fail
  have hS4'' := hid ((hS4'.out.below hB6 (by omega)).below hB7 (by omega))
  refine (eqStack_same _ _ _ _ _ zs _ hS4''.out hS7 hL.out.symm).mono ?_
  rintro e w8 ⟨rfl, hB8⟩
  go_wp2_with fail
  have hz8 := hB8.size
  have hB68 : Below w6.heap.size w6 w8 := hB7.trans (hB8.mono (by omega))
  have hJ8 := hid (hJ6.out.below hB68 (Nat.le_refl _))
  refine (toStack_any a' len' cap' zs' _ hJ8.out (by omega)).mono ?_
  rintro e w9 ⟨rfl, hB9, hS9, hz9⟩
  go_wp2_with fail
  have hS5'' := hid (((hS5'.out.below hB6 hz5).below hB68 (by omega)).below hB9 (by omega))
  refine (eqStack_same _ _ _ _ _ zs' _ hS5''.out hS9 hL'.out.symm).mono ?_
  rintro e w10 ⟨rfl, hB10⟩
  go_wp2_with fail
  go_ret
  exact ⟨rfl, hB13.trans ((hB36.mono (by omega)).trans ((hB68.mono (by omega)).trans ((hB9.mono (by omega)).trans (hB10.mono (by omega)))))⟩
end Go.Proofs.Ytmcpidofcfeimaa
