/- The walk of the law over FirstForged. -/
import Derived.Test.YtnfgapgjkkeofaaFf
import Derived.Test.YtnfgapgjkkeofaaTicksO
namespace Go.Proofs.Ytnfgapgjkkeofaa
open Go.RowKit
set_option linter.unusedVariables false
set_option linter.unusedSimpArgs false
set_option maxHeartbeats 4000000 in
theorem law_FnExactFirstForged (a : Option Addr) (len cap : Nat) (zs : List Int) (a' : Option Addr) (len' cap' : Nat) (ts : List (Nat → Int)) (w : World) (h : InB w a len zs) (hl' : len' ≤ 9223372036854775807) (h' : InT w a' len' ts) :
    Calls Try.prog 3 #[.slice a len cap, .slice a' len' cap'] w fun e w' => e = .returned (.bool true) ∧ Below w.heap.size w w' := by
  by_cases hs : 1048576 < len
  · clear h h'
    go_enter Try.func3, Try.ntmps3
    go_wp2
    go_ret
    exact ⟨rfl, Below.refl _ _⟩
  by_cases hs' : 1048576 < len'
  · have HZ := hid (fun w => szTicks_no a' len' cap' w hs' hl')
    clear h h'
    go_enter Try.func3, Try.ntmps3
    go_wp2_with fail
    refine (HZ.out _).mono ?_
    rintro e w' ⟨rfl, rfl⟩
    go_wp2_with fail
    go_ret
    exact ⟨rfl, Below.refl _ _⟩
  have hle : len ≤ 1048576 := by omega
  have hle' : len' ≤ 1048576 := by omega
  have HZ := hid (fun w => szTicks_ok a' len' cap' w hle')
  have hz : (0 : Int) ≤ 1048576 - (len' : Int) := by omega
  have hI := hid h
  have hJ := hid h'
  have hn : Hid (len = zs.length) := hid h.1.symm
  have hm : Hid (len' = ts.length) := hid h'.1.symm
  have hbd := hid (fun j (hj : j < ts.length) => h'.2.1 j (by have := hm.out; omega))
  have HS := hid (fun b b' w1 (k : Stk w1 b zs) (k' : Tst w1 b' ts) => specFirstForged_any b len len zs hn.out b' len' len' ts hm.out w1 k k' hbd.out)
  have HM := hid (fun b b' w1 (k : Stk w1 b zs) (k' : Tst w1 b' ts) => implFirstForged_any b len len zs hn.out b' len' len' ts hm.out w1 k k' hbd.out)
  obtain ⟨⟨q, c⟩, hR⟩ : ∃ r, ffR zs ts = r := ⟨_, rfl⟩
  rw [hR] at HS HM
  have fc1 : (q != q) = false := by simp
  have fc2 : (c != c) = false := by simp
  clear hR h h' hl' hs hs'
  go_enter Try.func3, Try.ntmps3
  go_wp2_with fail
  refine (HZ.out _).mono ?_
  rintro e w' ⟨rfl, rfl⟩
  go_wp2_with fail
  refine (toStack_any a len cap zs _ hI.out hle).mono ?_
  rintro e w1 ⟨rfl, hB1, hS1, hg1⟩
  have b1 := hid hB1
  go_wp2_with fail
  refine (toTicks_any a' len' cap' ts _ (hJ.out.below b1.out (Nat.le_refl _)) hle').mono ?_
  rintro e w2 ⟨rfl, hB2, hT2, hg2⟩
  have b2 := hid (b1.out.trans (hB2.mono b1.out.size))
  have hS2 := hS1.below hB2 hg1
  clear hB1 hB2 hS1 hg1 hg2
  go_wp2_with fail
  refine (HS.out _ _ w2 hS2 hT2).mono ?_
  rintro e w3 ⟨rfl, hB3⟩
  have b3 := hid (b2.out.trans (hB3.mono b2.out.size))
  clear hB3 hS2 hT2
  go_wp2_with fail
  refine (toStack_any a len cap zs _ (hI.out.below b3.out (Nat.le_refl _)) hle).mono ?_
  rintro e w4 ⟨rfl, hB4, hS4, hg4⟩
  have b4 := hid (b3.out.trans (hB4.mono b3.out.size))
  have S4 := hid hS4
  clear hB4 hS4
  go_wp2_with fail
  refine (toTicks_any a' len' cap' ts _ (hJ.out.below b4.out (Nat.le_refl _)) hle').mono ?_
  rintro e w5 ⟨rfl, hB5, hT5, hg5⟩
  have b5 := hid (b4.out.trans (hB5.mono b4.out.size))
  have S5 := hid (S4.out.below hB5 S4.out.1)
  have T5 := hid hT5
  clear hB5 hT5 hg4 hg5
  go_wp2_with fail
  refine (HM.out _ _ w5 S5.out T5.out).mono ?_
  rintro e w6 ⟨rfl, hB6⟩
  have b6 := hid (b5.out.trans (hB6.mono b5.out.size))
  have S6 := hid (S5.out.below hB6 S5.out.1)
  have T6 := hid (T5.out.below hB6 T5.out.1)
  clear hB6
  go_wp2_with fail
  refine (toStack_any a len cap zs _ (hI.out.below b6.out (Nat.le_refl _)) hle).mono ?_
  rintro e w7 ⟨rfl, hB7, hS7, hg7⟩
  have b7 := hid (b6.out.trans (hB7.mono b6.out.size))
  have S7 := hid (S6.out.below hB7 S6.out.1)
  have T7 := hid (T6.out.below hB7 T6.out.1)
  clear hB7
  go_wp2_with fail
  refine (eqStack_same _ _ len len len zs w7 S7.out hS7 hn.out).mono ?_
  rintro e w8 ⟨rfl, hB8⟩
  have b8 := hid (b7.out.trans (hB8.mono b7.out.size))
  have T8 := hid (T7.out.below hB8 T7.out.1)
  clear hB8 hS7 hg7
  go_wp2_with fail
  refine (toTicks_any a' len' cap' ts _ (hJ.out.below b8.out (Nat.le_refl _)) hle').mono ?_
  rintro e w9 ⟨rfl, hB9, hT9, hg9⟩
  have b9 := hid (b8.out.trans (hB9.mono b8.out.size))
  have T9 := hid (T8.out.below hB9 T8.out.1)
  clear hB9
  go_wp2_with fail
  refine (eqTicks_same _ _ len' len' len' ts w9 T9.out hT9 hm.out).mono ?_
  rintro e w10 ⟨rfl, hB10⟩
  have b10 := hid (b9.out.trans (hB10.mono b9.out.size))
  clear hB10
  go_wp2_with fail
  go_ret
  exact ⟨rfl, b10.out⟩
end Go.Proofs.Ytnfgapgjkkeofaa
