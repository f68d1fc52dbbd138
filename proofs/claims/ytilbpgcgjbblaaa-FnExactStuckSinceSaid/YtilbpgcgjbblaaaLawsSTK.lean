/- The walk of the law over StuckSince. -/
import Derived.Test.YtilbpgcgjbblaaaSkS
import Derived.Test.YtilbpgcgjbblaaaSkI
import Derived.Test.YtilbpgcgjbblaaaOpen
import Derived.Test.YtilbpgcgjbblaaaSamG
namespace Go.Proofs.Ytilbpgcgjbblaaa
open Go.RowKit
set_option linter.unusedVariables false
set_option linter.unusedSimpArgs false
set_option maxHeartbeats 4000000 in
theorem law_FnExactStuckSince (a : Option Addr) (len cap : Nat) (zs : List Int) (a' : Option Addr) (len' cap' : Nat) (js : List (Int × Int)) (x2 : Int) (w : World) (h : InB w a len zs) (hl' : len' ≤ 9223372036854775807) (h' : InR w a' len' js) (h2 : (Lit.int .i64 x2).wf = true) :
    Calls Try.prog 3 #[.slice a len cap, .slice a' len' cap', .int .i64 x2] w fun e w' => e = .returned (.bool true) ∧ Below w.heap.size w w' := by
  by_cases hs : 1048576 < len
  · clear h h'
    go_enter Try.func3, Try.ntmps3
    go_wp2
    go_ret
    exact ⟨rfl, Below.refl _ _⟩
  by_cases hs' : 1048576 < len'
  · have HZ := hid (fun w => szReads_no a' len' cap' w hs' hl')
    clear h h'
    go_enter Try.func3, Try.ntmps3
    go_wp2_with fail
    refine (HZ.out _).mono ?_
    rintro e w' ⟨rfl, rfl⟩
    go_wp2_with fail
    go_ret
    exact ⟨rfl, Below.refl _ _⟩
  have hle : len ≤ 1048576 := by omega
  have hle' : len' ≤ 1048576 := by omega
  have HZ := hid (fun w => szReads_ok a' len' cap' w hle')
  have hz : (0 : Int) ≤ 1048576 - (len' : Int) := by omega
  have hI := hid h
  have hJ := hid h'
  have hn : Hid (len = zs.length) := hid h.1.symm
  have hm : Hid (len' = js.length) := hid h'.1.symm
  have H2 := hid (wf64 h2)
  have HS := hid (fun b b' w1 (k : Stk w1 b zs) (k' : Rst w1 b' js) => specStuck_any b len len zs hn.out b' len' len' js hm.out x2 w1 k k' (Nat.le_refl _))
  have HM := hid (fun b b' w1 (k : Stk w1 b zs) (k' : Rst w1 b' js) => implStuck_any b len len zs hn.out b' len' len' js hm.out x2 w1 k k' (Nat.le_refl _) (Nat.le_refl _))
  obtain ⟨⟨o0, o1⟩, hR⟩ : ∃ r, stuckR zs js x2 = r := ⟨_, rfl⟩
  rw [hR] at HS HM
  unfold tup2 at HS HM
  simp only at HS HM
  clear hR
  have e0 : (o0 != o0) = false := by simp
  have e1 : (o1 != o1) = false := by simp
  clear h h' hl' h2 hs hs'
  go_enter Try.func3, Try.ntmps3
  go_wp2_with fail
  refine (HZ.out _).mono ?_
  rintro e w' ⟨rfl, rfl⟩
  go_wp2_with fail
  refine (toStack_any a len cap zs _ hI.out (by omega)).mono ?_
  rintro e w1 ⟨rfl, hB1, hS1, hg1⟩
  have b1 := hid hB1
  have hJ1 := hid (hJ.out.below b1.out (Nat.le_refl _))
  go_wp2_with fail
  refine (toReads_any a' len' cap' js _ hJ1.out hle').mono ?_
  rintro e w2 ⟨rfl, hB2, hT2, hg2⟩
  have b2 := hid (b1.out.trans (hB2.mono b1.out.size))
  have hS2 := hS1.below hB2 hg1
  go_wp2_with fail
  refine (HS.out _ _ w2 hS2 hT2).mono ?_
  rintro e w3 ⟨rfl, hB3⟩
  have b3 := hid (b2.out.trans (hB3.mono b2.out.size))
  have hI3 := hid (hI.out.below b3.out (Nat.le_refl _))
  clear hB1 hB2 hB3 hS1 hS2 hT2
  go_wp2_with fail
  refine (toStack_any a len cap zs _ hI3.out (by omega)).mono ?_
  rintro e w4 ⟨rfl, hB4, hS4, hg4⟩
  have b4 := hid (b3.out.trans (hB4.mono b3.out.size))
  have hJ4 := hid (hJ.out.below b4.out (Nat.le_refl _))
  go_wp2_with fail
  refine (toReads_any a' len' cap' js _ hJ4.out hle').mono ?_
  rintro e w5 ⟨rfl, hB5, hT5, hg5⟩
  have b5 := hid (b4.out.trans (hB5.mono b4.out.size))
  have hS5 := hS4.below hB5 hg4
  go_wp2_with fail
  refine (HM.out _ _ w5 hS5 hT5).mono ?_
  rintro e w6 ⟨rfl, hB6⟩
  have b6 := hid (b5.out.trans (hB6.mono b5.out.size))
  have hS6 := hid (hS5.below hB6 hS5.1)
  have hT6 := hid (hT5.below hB6 hT5.1)
  have hI6 := hid (hI.out.below b6.out (Nat.le_refl _))
  clear hB4 hB5 hB6 hS4 hS5 hT5
  go_wp2_with fail
  refine (toStack_any a len cap zs _ hI6.out (by omega)).mono ?_
  rintro e w7 ⟨rfl, hB7, hS7, hg7⟩
  have b7 := hid (b6.out.trans (hB7.mono b6.out.size))
  have hS7' := hid (hS6.out.below hB7 hS6.out.1)
  have hT7 := hid (hT6.out.below hB7 hT6.out.1)
  go_wp2_with fail
  refine (eqStack_same _ _ len len len zs w7 hS7'.out hS7 hn.out).mono ?_
  rintro e w8 ⟨rfl, hB8⟩
  have b8 := hid (b7.out.trans (hB8.mono b7.out.size))
  have hT8 := hid (hT7.out.below hB8 hT7.out.1)
  have hJ8 := hid (hJ.out.below b8.out (Nat.le_refl _))
  clear hB7 hB8 hS7
  go_wp2_with fail
  refine (toReads_any a' len' cap' js _ hJ8.out hle').mono ?_
  rintro e w9 ⟨rfl, hB9, hT9, hg9⟩
  have b9 := hid (b8.out.trans (hB9.mono b8.out.size))
  have hT9' := hid (hT8.out.below hB9 hT8.out.1)
  go_wp2_with fail
  refine (eqReads_same _ _ len' len' len' js w9 hT9'.out hT9 hm.out).mono ?_
  rintro e w10 ⟨rfl, hB10⟩
  go_wp2_with fail
  go_ret
  exact ⟨rfl, b9.out.trans (hB10.mono b9.out.size)⟩
end Go.Proofs.Ytilbpgcgjbblaaa
