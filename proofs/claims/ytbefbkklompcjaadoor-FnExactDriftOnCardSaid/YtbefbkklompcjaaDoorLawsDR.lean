/- The walk of the law over DriftOn. -/
import Derived.Test.YtbefbkklompcjaaDoorDr
import Derived.Test.YtbefbkklompcjaaDoorSamTt
namespace Go.Proofs.YtbefbkklompcjaaDoor
open Go.RowKit
set_option linter.unusedVariables false
set_option maxHeartbeats 4000000 in
theorem law_FnExactDriftOn (a : Option Addr) (len cap : Nat) (js : List (Int × Int)) (a' : Option Addr) (len' cap' : Nat) (ks : List (Int × Int)) (x1 : Int) (w : World) (hl : len ≤ 9223372036854775807) (h : InR w a len js) (hl' : len' ≤ 9223372036854775807) (h' : InR w a' len' ks) (hx1 : (Lit.int .i64 x1).wf = true) (hG : GV w) :
    Calls Tryd.prog 6 #[.slice a len cap, .slice a' len' cap', .int .i64 x1] w fun e w' => e = .returned (.bool true) ∧ Below w.heap.size w w' := by
  by_cases hs : 1048576 < len
  · clear h h'
    go_enter Tryd.func6, Tryd.ntmps6
    go_wp2_with (go_at_call 15; refine (szTots_no a len cap _ hs hl).mono ?_; rintro e w' ⟨rfl, rfl⟩)
    go_ret
    exact ⟨rfl, Below.refl _ _⟩
  have hle : len ≤ 1048576 := by omega
  have HZ := hid (fun w => szTots_ok a len cap w hle)
  have hz : (0 : Int) ≤ 1048576 - (len : Int) := by omega
  by_cases hs' : 1048576 - len < len'
  · have HZ2 := hid (fun w => szTots_left_no a' len' cap' (1048576 - (len : Int)) w (by omega) (by omega) hl')
    clear h h' hs hs'
    go_enter Tryd.func6, Tryd.ntmps6
    go_wp2_with fail
    refine (HZ.out _).mono ?_
    rintro e w' ⟨rfl, rfl⟩
    go_wp2_with fail
    refine (HZ2.out _).mono ?_
    rintro e w' ⟨rfl, rfl⟩
    go_wp2_with fail
    go_ret
    exact ⟨rfl, Below.refl _ _⟩
  have hle' : len' ≤ 1048576 := by omega
  have HZ2 := hid (fun w => szTots_left a' len' cap' (1048576 - (len : Int)) w (by omega) (by omega))
  have hz2 : (0 : Int) ≤ 1048576 - (len : Int) - (len' : Int) := by omega
  have hI := hid h
  have hJ := hid h'
  have hn : Hid (len = js.length) := hid h.1.symm
  have hm : Hid (len' = ks.length) := hid h'.1.symm
  have HS := hid (fun b b' w1 (h : Rst w1 b js) (k : Rst w1 b' ks) => specDriftOn_any b b' len len' len len' js ks x1 (wf64 hx1) w1 h k hn.out hm.out)
  have HM := hid (fun b b' w1 (h : Rst w1 b js) (k : Rst w1 b' ks) (g : GV w1) => implDriftOn_any b b' len len' len len' js ks x1 (wf64 hx1) w1 h k hn.out hm.out g)
  obtain ⟨⟨o0, o1⟩, e0⟩ : ∃ r, drR js ks x1 = r := ⟨_, rfl⟩
  rw [e0] at HS HM
  simp only at HS HM
  have q0 : (o0 != o0) = false := by simp
  have q1 : (o1 != o1) = false := by simp
  have HG := hid hG
  clear h h' hs hs' hl hl' e0 hx1 hG
  · skip
    go_enter Tryd.func6, Tryd.ntmps6
    go_wp2_with fail
    refine (HZ.out _).mono ?_
    rintro e w' ⟨rfl, rfl⟩
    go_wp2_with fail
    refine (HZ2.out _).mono ?_
    rintro e w' ⟨rfl, rfl⟩
    go_wp2_with fail
    refine (toTots_any a len cap js _ hI.out hle).mono ?_
    rintro e w1 ⟨rfl, hB1, hS1, hg1⟩
    have hI1 := hid (hJ.out.below hB1 (Nat.le_refl _))
    have hz1 := hB1.size
    go_wp2_with fail
    refine (toTots_any a' len' cap' ks _ hI1.out hle').mono ?_
    rintro e w2 ⟨rfl, hB2, hT2, hg2⟩
    have hS2 := hS1.below hB2 hg1
    have b2 := hid (hB1.trans (hB2.mono hz1))
    go_wp2_with fail
    refine (HS.out _ _ w2 hS2 hT2).mono ?_
    rintro e w3 ⟨rfl, hB3⟩
    have b3 := hid (b2.out.trans (hB3.mono b2.out.size))
    have hI3 := hid (hI.out.below b3.out (Nat.le_refl _))
    have hz3 := b3.out.size
    clear hB1 hB2 hB3 hS1 hS2 hT2
    go_wp2_with fail
    refine (toTots_any a len cap js _ hI3.out hle).mono ?_
    rintro e w4 ⟨rfl, hB4, hS4, hg4⟩
    have b4 := hid (b3.out.trans (hB4.mono hz3))
    have hJ4 := hid (hJ.out.below b4.out (Nat.le_refl _))
    have hz4 := b4.out.size
    go_wp2_with fail
    refine (toTots_any a' len' cap' ks _ hJ4.out hle').mono ?_
    rintro e w5 ⟨rfl, hB5, hT5, hg5⟩
    have b5 := hid (b4.out.trans (hB5.mono hz4))
    have hS5 := hS4.below hB5 hg4
    have hz5 := b5.out.size
    go_wp2_with fail
    refine (HM.out _ _ w5 hS5 hT5 (HG.out.below b5.out HG.out.lt)).mono ?_
    rintro e w6 ⟨rfl, hB6⟩
    have b6 := hid (b5.out.trans (hB6.mono hz5))
    have hS6 := hid (hS5.below hB6 hS5.1)
    have hT6 := hid (hT5.below hB6 hT5.1)
    have hI6 := hid (hI.out.below b6.out (Nat.le_refl _))
    have hz6 := b6.out.size
    clear hB4 hB5 hB6 hS4 hS5 hT5
    go_wp2_with fail
    refine (toTots_any a len cap js _ hI6.out hle).mono ?_
    rintro e w7 ⟨rfl, hB7, hS7, hg7⟩
    have b7 := hid (b6.out.trans (hB7.mono hz6))
    have hS7' := hid (hS6.out.below hB7 hS6.out.1)
    have hT7' := hid (hT6.out.below hB7 hT6.out.1)
    go_wp2_with fail
    refine (eqTots_same _ _ len len len js w7 hS7'.out hS7 hn.out).mono ?_
    rintro e w8 ⟨rfl, hB8⟩
    have b8 := hid (b7.out.trans (hB8.mono b7.out.size))
    have hT8 := hid (hT7'.out.below hB8 hT7'.out.1)
    have hJ8 := hid (hJ.out.below b8.out (Nat.le_refl _))
    clear hB7 hB8 hS7
    go_wp2_with fail
    refine (toTots_any a' len' cap' ks _ hJ8.out hle').mono ?_
    rintro e w9 ⟨rfl, hB9, hT9, hg9⟩
    have b9 := hid (b8.out.trans (hB9.mono b8.out.size))
    have hT9' := hid (hT8.out.below hB9 hT8.out.1)
    go_wp2_with fail
    refine (eqTots_same _ _ len' len' len' ks w9 hT9'.out hT9 hm.out).mono ?_
    rintro e w10 ⟨rfl, hB10⟩
    go_wp2_with fail
    go_ret
    exact ⟨rfl, b9.out.trans (hB10.mono b9.out.size)⟩
end Go.Proofs.YtbefbkklompcjaaDoor
