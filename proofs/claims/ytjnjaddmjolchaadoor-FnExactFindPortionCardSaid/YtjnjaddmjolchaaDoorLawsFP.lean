/- The walk of the law over FindPortion. -/
import Derived.Test.YtjnjaddmjolchaaDoorFp
namespace Go.Proofs.YtjnjaddmjolchaaDoor
open Go.RowKit
set_option linter.unusedVariables false
set_option linter.unusedSimpArgs false
set_option maxRecDepth 100000 in
set_option maxHeartbeats 4000000 in
theorem law_FnExactFindPortion (a : Option Addr) (len cap : Nat) (js : List (Int × Int)) (w : World) (hl : len ≤ 9223372036854775807) (h : InR w a len js) (hg : GV w) :
    Calls Tryd.prog 4 #[.slice a len cap] w fun e w' => e = .returned (.bool true) ∧ Below w.heap.size w w' := by
  by_cases hs : 1048576 < len
  · have HZ := hid (fun w => szPrs_no a len cap w hs hl)
    clear h hs hl hg
    go_enter Tryd.func4, Tryd.ntmps4
    go_wp2_with fail
    refine (HZ.out _).mono ?_
    rintro e w' ⟨rfl, rfl⟩
    go_wp2_with fail
    go_ret
    exact ⟨rfl, Below.refl _ _⟩
  have hle : len ≤ 1048576 := by omega
  have HZ := hid (fun w => szPrs_ok a len cap w hle)
  have hz : (0 : Int) ≤ 1048576 - (len : Int) := by omega
  have hI := hid h
  have hn : Hid (len = js.length) := hid h.1.symm
  have HS := hid (fun (B : Nat) (w1 : World) (k : Rst w1 B js) => specFindPortion_any B len len js w1 k hn.out)
  have HM := hid (fun (B : Nat) (w1 : World) (k : Rst w1 B js) (g : GV w1) => implFindPortion_any B len len js w1 k hn.out (Nat.le_refl _) g)
  obtain ⟨⟨⟨x, y⟩, c⟩, hR⟩ : ∃ r, fpR js = r := ⟨_, rfl⟩
  rw [hR] at HS HM
  unfold pairW at HS HM
  simp only at HS HM
  have fc1 : (c != c) = false := by simp
  have G0 := hid hg
  clear hR hs hl h hg
  go_enter Tryd.func4, Tryd.ntmps4
  go_wp2_with fail
  refine (HZ.out _).mono ?_
  rintro e w' ⟨rfl, rfl⟩
  go_wp2_with fail
  refine (toPrs_any a len cap js _ hI.out hle).mono ?_
  rintro e w1 ⟨rfl, hB1, hS1, hg1⟩
  have b1 := hid hB1
  clear hB1
  go_wp2_with fail
  refine (HS.out _ w1 hS1).mono ?_
  rintro e w2 ⟨rfl, hB2⟩
  have b2 := hid (b1.out.trans (hB2.mono b1.out.size))
  clear hB2 hS1 hg1
  obtain ⟨V2, hV2⟩ : ∃ X, X = w2.alloc (.cells #[.int .i64 x, .int .i64 y] 25) := ⟨_, rfl⟩
  obtain ⟨rV2, bbV2, sV2⟩ := box1_b w2 25 _ _ V2 hV2
  have RV := hid rV2

  have b3 := hid (b2.out.trans (bbV2.mono b2.out.size))
  have HV := hid hV2
  clear rV2 bbV2 sV2 hV2
  go_upto_region 6 with fail
  rw [← HV.out]
  go_wp2_with fail
  refine (toPrs_any a len cap js _ (hI.out.below b3.out (Nat.le_refl _)) hle).mono ?_
  rintro e w4 ⟨rfl, hB4, hS4, hg4⟩
  have b4 := hid (b3.out.trans (hB4.mono b3.out.size))
  have RV4 := hid (RV.out.below hB4 RV.out.lt)

  have S4 := hid hS4
  have G4 := hid (G0.out.below b4.out G0.out.lt)
  clear hB4 hS4
  go_wp2_with fail
  refine (HM.out _ w4 S4.out G4.out).mono ?_
  rintro e w5 ⟨rfl, hB5⟩
  have b5 := hid (b4.out.trans (hB5.mono b4.out.size))
  have RV5 := hid (RV4.out.below hB5 RV4.out.lt)

  have S5 := hid (S4.out.below hB5 S4.out.1)
  clear hB5
  obtain ⟨V5, hV5⟩ : ∃ X, X = w5.alloc (.cells #[.int .i64 x, .int .i64 y] 25) := ⟨_, rfl⟩
  obtain ⟨rV5, bbV5, sV5⟩ := box1_b w5 25 _ _ V5 hV5
  have b6 := hid (b5.out.trans (bbV5.mono b5.out.size))
  have RV6 := hid (RV5.out.below bbV5 RV5.out.lt)

  have S6 := hid (S5.out.below bbV5 S5.out.1)
  have RX6 := hid rV5

  have HV5 := hid hV5
  clear rV5 bbV5 sV5 hV5
  go_upto_region 8 with fail
  rw [← HV5.out]
  obtain ⟨k0, k1, _, _⟩ := box2_at RV6.out
  obtain ⟨p0, p1, _, _⟩ := box2_at RX6.out
  go_wp2_with fail
  refine (eqPortion_same x y _).mono ?_
  rintro e w7 ⟨rfl, hB7⟩
  have b7 := hid (b6.out.trans (hB7.mono b6.out.size))
  have S7 := hid (S6.out.below hB7 S6.out.1)
  have b8 := b7
  have S8 := S7
  clear hB7 k0 k1 p0 p1
  go_wp2_with fail
  refine (toPrs_any a len cap js _ (hI.out.below b8.out (Nat.le_refl _)) hle).mono ?_
  rintro e w9 ⟨rfl, hB9, hS9, hg9⟩
  have b9 := hid (b8.out.trans (hB9.mono b8.out.size))
  have S9 := hid (S8.out.below hB9 S8.out.1)
  clear hB9
  go_wp2_with fail
  refine (eqPrs_same _ _ len len len js w9 S9.out hS9 hn.out).mono ?_
  rintro e w10 ⟨rfl, hB10⟩
  go_wp2_with fail
  go_ret
  exact ⟨rfl, b9.out.trans (hB10.mono b9.out.size)⟩
end Go.Proofs.YtjnjaddmjolchaaDoor
