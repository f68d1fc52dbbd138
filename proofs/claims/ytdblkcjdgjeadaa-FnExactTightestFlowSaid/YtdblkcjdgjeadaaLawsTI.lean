/- The walk of the law over TightestFlow. -/
import Derived.Test.YtdblkcjdgjeadaaTiS
import Derived.Test.YtdblkcjdgjeadaaOpen
import Derived.Test.YtdblkcjdgjeadaaSamG
namespace Go.Proofs.Ytdblkcjdgjeadaa
open Go.RowKit
set_option linter.unusedVariables false
set_option linter.unusedSimpArgs false
theorem implTi_any (bS nS capS : Nat) (zs : List Int) (hnS : nS = zs.length) (b n cap : Nat) (js : List (Int × Int)) (hn : n = js.length) (most : Int) (w : World) (hS : Stk w bS zs) (hR : Rst w b js) : Calls Try.prog 11 #[.slice (some ⟨bS, 0, none⟩) nS capS, .slice (some ⟨b, 0, none⟩) n cap, .int .i64 most] w (GivesB w (.tuple #[.agg #[.int .i64 (tiR zs js most).1.1, .int .i64 (tiR zs js most).1.2], .int .i64 (tiR zs js most).2])) := by
  cases hg : okG zs js with
  | false => exact implTi_log bS nS capS zs hnS b n cap js hn most w hS hR hg
  | true =>
    by_cases h0 : most < 0
    · exact implTi_most_lo bS nS capS zs hnS b n cap js hn most w hS hR hg h0
    · by_cases h1 : 1000000 < most
      · exact implTi_most_hi bS nS capS zs hnS b n cap js hn most w hS hR hg h1
      · exact implTi_main bS nS capS zs hnS b n cap js hn most w hS hR hg (by omega) (by omega)
theorem specTi_any (bS nS capS : Nat) (zs : List Int) (hnS : nS = zs.length) (b n cap : Nat) (js : List (Int × Int)) (hn : n = js.length) (most : Int) (w : World) (hS : Stk w bS zs) (hR : Rst w b js) (hc : nS ≤ capS) : Calls Try.prog 8 #[.slice (some ⟨bS, 0, none⟩) nS capS, .slice (some ⟨b, 0, none⟩) n cap, .int .i64 most] w (GivesB w (.tuple #[.agg #[.int .i64 (tiR zs js most).1.1, .int .i64 (tiR zs js most).1.2], .int .i64 (tiR zs js most).2])) := by
  cases hg : okG zs js with
  | false => exact specTi_log bS nS capS zs hnS b n cap js hn most w hS hR hg
  | true =>
    by_cases h0 : 0 ≤ most ∧ most ≤ 1000000
    · exact specTi_main bS nS capS zs hnS b n cap js hn most w hS hR hc hg h0.1 h0.2
    · exact specTi_most bS nS capS zs hnS b n cap js hn most w hS hR hg h0
set_option maxHeartbeats 1000000 in
theorem eqFlow_same (x y : Int) (w : World) : Calls Try.prog 12 #[.agg #[.int .i64 x, .int .i64 y], .agg #[.int .i64 x, .int .i64 y]] w fun e w' => e = .returned (.bool true) ∧ Below w.heap.size w w' := by
  have e1 : (x != x) = false := by simp
  have e2 : (y != y) = false := by simp
  have bA : Below w.heap.size w ((w.alloc (.cells #[.int .i64 x, .int .i64 y] 26)).alloc (.cells #[.int .i64 x, .int .i64 y] 26)) := ((Below.refl _ w).alloc (Nat.le_refl _) _).alloc (by simp) _
  have rA := (Row.new w 26 [.int .i64 x, .int .i64 y]).alloc (.cells #[.int .i64 x, .int .i64 y] 26)
  have rB := Row.new (w.alloc (.cells #[.int .i64 x, .int .i64 y] 26)) 26 [.int .i64 x, .int .i64 y]
  simp only [World.size_alloc] at rB
  have a0 := rA.cell 0; have a1 := rA.cell 1; have b0 := rB.cell 0; have b1 := rB.cell 1
  simp only [List.getElem?_cons_zero, List.getElem?_cons_succ] at a0 a1 b0 b1
  clear rA rB
  go_enter Try.func12, Try.ntmps12
  go_wp2_with fail
  all_goals (try (go_quiet (fail); go_wp2_with fail))
  all_goals (try (go_quiet (fail); go_wp2_with fail))
  go_ret
  exact ⟨rfl, by first | exact bA | exact below_drewN bA _⟩
set_option maxHeartbeats 4000000 in
theorem law_FnExactTightestFlow (a : Option Addr) (len cap : Nat) (zs : List Int) (a' : Option Addr) (len' cap' : Nat) (js : List (Int × Int)) (x2 : Int) (w : World) (h : InB w a len zs) (hl' : len' ≤ 9223372036854775807) (h' : InR w a' len' js) (h2 : (Lit.int .i64 x2).wf = true) :
    Calls Try.prog 3 #[.slice a len cap, .slice a' len' cap', .int .i64 x2] w fun e w' => e = .returned (.bool true) ∧ Below w.heap.size w w' := by
  by_cases hs : 1048576 < len
  · clear h h'
    go_enter Try.func3, Try.ntmps3
    go_wp2
    go_ret
    exact ⟨rfl, Below.refl _ _⟩
  by_cases hs' : 1048576 < len'
  · have HZ := hid (fun w => szReads_no a' len' cap' w hs' hl')
    clear h h'
    go_enter Try.func3, Try.ntmps3
    go_wp2_with fail
    refine (HZ.out _).mono ?_
    rintro e w' ⟨rfl, rfl⟩
    go_wp2_with fail
    go_ret
    exact ⟨rfl, Below.refl _ _⟩
  have hle : len ≤ 1048576 := by omega
  have hle' : len' ≤ 1048576 := by omega
  have HZ := hid (fun w => szReads_ok a' len' cap' w hle')
  have hz : (0 : Int) ≤ 1048576 - (len' : Int) := by omega
  have hI := hid h
  have hJ := hid h'
  have hn : Hid (len = zs.length) := hid h.1.symm
  have hm : Hid (len' = js.length) := hid h'.1.symm
  have H2 := hid (wf64 h2)
  have HS := hid (fun b b' w1 (k : Stk w1 b zs) (k' : Rst w1 b' js) => specTi_any b len len zs hn.out b' len' len' js hm.out x2 w1 k k' (Nat.le_refl _))
  have HM := hid (fun b b' w1 (k : Stk w1 b zs) (k' : Rst w1 b' js) => implTi_any b len len zs hn.out b' len' len' js hm.out x2 w1 k k')
  obtain ⟨⟨⟨X, Y⟩, c⟩, hR⟩ : ∃ r, tiR zs js x2 = r := ⟨_, rfl⟩
  rw [hR] at HS HM
  have eX : (X != X) = false := by simp
  have eY : (Y != Y) = false := by simp
  have ec : (c != c) = false := by simp
  clear hR
  clear h h' hl' h2 hs hs'
  go_enter Try.func3, Try.ntmps3
  go_wp2_with fail
  refine (HZ.out _).mono ?_
  rintro e w' ⟨rfl, rfl⟩
  go_wp2_with fail
  refine (toStack_any a len cap zs _ hI.out (by omega)).mono ?_
  rintro e w1 ⟨rfl, hB1, hS1, hg1⟩
  have b1 := hid hB1
  have hJ1 := hid (hJ.out.below b1.out (Nat.le_refl _))
  go_wp2_with fail
  refine (toReads_any a' len' cap' js _ hJ1.out hle').mono ?_
  rintro e w2 ⟨rfl, hB2, hT2, hg2⟩
  have b2 := hid (b1.out.trans (hB2.mono b1.out.size))
  have hS2 := hS1.below hB2 hg1
  go_wp2_with fail
  refine (HS.out _ _ w2 hS2 hT2).mono ?_
  rintro e w3 ⟨rfl, hB3⟩
  have hz3 := (b2.out.trans (hB3.mono b2.out.size)).size
  have b3 := hid ((b2.out.trans (hB3.mono b2.out.size)).alloc hz3 (.cells #[.int .i64 X, .int .i64 Y] 26))
  have rW := hid (Row.new w3 26 [.int .i64 X, .int .i64 Y])
  have hI3 := hid (hI.out.below b3.out (Nat.le_refl _))
  clear hB1 hB2 hB3 hS1 hS2 hT2
  go_wp2_with fail
  refine (toStack_any a len cap zs _ hI3.out (by omega)).mono ?_
  rintro e w4 ⟨rfl, hB4, hS4, hg4⟩
  have b4 := hid (b3.out.trans (hB4.mono b3.out.size))
  have rW4 := hid (rW.out.below hB4 rW.out.lt)
  simp only [World.size_alloc] at hS4 hg4
  have hJ4 := hid (hJ.out.below b4.out (Nat.le_refl _))
  go_wp2_with fail
  refine (toReads_any a' len' cap' js _ hJ4.out hle').mono ?_
  rintro e w5 ⟨rfl, hB5, hT5, hg5⟩
  have b5 := hid (b4.out.trans (hB5.mono b4.out.size))
  have rW5 := hid (rW4.out.below hB5 rW4.out.lt)
  have hS5 := hS4.below hB5 hg4
  go_wp2_with fail
  refine (HM.out _ _ w5 hS5 hT5).mono ?_
  rintro e w6 ⟨rfl, hB6⟩
  have hz6 := (b5.out.trans (hB6.mono b5.out.size)).size
  have hA6 : Below w6.heap.size w6 (w6.alloc (.cells #[.int .i64 X, .int .i64 Y] 26)) := (Below.refl _ _).alloc (Nat.le_refl _) _
  have b6 := hid ((b5.out.trans (hB6.mono b5.out.size)).trans (hA6.mono hz6))
  have rG := Row.new w6 26 [.int .i64 X, .int .i64 Y]
  have rV := (rW5.out.below hB6 rW5.out.lt).below hA6 (Nat.lt_of_lt_of_le rW5.out.lt hB6.size)
  have hS6 := hid ((hS5.below hB6 hS5.1).below hA6 (Nat.lt_of_lt_of_le hS5.1 hB6.size))
  have hT6 := hid ((hT5.below hB6 hT5.1).below hA6 (Nat.lt_of_lt_of_le hT5.1 hB6.size))
  have g0 := rG.cell 0; have g1 := rG.cell 1; have v0 := rV.cell 0; have v1 := rV.cell 1
  simp only [List.getElem?_cons_zero, List.getElem?_cons_succ] at g0 g1 v0 v1
  clear hB4 hB5 hB6 hS4 hS5 hT5 rG rV hA6
  go_wp2_with fail
  clear g0 g1 v0 v1
  refine (eqFlow_same X Y _).mono ?_
  rintro e w6' ⟨rfl, hB6'⟩
  have b6' := hid (b6.out.trans (hB6'.mono b6.out.size))
  have hS6' := hid (hS6.out.below hB6' hS6.out.1)
  have hT6' := hid (hT6.out.below hB6' hT6.out.1)
  have hI6 := hid (hI.out.below b6'.out (Nat.le_refl _))
  clear hB6'
  go_wp2_with fail
  refine (toStack_any a len cap zs _ hI6.out (by omega)).mono ?_
  rintro e w7 ⟨rfl, hB7, hS7, hg7⟩
  have b7 := hid (b6'.out.trans (hB7.mono b6'.out.size))
  have hS7' := hid (hS6'.out.below hB7 hS6'.out.1)
  have hT7 := hid (hT6'.out.below hB7 hT6'.out.1)
  go_wp2_with fail
  refine (eqStack_same _ _ len len len zs w7 hS7'.out hS7 hn.out).mono ?_
  rintro e w8 ⟨rfl, hB8⟩
  have b8 := hid (b7.out.trans (hB8.mono b7.out.size))
  have hT8 := hid (hT7.out.below hB8 hT7.out.1)
  have hJ8 := hid (hJ.out.below b8.out (Nat.le_refl _))
  clear hB7 hB8 hS7
  go_wp2_with fail
  refine (toReads_any a' len' cap' js _ hJ8.out hle').mono ?_
  rintro e w9 ⟨rfl, hB9, hT9, hg9⟩
  have b9 := hid (b8.out.trans (hB9.mono b8.out.size))
  have hT9' := hid (hT8.out.below hB9 hT8.out.1)
  go_wp2_with fail
  refine (eqReads_same _ _ len' len' len' js w9 hT9'.out hT9 hm.out).mono ?_
  rintro e w10 ⟨rfl, hB10⟩
  go_wp2_with fail
  go_ret
  exact ⟨rfl, b9.out.trans (hB10.mono b9.out.size)⟩
end Go.Proofs.Ytdblkcjdgjeadaa
