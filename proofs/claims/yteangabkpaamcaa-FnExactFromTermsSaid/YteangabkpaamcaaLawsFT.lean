/- The walk of the law over FromTerms. -/
import Derived.Test.YteangabkpaamcaaFromQ
namespace Go.Proofs.Yteangabkpaamcaa
open Go.RowKit
set_option maxHeartbeats 4000000 in
theorem law_FnExactFromTerms (a : Option Addr) (len cap : Nat) (zs : List Int) (w : World) (h : InI w a len zs) :
    Calls Try.prog 6 #[.slice a len cap] w fun e w' => e = .returned (.bool true) ∧ Below w.heap.size w w' := by
  by_cases hs : 1048576 < len
  · clear h
    have hs2 : (1048576 : Int) < (len : Int) := by omega
    go_enter Try.func6, Try.ntmps6
    go_wp2_with fail
    go_ret
    exact ⟨rfl, Below.refl _ _⟩
  have hle : len ≤ 1048576 := by omega
  have hle2 : (len : Int) ≤ 1048576 := by omega
  have hI := hid h
  have hn : Hid (len = zs.length) := hid h.1.symm
  clear h hs
  have HS := hid (fun b w1 (h : Lst w1 b zs) => specFromTerms_any b len len zs w1 h hn.out)
  have HM := hid (fun b w1 (h : Lst w1 b zs) => implFromTerms_any b len len zs w1 h hn.out)
  obtain ⟨r0, e0⟩ : ∃ r, (fromR zs).1.1 = r := ⟨_, rfl⟩
  obtain ⟨r1, e1⟩ : ∃ r, (fromR zs).1.2 = r := ⟨_, rfl⟩
  obtain ⟨r2, e2⟩ : ∃ r, (fromR zs).2 = r := ⟨_, rfl⟩
  unfold pairV at HS HM
  rw [e0, e1, e2] at HS HM
  have d2 : (r2 != r2) = false := by simp
  clear e0 e1 e2
  go_enter Try.func6, Try.ntmps6
  go_wp2_with fail
  refine (toInts_any a len cap zs _ hI.out hle).mono ?_
  rintro e w1 ⟨rfl, hB1, hS1, hg1⟩
  go_wp2_with fail
  refine (HS.out _ w1 hS1).mono ?_
  rintro e w2 ⟨rfl, hB2⟩
  have hz2 := hB2.size
  have b2 := hid (hB1.trans (hB2.mono (by omega)))
  clear hB1 hB2 hS1
  have q1 := hid (nilpair_new w2 24 (.int .i64 r0) (.int .i64 r1))
  have b2' := hid (b2.out.alloc (show w.heap.size ≤ w2.heap.size by omega) (.cells #[.int .i64 r0, .int .i64 r1] 24))
  have hI2 := hid (hI.out.below b2'.out (Nat.le_refl _))
  go_wp2_with fail
  refine (toInts_any a len cap zs _ hI2.out hle).mono ?_
  rintro e w3 ⟨rfl, hB3, hS3, hg3⟩
  simp only [World.size_alloc] at hB3 hS3 hg3
  have hz3 := hB3.size
  simp only [World.size_alloc] at hz3
  go_wp2_with fail
  refine (HM.out _ w3 hS3).mono ?_
  rintro e w4 ⟨rfl, hB4⟩
  have hz4 := hB4.size
  have b4 := hid (b2'.out.trans ((hB3.mono (by omega)).trans (hB4.mono (by omega))))
  have hI4 := hid (hI.out.below b4.out (Nat.le_refl _))
  have hS4 := hid (hS3.below hB4 (by omega))
  have q2 := q1.out.below hB3 (by omega)
  have q3 := hid ((q2.below hB4 (by omega)).alloc (.cells #[.int .i64 r0, .int .i64 r1] 24))
  have q4 := nilpair_new w4 24 (.int .i64 r0) (.int .i64 r1)
  have b5 := hid (b4.out.alloc (show w.heap.size ≤ w4.heap.size by omega) (.cells #[.int .i64 r0, .int .i64 r1] 24))
  have c0 := q3.out.cell 0
  have c1 := q3.out.cell 1
  have c2 := q4.cell 0
  have c3 := q4.cell 1
  simp only [List.getElem?_cons_zero, List.getElem?_cons_succ] at c0 c1 c2 c3
  clear q2 q4 hB3 hB4 hS3
  go_wp2_with fail
  refine (eqRatio_same r0 r1 _).mono ?_
  rintro e w5 ⟨rfl, hB5⟩
  simp only [World.size_alloc] at hB5
  have hz5 := hB5.size
  simp only [World.size_alloc] at hz5
  have b6 := hid (b5.out.trans (hB5.mono (by omega)))
  have hI6 := hid (hI.out.below b6.out (Nat.le_refl _))
  have hS6 := hid ((hS4.out.below ((Below.refl w4.heap.size w4).alloc (Nat.le_refl _) (.cells #[.int .i64 r0, .int .i64 r1] 24)) (by omega)).below hB5 (by omega))
  clear c0 c1 c2 c3 hB5
  go_wp2_with fail
  refine (toInts_any a len cap zs _ hI6.out hle).mono ?_
  rintro e w7 ⟨rfl, hB7, hS7, hg7⟩
  have hz7 := hB7.size
  have hS8 := hid (hS6.out.below hB7 (by omega))
  go_wp2_with fail
  refine (eqInts_same _ _ len len len zs w7 hS8.out hS7 hn.out).mono ?_
  rintro e w8 ⟨rfl, hB8⟩
  go_wp2_with fail
  go_ret
  exact ⟨rfl, b6.out.trans ((hB7.mono (by omega)).trans (hB8.mono (by omega)))⟩
end Go.Proofs.Yteangabkpaamcaa
