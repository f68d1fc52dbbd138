/- The walks of laws over a train: RatioOf, DrivenCount. -/
import Derived.Test.YtgomeeheleiapaaDriven
import Derived.Test.YtgomeeheleiapaaLawsTO
namespace Go.Proofs.Ytgomeeheleiapaa
open Go.RowKit
theorem specRA_any (b n cap : Nat) (js : List (Int × Int)) (w : World) (hS : Pst w b js) (hn : n = js.length) (hbd : Bd16 js) :
    Calls Try.prog 32 #[.slice (some ⟨b, 0, none⟩) n cap] w (GivesB w (.tuple #[.agg #[.int .i64 (ratR js).1.1, .int .i64 (ratR js).1.2], .int .i64 (ratR js).2])) := specRat_any b n cap js w hS hn hbd
theorem implRA_any (b n cap : Nat) (js : List (Int × Int)) (w : World) (hS : Pst w b js) (hn : n = js.length) (hbd : Bd16 js) :
    Calls Try.prog 33 #[.slice (some ⟨b, 0, none⟩) n cap] w (GivesB w (.tuple #[.agg #[.int .i64 (ratR js).1.1, .int .i64 (ratR js).1.2], .int .i64 (ratR js).2])) := implRat_any b n cap js w hS hn hbd
set_option maxHeartbeats 4000000 in
theorem law_FnExactRatioOf (a : Option Addr) (len cap : Nat) (js : List (Int × Int))  (w : World) (hl : len ≤ 9223372036854775807) (h : InP w a len js)  :
    Calls Try.prog 9 #[.slice a len cap] w fun e w' => e = .returned (.bool true) ∧ Below w.heap.size w w' := by
  by_cases hs : 1048576 < len
  · clear h
    go_enter Try.func9, Try.ntmps9
    go_wp2_with (go_at_call 25; refine (szTrain_no a len cap _ hs hl).mono ?_; rintro e w' ⟨rfl, rfl⟩)
    go_ret
    exact ⟨rfl, Below.refl _ _⟩
  have hle : len ≤ 1048576 := by omega
  have HZ := hid (fun w => szTrain_ok a len cap w hle)
  have hz : (0 : Int) ≤ 1048576 - (len : Int) := by omega
  have hI := hid h
  have hn : Hid (len = js.length) := hid h.1.symm
  have hbd : Hid (Bd16 js) := hid (fun j hj => h.2.1 j (by rw [← h.1]; exact hj))
  clear h hs hl 
  have HS := hid (fun b w1 (h : Pst w1 b js) => specRA_any b len len js  w1 h hn.out hbd.out )
  have HM := hid (fun b w1 (h : Pst w1 b js) => implRA_any b len len js  w1 h hn.out hbd.out )
  obtain ⟨r0, e0⟩ : ∃ r, (ratR js).1.1 = r := ⟨_, rfl⟩
  rw [e0] at HS HM
  have d0 : (r0 != r0) = false := by simp
  obtain ⟨r1, e1⟩ : ∃ r, (ratR js).1.2 = r := ⟨_, rfl⟩
  rw [e1] at HS HM
  have d1 : (r1 != r1) = false := by simp
  obtain ⟨r2, e2⟩ : ∃ r, (ratR js).2 = r := ⟨_, rfl⟩
  rw [e2] at HS HM
  have d2 : (r2 != r2) = false := by simp
  clear e0 e1 e2
  go_enter Try.func9, Try.ntmps9
  go_wp2_with fail
  refine (HZ.out _).mono ?_
  rintro e w' ⟨rfl, rfl⟩
  go_wp2_with fail
  refine (toPairs_any a len cap js _ hI.out hle).mono ?_
  rintro e w1 ⟨rfl, hB1, hS1, hg1⟩
  go_wp2_with fail
  refine (HS.out _ w1 hS1).mono ?_
  rintro e w2 ⟨rfl, hB2⟩
  have hz2 := hB2.size
  have b2 := hid (hB1.trans (hB2.mono (by omega)))
  have hI2 := hid (hI.out.below b2.out (Nat.le_refl _))
  clear hB1 hB2 hS1
  have q1 := hid (nilpair_new w2 25 (.int .i64 r0) (.int .i64 r1))
  have b2' := hid (b2.out.alloc (show w.heap.size ≤ w2.heap.size by omega) (.cells #[.int .i64 r0, .int .i64 r1] 25))
  have hI2 := hid (hI.out.below b2'.out (Nat.le_refl _))
  go_wp2_with fail
  refine (toPairs_any a len cap js _ hI2.out hle).mono ?_
  rintro e w3 ⟨rfl, hB3, hS3, hg3⟩
  simp only [World.size_alloc] at hB3 hS3 hg3
  have hz3 := hB3.size
  simp only [World.size_alloc] at hz3
  go_wp2_with fail
  refine (HM.out _ w3 hS3).mono ?_
  rintro e w4 ⟨rfl, hB4⟩
  have hz4 := hB4.size
  have b4 := hid (b2'.out.trans ((hB3.mono (by omega)).trans (hB4.mono (by omega))))
  have hI4 := hid (hI.out.below b4.out (Nat.le_refl _))
  have hS4 := hid (hS3.below hB4 (by omega))
  have q2 := q1.out.below hB3 (by omega)
  have q3 := hid ((q2.below hB4 (by omega)).alloc (.cells #[.int .i64 r0, .int .i64 r1] 25))
  have q4 := nilpair_new w4 25 (.int .i64 r0) (.int .i64 r1)
  have b5 := hid (b4.out.alloc (show w.heap.size ≤ w4.heap.size by omega) (.cells #[.int .i64 r0, .int .i64 r1] 25))
  have c0 := q3.out.cell 0
  have c1 := q3.out.cell 1
  have c2 := q4.cell 0
  have c3 := q4.cell 1
  simp only [List.getElem?_cons_zero, List.getElem?_cons_succ] at c0 c1 c2 c3
  clear q2 q4 hB3 hB4 hS3
  go_wp2_with fail
  refine (eqRatio_same r0 r1 _).mono ?_
  rintro e w5 ⟨rfl, hB5⟩
  simp only [World.size_alloc] at hB5
  have hz5 := hB5.size
  simp only [World.size_alloc] at hz5
  have b6 := hid (b5.out.trans (hB5.mono (by omega)))
  have hI6 := hid (hI.out.below b6.out (Nat.le_refl _))
  have hS6 := hid ((hS4.out.below ((Below.refl w4.heap.size w4).alloc (Nat.le_refl _) (.cells #[.int .i64 r0, .int .i64 r1] 25)) (by omega)).below hB5 (by omega))
  clear c0 c1 c2 c3 hB5
  go_wp2_with fail
  refine (toPairs_any a len cap js _ hI6.out hle).mono ?_
  rintro e w7 ⟨rfl, hB7, hS7, hg7⟩
  have hz7 := hB7.size
  have hS8 := hid (hS6.out.below hB7 (by omega))
  go_wp2_with fail
  refine (eqPairs_same _ _ len len len js w7 hS8.out hS7 hn.out).mono ?_
  rintro e w8 ⟨rfl, hB8⟩
  go_wp2_with fail
  go_ret
  exact ⟨rfl, b6.out.trans ((hB7.mono (by omega)).trans (hB8.mono (by omega)))⟩

set_option maxHeartbeats 4000000 in
theorem law_FnExactDrivenCount (a : Option Addr) (len cap : Nat) (js : List (Int × Int)) (x0 : Int) (w : World) (hl : len ≤ 9223372036854775807) (h : InP w a len js) (k0 : (Lit.int .i64 x0).wf = true) :
    Calls Try.prog 12 #[.slice a len cap, .int .i64 x0] w fun e w' => e = .returned (.bool true) ∧ Below w.heap.size w w' := by
  by_cases hs : 1048576 < len
  · clear h
    go_enter Try.func12, Try.ntmps12
    go_wp2_with (go_at_call 25; refine (szTrain_no a len cap _ hs hl).mono ?_; rintro e w' ⟨rfl, rfl⟩)
    go_ret
    exact ⟨rfl, Below.refl _ _⟩
  have hle : len ≤ 1048576 := by omega
  have HZ := hid (fun w => szTrain_ok a len cap w hle)
  have hz : (0 : Int) ≤ 1048576 - (len : Int) := by omega
  have hI := hid h
  have hn : Hid (len = js.length) := hid h.1.symm
  have hbd : Hid (Bd16 js) := hid (fun j hj => h.2.1 j (by rw [← h.1]; exact hj))
  have hx0 := hid (wf64 k0)
  clear h hs hl k0
  have HS := hid (fun b w1 (h : Pst w1 b js) => specDriven_any b len len js x0 w1 h hn.out hbd.out hx0.out)
  have HM := hid (fun b w1 (h : Pst w1 b js) => implDriven_any b len len js x0 w1 h hn.out hbd.out hx0.out)
  obtain ⟨r0, e0⟩ : ∃ r, (drR js x0).1 = r := ⟨_, rfl⟩
  rw [e0] at HS HM
  have d0 : (r0 != r0) = false := by simp
  obtain ⟨r1, e1⟩ : ∃ r, (drR js x0).2 = r := ⟨_, rfl⟩
  rw [e1] at HS HM
  have d1 : (r1 != r1) = false := by simp
  clear e0 e1
  go_enter Try.func12, Try.ntmps12
  go_wp2_with fail
  refine (HZ.out _).mono ?_
  rintro e w' ⟨rfl, rfl⟩
  go_wp2_with fail
  refine (toPairs_any a len cap js _ hI.out hle).mono ?_
  rintro e w1 ⟨rfl, hB1, hS1, hg1⟩
  go_wp2_with fail
  refine (HS.out _ w1 hS1).mono ?_
  rintro e w2 ⟨rfl, hB2⟩
  have hz2 := hB2.size
  have b2 := hid (hB1.trans (hB2.mono (by omega)))
  have hI2 := hid (hI.out.below b2.out (Nat.le_refl _))
  clear hB1 hB2 hS1
  go_wp2_with fail
  refine (toPairs_any a len cap js _ hI2.out hle).mono ?_
  rintro e w3 ⟨rfl, hB3, hS3, hg3⟩
  have hz3 := hB3.size
  go_wp2_with fail
  refine (HM.out _ w3 hS3).mono ?_
  rintro e w4 ⟨rfl, hB4⟩
  have hz4 := hB4.size
  have b4 := hid (b2.out.trans ((hB3.mono (by omega)).trans (hB4.mono (by omega))))
  have hI4 := hid (hI.out.below b4.out (Nat.le_refl _))
  have hS4 := hid (hS3.below hB4 (by omega))
  clear hB3 hB4 hS3
  go_wp2_with fail
  refine (toPairs_any a len cap js _ hI4.out hle).mono ?_
  rintro e w7 ⟨rfl, hB7, hS7, hg7⟩
  have hz7 := hB7.size
  have hS8 := hid (hS4.out.below hB7 (by omega))
  go_wp2_with fail
  refine (eqPairs_same _ _ len len len js w7 hS8.out hS7 hn.out).mono ?_
  rintro e w8 ⟨rfl, hB8⟩
  go_wp2_with fail
  go_ret
  exact ⟨rfl, b4.out.trans ((hB7.mono (by omega)).trans (hB8.mono (by omega)))⟩

end Go.Proofs.Ytgomeeheleiapaa
