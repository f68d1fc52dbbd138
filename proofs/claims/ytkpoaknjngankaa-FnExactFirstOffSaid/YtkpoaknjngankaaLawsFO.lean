/- The walk of the law over FirstOff. -/
import Derived.Test.YtkpoaknjngankaaFirst
namespace Go.Proofs.Ytkpoaknjngankaa
open Go.RowKit
set_option maxHeartbeats 4000000 in
theorem law_FnExactFirstOff (a : Option Addr) (len cap : Nat) (js : List (Int × Int)) (p q c : Int) (w : World) (hl : len ≤ 9223372036854775807) (h : InP w a len js) (hp : I64 p) (hq : I64 q) (hc : (Lit.int .i64 c).wf = true) :
    Calls Try.prog 6 #[.slice a len cap, .agg #[.int .i64 p, .int .i64 q], .int .i64 c] w fun e w' => e = .returned (.bool true) ∧ Below w.heap.size w w' := by
  have bE := hid (box2_bel w 23 (.int .i64 p) (.int .i64 q))
  by_cases hs : 1048576 < len
  · clear h
    go_enter Try.func6, Try.ntmps6
    go_wp2_with (go_at_call 27; refine (szTrain_no a len cap _ hs hl).mono ?_; rintro e w' ⟨rfl, rfl⟩)
    go_ret
    exact ⟨rfl, bE.out⟩
  have hle : len ≤ 1048576 := by omega
  have HZ := hid (fun w => szTrain_ok a len cap w hle)
  have hz : (0 : Int) ≤ 1048576 - (len : Int) := by omega
  have hI := hid h
  have hn : Hid (len = js.length) := hid h.1.symm
  have hbd : Hid (Bd16 js) := hid (fun j hj => h.2.1 j (by rw [← h.1]; exact hj))
  have hcc := hid (wf64 hc)
  have HS := hid (fun b w1 (h : Pst w1 b js) => specFirst_any b len len js p q c w1 h hn.out hbd.out hp hq hcc.out)
  have HM := hid (fun b w1 (h : Pst w1 b js) => implFirst_any b len len js p q c w1 h hn.out hbd.out hp hq hcc.out)
  obtain ⟨r0, e0⟩ : ∃ r, (firR js p q c).1 = r := ⟨_, rfl⟩
  obtain ⟨r1, e1⟩ : ∃ r, (firR js p q c).2 = r := ⟨_, rfl⟩
  rw [e0, e1] at HS HM
  have d0 : (r0 != r0) = false := by simp
  have d1 : (r1 != r1) = false := by simp
  obtain ⟨W, hW⟩ : ∃ W, W = w.alloc (.cells #[.int .i64 p, .int .i64 q] 23) := ⟨_, rfl⟩
  have Q0 : Row W w.heap.size 23 [.int .i64 p, .int .i64 q] := by rw [hW]; exact Row.new w _ _
  have bE2 : Below w.heap.size w W := by rw [hW]; exact bE.out
  have hW2 := hid hW
  have QQ := hid Q0
  have bb := hid bE2
  have l0 := Q0.lt
  clear h hs hl hc hp hq e0 e1 hW Q0 bE2
  go_enter Try.func6, Try.ntmps6
  go_wp2_with fail
  refine (HZ.out _).mono ?_
  rintro e w' ⟨rfl, rfl⟩
  go_wp2_with fail
  rw [← hW2.out]
  have c0 := QQ.out.cell 0
  have c1 := QQ.out.cell 1
  simp only [List.getElem?_cons_zero, List.getElem?_cons_succ] at c0 c1
  have hb0 := Below.refl W.heap.size W
  have hqs := And.intro c0 c1
  go_region_held3 (fun w' => w'.cell? ⟨w.heap.size, 0, none⟩ = some (.int .i64 p) ∧ w'.cell? ⟨w.heap.size, 1, none⟩ = some (.int .i64 q)) (first | with_reducible exact hq3 | with_reducible exact hq2 | with_reducible exact hq1 | exact hqs)
    ((first | (go_at_call 28; have hX := HS.out _ v2 hS2; refine hX.mono ?_; clear hX; rintro e v3 ⟨rfl, hB3⟩; have hb3 := hb2.trans (hB3.mono hb2.size); have hq3 := And.intro ((hb3.cell (p := ⟨w.heap.size, 0, none⟩) l0).trans c0) ((hb3.cell (p := ⟨w.heap.size, 1, none⟩) l0).trans c1)) | (go_at_call 13; have hX := toRatio_any p q v1; refine hX.mono ?_; clear hX; rintro e v2 ⟨rfl, hB2⟩; have hb2 := hb1.trans (hB2.mono hb1.size); have hS2 := hS1.below hB2 hg1; have hq2 := And.intro ((hb2.cell (p := ⟨w.heap.size, 0, none⟩) l0).trans c0) ((hb2.cell (p := ⟨w.heap.size, 1, none⟩) l0).trans c1)) | (go_at_call 29; have hX := toPairs_any a len cap js W.drew (hI.out.below bb.out.drew (Nat.le_refl _)) hle; refine hX.mono ?_; clear hX; rintro e v1 ⟨rfl, hB1, hS1, hg1⟩; simp only [World.size_drew] at hB1 hS1 hg1; have hb1 := hb0.drew.trans (hB1.mono (Nat.le_refl _)); have hq1 := And.intro ((hb1.cell (p := ⟨w.heap.size, 0, none⟩) l0).trans c0) ((hb1.cell (p := ⟨w.heap.size, 1, none⟩) l0).trans c1))))
  have b3 := hid (bb.out.trans (hb3.mono (by omega)))
  have hI3 := hid (hI.out.below b3.out (Nat.le_refl _))
  have R3 := hid (QQ.out.below hb3 l0)
  clear hb1 hb2 hb3 hB1 hB2 hB3 hS1 hS2 hq1 hq2 hq3 hqs c0 c1 hb0
  go_wp2_with fail
  refine (toPairs_any a len cap js _ hI3.out hle).mono ?_
  rintro e u1 ⟨rfl, hC1, hSu, hgu⟩
  have r4 := R3.out.below hC1 R3.out.lt
  have hy1 := hC1.size
  have b4 := hid (b3.out.trans (hC1.mono b3.out.size))
  have c0 := r4.cell 0
  have c1 := r4.cell 1
  simp only [List.getElem?_cons_zero, List.getElem?_cons_succ] at c0 c1
  clear r4 hC1
  go_wp2_with fail
  refine (toRatio_any p q _).mono ?_
  rintro e u2 ⟨rfl, hC2⟩
  have hSu2 := hSu.below hC2 hgu
  have b5 := hid (b4.out.trans (hC2.mono b4.out.size))
  clear c0 c1 hSu
  go_wp2_with fail
  refine (HM.out _ u2 hSu2).mono ?_
  rintro e u3 ⟨rfl, hC3⟩
  have hSu3 := hid (hSu2.below hC3 hSu2.1)
  have b6 := hid (b5.out.trans (hC3.mono b5.out.size))
  have hI6 := hid (hI.out.below b6.out (Nat.le_refl _))
  clear hSu2 hC2 hC3
  go_wp2_with fail
  refine (toPairs_any a len cap js _ hI6.out hle).mono ?_
  rintro e w7 ⟨rfl, hB7, hS7, hg7⟩
  have hz7 := hB7.size
  have hS8 := hid (hSu3.out.below hB7 hSu3.out.1)
  have b7 := hid (b6.out.trans (hB7.mono b6.out.size))
  clear hB7
  go_wp2_with fail
  refine (eqPairs_same _ _ len len len js w7 hS8.out hS7 hn.out).mono ?_
  rintro e w8 ⟨rfl, hB8⟩
  go_wp2_with fail
  go_ret
  exact ⟨rfl, b7.out.trans (hB8.mono b7.out.size)⟩
end Go.Proofs.Ytkpoaknjngankaa
