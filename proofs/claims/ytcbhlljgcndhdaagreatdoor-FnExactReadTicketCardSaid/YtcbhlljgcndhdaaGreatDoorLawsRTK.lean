/- The law over ReadTicket. -/
import Derived.Test.YtcbhlljgcndhdaaGreatDoorRkS
import Derived.Test.YtcbhlljgcndhdaaGreatDoorRkI
import Derived.Test.YtcbhlljgcndhdaaGreatDoorEqTk
namespace Go.Proofs.YtcbhlljgcndhdaaGreatDoor
open Go.RowKit
set_option linter.unusedVariables false
set_option linter.unusedSimpArgs false
set_option maxRecDepth 100000 in
set_option maxHeartbeats 4000000 in
theorem law_FnExactReadTicket (a : Option Addr) (len cap : Nat) (zs : List Int) (t : ByteArray) (w : World) (h : InB w a len zs) (hT : t.size ≤ maxLen) (tS : TypeId) (pS : Value) (tR : TypeId) (pR : Value) (m : Int) (hL : LW w tS pS tR pR m) :
    Calls Tryz.prog 3 #[.slice a len cap, .string t] w fun e w' => e = .returned (.bool true) ∧ Below w.heap.size w w' := by
  by_cases hbig : 1048576 < len
  · have hb : (1048576 : Int) < (len : Int) := by omega
    clear hL hT h
    go_enter Tryz.func3, Tryz.ntmps3
    go_wp2_with fail
    go_ret
    exact ⟨rfl, Below.refl _ _⟩
  have hb0 : ¬ (1048576 : Int) < (len : Int) := by omega
  by_cases hbig2 : 1048576 < t.size
  · have hb : (1048576 : Int) < (t.size : Int) := by omega
    clear hL hT h
    go_enter Tryz.func3, Tryz.ntmps3
    go_wp2_with fail
    go_ret
    exact ⟨rfl, Below.refl _ _⟩
  have hle : t.size ≤ 1048576 := by omega
  have hb : ¬ (1048576 : Int) < (t.size : Int) := by omega
  have hle2 : len ≤ 1048576 := by omega
  have hI := hid h; have HLW := hid hL
  have HN := hid h.1.symm
  obtain ⟨nn, e0, e1, e2, e3, e4, e5, e6, e7, ch, c, hsame⟩ := RkG.same (zs := zs) (l := t.data.toList)
  have HS := hid (fun W b (hS : Stk W b zs) => (specReadTicket_any b len len zs HN.out t hle W hS).mono (fun e w' hh => hsame W e w' hh))
  have HM := hid (fun W b (hS : Stk W b zs) (h : LW W tS pS tR pR m) => (implReadTicket_any b len len zs HN.out t hle W hS h).mono (fun e w' hh => hsame W e w' hh))
  have fc : (c != c) = false := by simp
  have q : Below w.heap.size w w := Below.refl _ _
  obtain ⟨n, hn⟩ : ∃ n, t.size = n := ⟨_, rfl⟩
  rw [hn] at hb
  clear h hL hT hbig hbig2 hle hsame
  go_enter Tryz.func3, Tryz.ntmps3
  go_wp2_with fail
  refine (toStack_any a len cap zs _ (hI.out.below q (Nat.le_refl _)) hle2).mono ?_
  rintro e w1 ⟨rfl, hB1, hS1, _⟩
  replace q := q.trans (hB1.mono q.size)
  clear hB1
  go_wp2_with fail
  refine (HS.out w1 _ hS1).mono ?_
  rintro e w2 ⟨rfl, hB2⟩
  replace q := q.trans (hB2.mono q.size)
  clear hB2 hS1
  go_wp2_with fail
  have rF := Row.new w2 27 [.int .i64 nn, .int .u8 e0, .int .u8 e1, .int .u8 e2, .int .u8 e3, .int .u8 e4, .int .u8 e5, .int .u8 e6, .int .u8 e7, .int .u16 ch]
  have q3 := q.alloc q.size (.cells #[.int .i64 nn, .int .u8 e0, .int .u8 e1, .int .u8 e2, .int .u8 e3, .int .u8 e4, .int .u8 e5, .int .u8 e6, .int .u8 e7, .int .u16 ch] 27)
  obtain ⟨V3, hV3⟩ : ∃ X, X = w2.alloc (.cells #[.int .i64 nn, .int .u8 e0, .int .u8 e1, .int .u8 e2, .int .u8 e3, .int .u8 e4, .int .u8 e5, .int .u8 e6, .int .u8 e7, .int .u16 ch] 27) := ⟨_, rfl⟩
  obtain ⟨F, hF⟩ : ∃ X, w2.heap.size = X := ⟨_, rfl⟩
  rw [← hV3, hF] at rF
  rw [← hV3] at q3 ⊢
  rw [hF]
  clear hV3 hF q
  refine (toStack_any a len cap zs _ (hI.out.below q3 (Nat.le_refl _)) hle2).mono ?_
  rintro e w4 ⟨rfl, hB4, hS4, _⟩
  have q4 := q3.trans (hB4.mono q3.size)
  replace rF := rF.below hB4 rF.lt
  obtain ⟨X0, hX0⟩ : ∃ X, V3.heap.size = X := ⟨_, rfl⟩
  rw [hX0] at hS4 ⊢
  clear hB4 q3 hX0
  have RF := hid rF
  clear rF
  go_wp2_with fail
  refine (HM.out w4 _ hS4 (HLW.out.below q4 (Nat.le_refl _))).mono ?_
  rintro e w5 ⟨rfl, hB5⟩
  have q5 := q4.trans (hB5.mono q4.size)
  have rF5 := RF.out.below hB5 RF.out.lt
  have hS5 := hS4.below hB5 hS4.1
  have rG := Row.new w5 27 [.int .i64 nn, .int .u8 e0, .int .u8 e1, .int .u8 e2, .int .u8 e3, .int .u8 e4, .int .u8 e5, .int .u8 e6, .int .u8 e7, .int .u16 ch]
  have rF6 := rF5.alloc (.cells #[.int .i64 nn, .int .u8 e0, .int .u8 e1, .int .u8 e2, .int .u8 e3, .int .u8 e4, .int .u8 e5, .int .u8 e6, .int .u8 e7, .int .u16 ch] 27)
  have q6 := q5.alloc q5.size (.cells #[.int .i64 nn, .int .u8 e0, .int .u8 e1, .int .u8 e2, .int .u8 e3, .int .u8 e4, .int .u8 e5, .int .u8 e6, .int .u8 e7, .int .u16 ch] 27)
  have hS6 := hS5.below ((Below.refl w5.heap.size w5).alloc (Nat.le_refl _) (.cells #[.int .i64 nn, .int .u8 e0, .int .u8 e1, .int .u8 e2, .int .u8 e3, .int .u8 e4, .int .u8 e5, .int .u8 e6, .int .u8 e7, .int .u16 ch] 27)) hS5.1
  obtain ⟨V6, hV6⟩ : ∃ X, X = w5.alloc (.cells #[.int .i64 nn, .int .u8 e0, .int .u8 e1, .int .u8 e2, .int .u8 e3, .int .u8 e4, .int .u8 e5, .int .u8 e6, .int .u8 e7, .int .u16 ch] 27) := ⟨_, rfl⟩
  obtain ⟨G, hG⟩ : ∃ X, w5.heap.size = X := ⟨_, rfl⟩
  rw [← hV6, hG] at rG
  rw [← hV6] at rF6 q6 hS6
  have HV6 := hid hV6
  have HG := hid hG
  have Q6 := hid q6; have HS6 := hid hS6
  clear hV6 hG hB5 q4 q5 rF5 hS4 hS5 q6 hS6
  go_upto_region 8 with fail
  rw [← HV6.out, HG.out]
  have c0 := rF6.cell 0; have c1 := rF6.cell 1; have c2 := rF6.cell 2; have c3 := rF6.cell 3; have c4 := rF6.cell 4; have c5 := rF6.cell 5; have c6 := rF6.cell 6; have c7 := rF6.cell 7; have c8 := rF6.cell 8; have c9 := rF6.cell 9
  simp only [List.getElem?_cons_zero, List.getElem?_cons_succ] at c0 c1 c2 c3 c4 c5 c6 c7 c8 c9
  have g0 := rG.cell 0; have g1 := rG.cell 1; have g2 := rG.cell 2; have g3 := rG.cell 3; have g4 := rG.cell 4; have g5 := rG.cell 5; have g6 := rG.cell 6; have g7 := rG.cell 7; have g8 := rG.cell 8; have g9 := rG.cell 9
  simp only [List.getElem?_cons_zero, List.getElem?_cons_succ] at g0 g1 g2 g3 g4 g5 g6 g7 g8 g9
  clear rF6 rG
  go_wp2_with fail
  refine (eqTicket_same nn e0 e1 e2 e3 e4 e5 e6 e7 ch V6).mono ?_
  rintro e w7 ⟨rfl, hB7⟩
  have q7 := Q6.out.trans (hB7.mono Q6.out.size)
  have hS7 := HS6.out.below hB7 HS6.out.1
  clear hB7 c0 g0 c1 g1 c2 g2 c3 g3 c4 g4 c5 g5 c6 g6 c7 g7 c8 g8 c9 g9
  go_wp2_with fail
  refine (toStack_any a len cap zs _ (hI.out.below q7 (Nat.le_refl _)) hle2).mono ?_
  rintro e w8 ⟨rfl, hB8, hS8, _⟩
  have q8 := q7.trans (hB8.mono q7.size)
  have hS9 := hS7.below hB8 hS7.1
  clear hB8 hS7 q7
  go_wp2_with fail
  refine (eqStack_same _ _ len len len zs w8 hS9 hS8 HN.out).mono ?_
  rintro e w9 ⟨rfl, hB9⟩
  have q9 := q8.trans (hB9.mono q8.size)
  clear hB9
  go_wp2_with fail
  go_ret
  exact ⟨rfl, q9⟩
end Go.Proofs.YtcbhlljgcndhdaaGreatDoor
