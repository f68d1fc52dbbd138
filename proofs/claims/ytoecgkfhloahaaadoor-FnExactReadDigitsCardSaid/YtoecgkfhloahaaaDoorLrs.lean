/- spec.ReadDigits. -/
import Derived.Test.YtoecgkfhloahaaaDoorLrd
namespace Go.Proofs.YtoecgkfhloahaaaDoor
open Go.RowKit
set_option linter.unusedVariables false
set_option linter.unusedSimpArgs false
set_option maxRecDepth 100000 in
set_option maxHeartbeats 4000000 in
theorem specReadDigits_any (b n cap : Nat) (zs : List Int) (hn : n = zs.length) (t : ByteArray) (ht : t.size ≤ 1048576) (w : World) (hS : Stk w b zs) :
    Calls Tryd.prog 10 #[.slice (some ⟨b, 0, none⟩) n cap, .string t] w (RdG zs t.data.toList w) := by
  obtain ⟨R, hR⟩ : ∃ R, w.heap.size = R := ⟨_, rfl⟩
  have bR : Below R w (w.alloc (.cells #[.int .u8 0, .int .u8 0, .int .u8 0, .int .u8 0, .int .u8 0, .int .u8 0, .int .u8 0, .int .u8 0] 30)) := by rw [← hR]; exact (Below.refl _ _).alloc (Nat.le_refl _) _
  have rR := Row.new w 30 [.int .u8 0, .int .u8 0, .int .u8 0, .int .u8 0, .int .u8 0, .int .u8 0, .int .u8 0, .int .u8 0]
  rw [hR] at rR
  have HBR := hid bR; have HRR0 := hid rR; have HRR := hid hR; have HS := hid hS
  have HRB := hid (Nat.le_refl R)
  have hbR : b < R := by rw [← hR]; exact hS.1
  have HVW := hid (l01Ok_any b n cap zs _ (hS.below bR hbR) hn)
  have HLR := hid (fun (hok : okL zs = true) => l01Read_any b n cap zs hn hok t ht _ (hS.below bR hbR))
  clear hS hn bR rR ht
  by_cases hok : okL zs = false
  · rw [hok] at HVW
    have HO := hid hok
    have b9 := HBR.out
    have r1 := HRR0.out
    clear hok HLR
    go_enter Tryd.func10, Tryd.ntmps10
    go_wp2_with fail
    refine HVW.out.mono ?_
    rintro e v9 ⟨rfl, hw⟩
    rw [hw] at r1 b9
    have g0 := r1.cell 0; have k0 := r1.frozen 0; have g1 := r1.cell 1; have k1 := r1.frozen 1; have g2 := r1.cell 2; have k2 := r1.frozen 2; have g3 := r1.cell 3; have k3 := r1.frozen 3; have g4 := r1.cell 4; have k4 := r1.frozen 4; have g5 := r1.cell 5; have k5 := r1.frozen 5; have g6 := r1.cell 6; have k6 := r1.frozen 6; have g7 := r1.cell 7; have k7 := r1.frozen 7
    simp only [List.getElem?_cons_zero, List.getElem?_cons_succ] at g0 g1 g2 g3 g4 g5 g6 g7
    have r2 := hid (r1.set8 rfl (.int .u8 0) (.int .u8 0) (.int .u8 0) (.int .u8 0) (.int .u8 0) (.int .u8 0) (.int .u8 0) (.int .u8 0))
    have b2 := hid (below_set8 (g := R) b9 HRB.out (.int .u8 0) (.int .u8 0) (.int .u8 0) (.int .u8 0) (.int .u8 0) (.int .u8 0) (.int .u8 0) (.int .u8 0))
    clear r1
    go_wp2_with fail
    clear g0 g1 g2 g3 g4 g5 g6 g7 k0 k1 k2 k3 k4 k5 k6 k7
    obtain ⟨W, hW⟩ : ∃ W, W = ((((((((v9.setCell ⟨R, 0, none⟩ (.int .u8 0)).setCell ⟨R, 1, none⟩ (.int .u8 0)).setCell ⟨R, 2, none⟩ (.int .u8 0)).setCell ⟨R, 3, none⟩ (.int .u8 0)).setCell ⟨R, 4, none⟩ (.int .u8 0)).setCell ⟨R, 5, none⟩ (.int .u8 0)).setCell ⟨R, 6, none⟩ (.int .u8 0)).setCell ⟨R, 7, none⟩ (.int .u8 0)) := ⟨_, rfl⟩
    rw [← hW] at r2 b2 ⊢
    clear hW
    have r2 := r2.out
    have g0 := r2.cell 0; have g1 := r2.cell 1; have g2 := r2.cell 2; have g3 := r2.cell 3; have g4 := r2.cell 4; have g5 := r2.cell 5; have g6 := r2.cell 6; have g7 := r2.cell 7
    simp only [List.getElem?_cons_zero, List.getElem?_cons_succ] at g0 g1 g2 g3 g4 g5 g6 g7
    exact bodyPost_ret (v := .tuple #[.agg #[.int .u8 0, .int .u8 0, .int .u8 0, .int .u8 0, .int .u8 0, .int .u8 0, .int .u8 0, .int .u8 0], .int .i64 1]) (by simp [results, Tryd.results10, go_sem, g0, g1, g2, g3, g4, g5, g6, g7]) rfl ⟨[0, 0, 0, 0, 0, 0, 0, 0], 1, rfl, by rw [HRR.out]; exact b2.out, .inl ⟨HO.out, rfl, rfl⟩⟩
  · have hok : okL zs = true := by simpa using hok
    rw [hok] at HVW
    have HO := hid hok
    have HL2 := hid (HLR.out hok)
    clear hok HLR
    go_enter Tryd.func10, Tryd.ntmps10
    go_wp2_with fail
    refine HVW.out.mono ?_
    rintro e v2 ⟨rfl, hw⟩
    subst hw
    go_wp2_with fail
    refine HL2.out.mono ?_
    rintro e v3 ⟨ds, ok, rfl, hB, ⟨rfl, hD⟩ | ⟨rfl, rfl, hN⟩⟩
    · simp only [World.size_alloc] at hB
      obtain ⟨e0, e1, e2, e3, e4, e5, e6, e7, rfl⟩ := len8 hD.1
      simp only [List.map_cons, List.map_nil]
      have HD := hid hD
      have r3 := HRR0.out.below hB (by have := HRR.out; omega)
      have b3 := HBR.out.trans (show Below R _ v3 from hB.mono (by have := HRR.out; omega))
      have rD := Row.new v3 30 [.int .u8 e0, .int .u8 e1, .int .u8 e2, .int .u8 e3, .int .u8 e4, .int .u8 e5, .int .u8 e6, .int .u8 e7]
      have r1 := r3.alloc (.cells #[.int .u8 e0, .int .u8 e1, .int .u8 e2, .int .u8 e3, .int .u8 e4, .int .u8 e5, .int .u8 e6, .int .u8 e7] 30)
      have hz3 : R ≤ v3.heap.size := by have h1 := b3.size; have := HRR.out; omega
      have b9 := b3.alloc hz3 (.cells #[.int .u8 e0, .int .u8 e1, .int .u8 e2, .int .u8 e3, .int .u8 e4, .int .u8 e5, .int .u8 e6, .int .u8 e7] 30)
      obtain ⟨Vw, hVw⟩ : ∃ Vw, Vw = v3.alloc (.cells #[.int .u8 e0, .int .u8 e1, .int .u8 e2, .int .u8 e3, .int .u8 e4, .int .u8 e5, .int .u8 e6, .int .u8 e7] 30) := ⟨_, rfl⟩
      rw [← hVw] at rD r1 b9
      have HVw := hid hVw
      clear hVw hD hB r3 b3
      go_upto_region 4 with fail
      rw [← HVw.out]
      have c0 := rD.cell 0; have c1 := rD.cell 1; have c2 := rD.cell 2; have c3 := rD.cell 3; have c4 := rD.cell 4; have c5 := rD.cell 5; have c6 := rD.cell 6; have c7 := rD.cell 7
      simp only [List.getElem?_cons_zero, List.getElem?_cons_succ] at c0 c1 c2 c3 c4 c5 c6 c7
      clear rD
      have g0 := r1.cell 0; have k0 := r1.frozen 0; have g1 := r1.cell 1; have k1 := r1.frozen 1; have g2 := r1.cell 2; have k2 := r1.frozen 2; have g3 := r1.cell 3; have k3 := r1.frozen 3; have g4 := r1.cell 4; have k4 := r1.frozen 4; have g5 := r1.cell 5; have k5 := r1.frozen 5; have g6 := r1.cell 6; have k6 := r1.frozen 6; have g7 := r1.cell 7; have k7 := r1.frozen 7
      simp only [List.getElem?_cons_zero, List.getElem?_cons_succ] at g0 g1 g2 g3 g4 g5 g6 g7
      have r2 := hid (r1.set8 rfl (.int .u8 e0) (.int .u8 e1) (.int .u8 e2) (.int .u8 e3) (.int .u8 e4) (.int .u8 e5) (.int .u8 e6) (.int .u8 e7))
      have b2 := hid (below_set8 (g := R) b9 HRB.out (.int .u8 e0) (.int .u8 e1) (.int .u8 e2) (.int .u8 e3) (.int .u8 e4) (.int .u8 e5) (.int .u8 e6) (.int .u8 e7))
      clear r1
      go_wp2_with fail
      clear g0 g1 g2 g3 g4 g5 g6 g7 k0 k1 k2 k3 k4 k5 k6 k7 c0 c1 c2 c3 c4 c5 c6 c7
      obtain ⟨W, hW⟩ : ∃ W, W = ((((((((Vw.setCell ⟨R, 0, none⟩ (.int .u8 e0)).setCell ⟨R, 1, none⟩ (.int .u8 e1)).setCell ⟨R, 2, none⟩ (.int .u8 e2)).setCell ⟨R, 3, none⟩ (.int .u8 e3)).setCell ⟨R, 4, none⟩ (.int .u8 e4)).setCell ⟨R, 5, none⟩ (.int .u8 e5)).setCell ⟨R, 6, none⟩ (.int .u8 e6)).setCell ⟨R, 7, none⟩ (.int .u8 e7)) := ⟨_, rfl⟩
      rw [← hW] at r2 b2 ⊢
      clear hW
      have r2 := r2.out
      have g0 := r2.cell 0; have g1 := r2.cell 1; have g2 := r2.cell 2; have g3 := r2.cell 3; have g4 := r2.cell 4; have g5 := r2.cell 5; have g6 := r2.cell 6; have g7 := r2.cell 7
      simp only [List.getElem?_cons_zero, List.getElem?_cons_succ] at g0 g1 g2 g3 g4 g5 g6 g7
      exact bodyPost_ret (v := .tuple #[.agg #[.int .u8 e0, .int .u8 e1, .int .u8 e2, .int .u8 e3, .int .u8 e4, .int .u8 e5, .int .u8 e6, .int .u8 e7], .int .i64 0]) (by simp [results, Tryd.results10, go_sem, g0, g1, g2, g3, g4, g5, g6, g7]) rfl ⟨[e0, e1, e2, e3, e4, e5, e6, e7], 0, rfl, by rw [HRR.out]; exact b2.out, .inr ⟨HO.out, .inl ⟨HD.out, rfl⟩⟩⟩
    · simp only [World.size_alloc] at hB
      have HN2 := hid hN
      have r3 := HRR0.out.below hB (by have := HRR.out; omega)
      have b3 := HBR.out.trans (show Below R _ v3 from hB.mono (by have := HRR.out; omega))
      have hz3 : R ≤ v3.heap.size := by have h1 := b3.size; have := HRR.out; omega
      simp only [List.map_cons, List.map_nil]
      have r1 := r3.alloc (.cells #[.int .u8 0, .int .u8 0, .int .u8 0, .int .u8 0, .int .u8 0, .int .u8 0, .int .u8 0, .int .u8 0] 30)
      have b9 := b3.alloc hz3 (.cells #[.int .u8 0, .int .u8 0, .int .u8 0, .int .u8 0, .int .u8 0, .int .u8 0, .int .u8 0, .int .u8 0] 30)
      obtain ⟨Vw, hVw⟩ : ∃ Vw, Vw = v3.alloc (.cells #[.int .u8 0, .int .u8 0, .int .u8 0, .int .u8 0, .int .u8 0, .int .u8 0, .int .u8 0, .int .u8 0] 30) := ⟨_, rfl⟩
      rw [← hVw] at r1 b9
      have HVw := hid hVw
      clear hVw hN hB r3 b3
      go_upto_region 4 with fail
      rw [← HVw.out]
      have g0 := r1.cell 0; have k0 := r1.frozen 0; have g1 := r1.cell 1; have k1 := r1.frozen 1; have g2 := r1.cell 2; have k2 := r1.frozen 2; have g3 := r1.cell 3; have k3 := r1.frozen 3; have g4 := r1.cell 4; have k4 := r1.frozen 4; have g5 := r1.cell 5; have k5 := r1.frozen 5; have g6 := r1.cell 6; have k6 := r1.frozen 6; have g7 := r1.cell 7; have k7 := r1.frozen 7
      simp only [List.getElem?_cons_zero, List.getElem?_cons_succ] at g0 g1 g2 g3 g4 g5 g6 g7
      have r2 := hid (r1.set8 rfl (.int .u8 0) (.int .u8 0) (.int .u8 0) (.int .u8 0) (.int .u8 0) (.int .u8 0) (.int .u8 0) (.int .u8 0))
      have b2 := hid (below_set8 (g := R) b9 HRB.out (.int .u8 0) (.int .u8 0) (.int .u8 0) (.int .u8 0) (.int .u8 0) (.int .u8 0) (.int .u8 0) (.int .u8 0))
      clear r1
      go_wp2_with fail
      clear g0 g1 g2 g3 g4 g5 g6 g7 k0 k1 k2 k3 k4 k5 k6 k7
      obtain ⟨W, hW⟩ : ∃ W, W = ((((((((Vw.setCell ⟨R, 0, none⟩ (.int .u8 0)).setCell ⟨R, 1, none⟩ (.int .u8 0)).setCell ⟨R, 2, none⟩ (.int .u8 0)).setCell ⟨R, 3, none⟩ (.int .u8 0)).setCell ⟨R, 4, none⟩ (.int .u8 0)).setCell ⟨R, 5, none⟩ (.int .u8 0)).setCell ⟨R, 6, none⟩ (.int .u8 0)).setCell ⟨R, 7, none⟩ (.int .u8 0)) := ⟨_, rfl⟩
      rw [← hW] at r2 b2 ⊢
      clear hW
      have r2 := r2.out
      have g0 := r2.cell 0; have g1 := r2.cell 1; have g2 := r2.cell 2; have g3 := r2.cell 3; have g4 := r2.cell 4; have g5 := r2.cell 5; have g6 := r2.cell 6; have g7 := r2.cell 7
      simp only [List.getElem?_cons_zero, List.getElem?_cons_succ] at g0 g1 g2 g3 g4 g5 g6 g7
      exact bodyPost_ret (v := .tuple #[.agg #[.int .u8 0, .int .u8 0, .int .u8 0, .int .u8 0, .int .u8 0, .int .u8 0, .int .u8 0, .int .u8 0], .int .i64 5]) (by simp [results, Tryd.results10, go_sem, g0, g1, g2, g3, g4, g5, g6, g7]) rfl ⟨[0, 0, 0, 0, 0, 0, 0, 0], 5, rfl, by rw [HRR.out]; exact b2.out, .inr ⟨HO.out, .inr ⟨HN2.out, rfl, rfl⟩⟩⟩
end Go.Proofs.YtoecgkfhloahaaaDoor
