/- AddTo: the model's answers, whole. -/
import Derived.Test.YtigiegdkfgjmcaaAddS
import Derived.Test.YtigiegdkfgjmcaaLawsD
namespace Go.Proofs.Ytigiegdkfgjmcaa
open Go.RowKit

set_option maxRecDepth 100000 in
set_option maxHeartbeats 4000000 in
theorem specAddTo_any (b n cap : Nat) (zs : List Int) (d0 d1 d2 d3 d4 d5 d6 d7 c : Int) (w : World) (h : Stk w b zs) (hn : n = zs.length) (_ : n ≤ cap) (ho : Oct d0 d1 d2 d3 d4 d5 d6 d7) :
    Calls Try.prog 10 #[.slice (some ⟨b, 0, none⟩) n cap, .agg #[.int .u8 d0, .int .u8 d1, .int .u8 d2, .int .u8 d3, .int .u8 d4, .int .u8 d5, .int .u8 d6, .int .u8 d7], .int .i64 c] w fun e w' => e = .returned (.tuple #[.agg #[.int .u8 (dg (addR zs [d0, d1, d2, d3, d4, d5, d6, d7] c).1 0), .int .u8 (dg (addR zs [d0, d1, d2, d3, d4, d5, d6, d7] c).1 1), .int .u8 (dg (addR zs [d0, d1, d2, d3, d4, d5, d6, d7] c).1 2), .int .u8 (dg (addR zs [d0, d1, d2, d3, d4, d5, d6, d7] c).1 3), .int .u8 (dg (addR zs [d0, d1, d2, d3, d4, d5, d6, d7] c).1 4), .int .u8 (dg (addR zs [d0, d1, d2, d3, d4, d5, d6, d7] c).1 5), .int .u8 (dg (addR zs [d0, d1, d2, d3, d4, d5, d6, d7] c).1 6), .int .u8 (dg (addR zs [d0, d1, d2, d3, d4, d5, d6, d7] c).1 7)], .int .i64 (addR zs [d0, d1, d2, d3, d4, d5, d6, d7] c).2.1, .int .i64 (addR zs [d0, d1, d2, d3, d4, d5, d6, d7] c).2.2]) ∧ Below w.heap.size w w' := by
  have N := hid hn; have HO := hid ho
  have hB0 : Below w.heap.size w ((w.alloc (.cells #[.int .u8 d0, .int .u8 d1, .int .u8 d2, .int .u8 d3, .int .u8 d4, .int .u8 d5, .int .u8 d6, .int .u8 d7] 28)).alloc (.cells #[.int .u8 0, .int .u8 0, .int .u8 0, .int .u8 0, .int .u8 0, .int .u8 0, .int .u8 0, .int .u8 0] 28)) := ((Below.refl w.heap.size w).alloc (Nat.le_refl _) _).alloc (by simp) _
  have hbl := h.1
  have H1 := hid (h.below hB0 h.1)
  have rD := hid ((Row.new w 28 [.int .u8 d0, .int .u8 d1, .int .u8 d2, .int .u8 d3, .int .u8 d4, .int .u8 d5, .int .u8 d6, .int .u8 d7]).alloc (.cells #[.int .u8 0, .int .u8 0, .int .u8 0, .int .u8 0, .int .u8 0, .int .u8 0, .int .u8 0, .int .u8 0] 28))
  have rR := Row.new (w.alloc (.cells #[.int .u8 d0, .int .u8 d1, .int .u8 d2, .int .u8 d3, .int .u8 d4, .int .u8 d5, .int .u8 d6, .int .u8 d7] 28)) 28 [.int .u8 0, .int .u8 0, .int .u8 0, .int .u8 0, .int .u8 0, .int .u8 0, .int .u8 0, .int .u8 0]
  simp only [World.size_alloc] at rR
  have HR := hid rR
  have hcc := hid (fun w => l01Count_any c w)
  clear h ho rR
  cases hv : okV zs [d0, d1, d2, d3, d4, d5, d6, d7] with
  | false =>
    rw [addR_no c hv]
    have V := hid hv
    clear hv hn
    go_enter Try.func10, Try.ntmps10
    go_wp2_with fail
    have hX := specValidDigits_any _ n cap zs d0 d1 d2 d3 d4 d5 d6 d7 _ H1.out N.out HO.out
    rw [V.out] at hX
    refine hX.mono ?_
    clear hX
    rintro e w1 ⟨rfl, hB1⟩
    have hz1 := hB1.size
    simp only [World.size_alloc] at hB1 hz1
    have r1 := (HR.out.below hB1 (by omega))
    have g0 := r1.cell 0; have k0 := r1.frozen 0; have g1 := r1.cell 1; have k1 := r1.frozen 1; have g2 := r1.cell 2; have k2 := r1.frozen 2; have g3 := r1.cell 3; have k3 := r1.frozen 3; have g4 := r1.cell 4; have k4 := r1.frozen 4; have g5 := r1.cell 5; have k5 := r1.frozen 5; have g6 := r1.cell 6; have k6 := r1.frozen 6; have g7 := r1.cell 7; have k7 := r1.frozen 7
    simp only [List.getElem?_cons_zero, List.getElem?_cons_succ] at g0 g1 g2 g3 g4 g5 g6 g7
    have r2 := hid (r1.set8 rfl (.int .u8 0) (.int .u8 0) (.int .u8 0) (.int .u8 0) (.int .u8 0) (.int .u8 0) (.int .u8 0) (.int .u8 0))
    have b2 := hid (below_set8 (g := w.heap.size + 1) (hB0.trans (hB1.mono (by omega))) (by omega) (.int .u8 0) (.int .u8 0) (.int .u8 0) (.int .u8 0) (.int .u8 0) (.int .u8 0) (.int .u8 0) (.int .u8 0))
    clear r1
    go_wp2_with fail
    clear g0 k0 g1 k1 g2 k2 g3 k3 g4 k4 g5 k5 g6 k6 g7 k7
    obtain ⟨W, hW⟩ : ∃ W, W = ((((((((w1.setCell ⟨w.heap.size + 1, 0, none⟩ (.int .u8 0)).setCell ⟨w.heap.size + 1, 1, none⟩ (.int .u8 0)).setCell ⟨w.heap.size + 1, 2, none⟩ (.int .u8 0)).setCell ⟨w.heap.size + 1, 3, none⟩ (.int .u8 0)).setCell ⟨w.heap.size + 1, 4, none⟩ (.int .u8 0)).setCell ⟨w.heap.size + 1, 5, none⟩ (.int .u8 0)).setCell ⟨w.heap.size + 1, 6, none⟩ (.int .u8 0)).setCell ⟨w.heap.size + 1, 7, none⟩ (.int .u8 0)) := ⟨_, rfl⟩
    rw [← hW] at r2 b2 ⊢
    clear hW
    have r2 := r2.out
    have g0 := r2.cell 0; have g1 := r2.cell 1; have g2 := r2.cell 2; have g3 := r2.cell 3; have g4 := r2.cell 4; have g5 := r2.cell 5; have g6 := r2.cell 6; have g7 := r2.cell 7
    simp only [List.getElem?_cons_zero, List.getElem?_cons_succ] at g0 g1 g2 g3 g4 g5 g6 g7
    exact bodyPost_ret (v := .tuple #[.agg #[.int .u8 0, .int .u8 0, .int .u8 0, .int .u8 0, .int .u8 0, .int .u8 0, .int .u8 0, .int .u8 0], .int .i64 0, .int .i64 1]) (by simp [results, Try.results10, go_sem, g0, g1, g2, g3, g4, g5, g6, g7]) rfl ⟨rfl, b2.out⟩
  | true =>
    have V := hid hv
    by_cases hc : -1000000000000 ≤ c ∧ c ≤ 1000000000000
    rotate_left
    · rw [addR_out c hv hc]
      have hcb : (decide (-1000000000000 ≤ c) && decide (c ≤ 1000000000000)) = false := by
        simp only [Bool.and_eq_false_iff, decide_eq_false_iff_not]; omega
      rw [hcb] at hcc
      clear hv hn hc hcb
      go_enter Try.func10, Try.ntmps10
      go_wp2_with fail
      have hX := specValidDigits_any _ n cap zs d0 d1 d2 d3 d4 d5 d6 d7 _ H1.out N.out HO.out
      rw [V.out] at hX
      refine hX.mono ?_
      clear hX
      rintro e w1 ⟨rfl, hB1⟩
      have hz1 := hB1.size
      simp only [World.size_alloc] at hB1 hz1
      go_wp2_with fail
      refine (hcc.out w1).mono ?_
      rintro e w' ⟨rfl, rfl⟩
      have r1 := (HR.out.below hB1 (by omega))
      have g0 := r1.cell 0; have k0 := r1.frozen 0; have g1 := r1.cell 1; have k1 := r1.frozen 1; have g2 := r1.cell 2; have k2 := r1.frozen 2; have g3 := r1.cell 3; have k3 := r1.frozen 3; have g4 := r1.cell 4; have k4 := r1.frozen 4; have g5 := r1.cell 5; have k5 := r1.frozen 5; have g6 := r1.cell 6; have k6 := r1.frozen 6; have g7 := r1.cell 7; have k7 := r1.frozen 7
      simp only [List.getElem?_cons_zero, List.getElem?_cons_succ] at g0 g1 g2 g3 g4 g5 g6 g7
      have r2 := hid (r1.set8 rfl (.int .u8 0) (.int .u8 0) (.int .u8 0) (.int .u8 0) (.int .u8 0) (.int .u8 0) (.int .u8 0) (.int .u8 0))
      have b2 := hid (below_set8 (g := w.heap.size + 1) (hB0.trans (hB1.mono (by omega))) (by omega) (.int .u8 0) (.int .u8 0) (.int .u8 0) (.int .u8 0) (.int .u8 0) (.int .u8 0) (.int .u8 0) (.int .u8 0))
      clear r1
      go_wp2_with fail
      clear g0 k0 g1 k1 g2 k2 g3 k3 g4 k4 g5 k5 g6 k6 g7 k7
      obtain ⟨W, hW⟩ : ∃ W, W = ((((((((w1.setCell ⟨w.heap.size + 1, 0, none⟩ (.int .u8 0)).setCell ⟨w.heap.size + 1, 1, none⟩ (.int .u8 0)).setCell ⟨w.heap.size + 1, 2, none⟩ (.int .u8 0)).setCell ⟨w.heap.size + 1, 3, none⟩ (.int .u8 0)).setCell ⟨w.heap.size + 1, 4, none⟩ (.int .u8 0)).setCell ⟨w.heap.size + 1, 5, none⟩ (.int .u8 0)).setCell ⟨w.heap.size + 1, 6, none⟩ (.int .u8 0)).setCell ⟨w.heap.size + 1, 7, none⟩ (.int .u8 0)) := ⟨_, rfl⟩
      rw [← hW] at r2 b2 ⊢
      clear hW
      have r2 := r2.out
      have g0 := r2.cell 0; have g1 := r2.cell 1; have g2 := r2.cell 2; have g3 := r2.cell 3; have g4 := r2.cell 4; have g5 := r2.cell 5; have g6 := r2.cell 6; have g7 := r2.cell 7
      simp only [List.getElem?_cons_zero, List.getElem?_cons_succ] at g0 g1 g2 g3 g4 g5 g6 g7
      exact bodyPost_ret (v := .tuple #[.agg #[.int .u8 0, .int .u8 0, .int .u8 0, .int .u8 0, .int .u8 0, .int .u8 0, .int .u8 0, .int .u8 0], .int .i64 0, .int .i64 2]) (by simp [results, Try.results10, go_sem, g0, g1, g2, g3, g4, g5, g6, g7]) rfl ⟨rfl, b2.out⟩
    · rw [addR_yes c hv hc]
      have hcb : (decide (-1000000000000 ≤ c) && decide (c ≤ 1000000000000)) = true := by simp; omega
      rw [hcb] at hcc
      have HA := hid (fun (w : World) (hS : Stk w b zs) => l01Add_any b n cap zs d0 d1 d2 d3 d4 d5 d6 d7 c w hS hn HO.out hv hc)
      obtain ⟨M, hM⟩ : ∃ M, M = (valL zs [d0, d1, d2, d3, d4, d5, d6, d7] zs.length + c) % szL zs := ⟨_, rfl⟩
      obtain ⟨Q, hQ⟩ : ∃ Q, Q = (valL zs [d0, d1, d2, d3, d4, d5, d6, d7] zs.length + c) / szL zs := ⟨_, rfl⟩
      rw [← hM, ← hQ] at HA
      rw [← hM, ← hQ]
      have f := rD.out
      clear hv hn hc hcb hM hQ
      go_enter Try.func10, Try.ntmps10
      go_wp2_with fail
      have hX := specValidDigits_any _ n cap zs d0 d1 d2 d3 d4 d5 d6 d7 _ H1.out N.out HO.out
      rw [V.out] at hX
      refine hX.mono ?_
      clear hX
      rintro e w1 ⟨rfl, hB1⟩
      have hz1 := hB1.size
      simp only [World.size_alloc] at hB1 hz1
      have S1 := hid (H1.out.below hB1 (by omega))
      have f := f.below hB1 (by omega)
      have f0 := f.cell 0; have f1 := f.cell 1; have f2 := f.cell 2; have f3 := f.cell 3; have f4 := f.cell 4; have f5 := f.cell 5; have f6 := f.cell 6; have f7 := f.cell 7
      simp only [List.getElem?_cons_zero, List.getElem?_cons_succ] at f0 f1 f2 f3 f4 f5 f6 f7
      clear f
      go_wp2_with fail
      refine (hcc.out w1).mono ?_
      rintro e w' ⟨rfl, rfl⟩
      go_wp2_with fail
      refine (HA.out w1 S1.out).mono ?_
      rintro e w2 ⟨rfl, hB2⟩
      have hz2 := hB2.size
      clear f0 f1 f2 f3 f4 f5 f6 f7
      have hBa : Below w2.heap.size w2 (w2.alloc (.cells #[.int .u8 (dg (dgL zs M) 0), .int .u8 (dg (dgL zs M) 1), .int .u8 (dg (dgL zs M) 2), .int .u8 (dg (dgL zs M) 3), .int .u8 (dg (dgL zs M) 4), .int .u8 (dg (dgL zs M) 5), .int .u8 (dg (dgL zs M) 6), .int .u8 (dg (dgL zs M) 7)] 28)) := (Below.refl _ _).alloc (Nat.le_refl _) _
      have r1 := (((HR.out.below hB1 (by omega)).below hB2 (by omega)).below hBa (by omega))
      have g0 := r1.cell 0; have k0 := r1.frozen 0; have g1 := r1.cell 1; have k1 := r1.frozen 1; have g2 := r1.cell 2; have k2 := r1.frozen 2; have g3 := r1.cell 3; have k3 := r1.frozen 3; have g4 := r1.cell 4; have k4 := r1.frozen 4; have g5 := r1.cell 5; have k5 := r1.frozen 5; have g6 := r1.cell 6; have k6 := r1.frozen 6; have g7 := r1.cell 7; have k7 := r1.frozen 7
      simp only [List.getElem?_cons_zero, List.getElem?_cons_succ] at g0 g1 g2 g3 g4 g5 g6 g7
      have r2 := hid (r1.set8 rfl (.int .u8 (dg (dgL zs M) 0)) (.int .u8 (dg (dgL zs M) 1)) (.int .u8 (dg (dgL zs M) 2)) (.int .u8 (dg (dgL zs M) 3)) (.int .u8 (dg (dgL zs M) 4)) (.int .u8 (dg (dgL zs M) 5)) (.int .u8 (dg (dgL zs M) 6)) (.int .u8 (dg (dgL zs M) 7)))
      have b2 := hid (below_set8 (g := w.heap.size + 1) (hB0.trans ((hB1.mono (by omega)).trans ((hB2.mono (by omega)).trans (hBa.mono (by omega))))) (by omega) (.int .u8 (dg (dgL zs M) 0)) (.int .u8 (dg (dgL zs M) 1)) (.int .u8 (dg (dgL zs M) 2)) (.int .u8 (dg (dgL zs M) 3)) (.int .u8 (dg (dgL zs M) 4)) (.int .u8 (dg (dgL zs M) 5)) (.int .u8 (dg (dgL zs M) 6)) (.int .u8 (dg (dgL zs M) 7)))
      clear r1
      have rA := Row.new w2 28 [.int .u8 (dg (dgL zs M) 0), .int .u8 (dg (dgL zs M) 1), .int .u8 (dg (dgL zs M) 2), .int .u8 (dg (dgL zs M) 3), .int .u8 (dg (dgL zs M) 4), .int .u8 (dg (dgL zs M) 5), .int .u8 (dg (dgL zs M) 6), .int .u8 (dg (dgL zs M) 7)]
      have p0 := rA.cell 0; have p1 := rA.cell 1; have p2 := rA.cell 2; have p3 := rA.cell 3; have p4 := rA.cell 4; have p5 := rA.cell 5; have p6 := rA.cell 6; have p7 := rA.cell 7
      simp only [List.getElem?_cons_zero, List.getElem?_cons_succ] at p0 p1 p2 p3 p4 p5 p6 p7
      clear rA
      go_wp2_with fail
      clear p0 p1 p2 p3 p4 p5 p6 p7
      clear g0 k0 g1 k1 g2 k2 g3 k3 g4 k4 g5 k5 g6 k6 g7 k7
      obtain ⟨W, hW⟩ : ∃ W, W = (((((((((w2.alloc (.cells #[.int .u8 (dg (dgL zs M) 0), .int .u8 (dg (dgL zs M) 1), .int .u8 (dg (dgL zs M) 2), .int .u8 (dg (dgL zs M) 3), .int .u8 (dg (dgL zs M) 4), .int .u8 (dg (dgL zs M) 5), .int .u8 (dg (dgL zs M) 6), .int .u8 (dg (dgL zs M) 7)] 28)).setCell ⟨w.heap.size + 1, 0, none⟩ (.int .u8 (dg (dgL zs M) 0))).setCell ⟨w.heap.size + 1, 1, none⟩ (.int .u8 (dg (dgL zs M) 1))).setCell ⟨w.heap.size + 1, 2, none⟩ (.int .u8 (dg (dgL zs M) 2))).setCell ⟨w.heap.size + 1, 3, none⟩ (.int .u8 (dg (dgL zs M) 3))).setCell ⟨w.heap.size + 1, 4, none⟩ (.int .u8 (dg (dgL zs M) 4))).setCell ⟨w.heap.size + 1, 5, none⟩ (.int .u8 (dg (dgL zs M) 5))).setCell ⟨w.heap.size + 1, 6, none⟩ (.int .u8 (dg (dgL zs M) 6))).setCell ⟨w.heap.size + 1, 7, none⟩ (.int .u8 (dg (dgL zs M) 7))) := ⟨_, rfl⟩
      rw [← hW] at r2 b2 ⊢
      clear hW
      have r2 := r2.out
      have g0 := r2.cell 0; have g1 := r2.cell 1; have g2 := r2.cell 2; have g3 := r2.cell 3; have g4 := r2.cell 4; have g5 := r2.cell 5; have g6 := r2.cell 6; have g7 := r2.cell 7
      simp only [List.getElem?_cons_zero, List.getElem?_cons_succ] at g0 g1 g2 g3 g4 g5 g6 g7
      exact bodyPost_ret (v := .tuple #[.agg #[.int .u8 (dg (dgL zs M) 0), .int .u8 (dg (dgL zs M) 1), .int .u8 (dg (dgL zs M) 2), .int .u8 (dg (dgL zs M) 3), .int .u8 (dg (dgL zs M) 4), .int .u8 (dg (dgL zs M) 5), .int .u8 (dg (dgL zs M) 6), .int .u8 (dg (dgL zs M) 7)], .int .i64 Q, .int .i64 0]) (by simp [results, Try.results10, go_sem, g0, g1, g2, g3, g4, g5, g6, g7]) rfl ⟨rfl, b2.out⟩
end Go.Proofs.Ytigiegdkfgjmcaa
