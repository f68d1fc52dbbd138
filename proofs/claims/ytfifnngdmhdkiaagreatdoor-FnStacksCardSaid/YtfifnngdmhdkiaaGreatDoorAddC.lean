/- AddTo: the program's answers. -/
import Derived.Test.YtfifnngdmhdkiaaGreatDoorAdd
import Derived.Test.YtfifnngdmhdkiaaGreatDoorOfS
namespace Go.Proofs.YtfifnngdmhdkiaaGreatDoor
open Go.RowKit

def addR (zs ds : List Int) (c : Int) : List Int × Int × Int := if okV zs ds then (if -1000000000000 ≤ c ∧ c ≤ 1000000000000 then (dgL zs ((valL zs ds zs.length + c) % szL zs), (valL zs ds zs.length + c) / szL zs, 0) else ([0, 0, 0, 0, 0, 0, 0, 0], 0, 2)) else ([0, 0, 0, 0, 0, 0, 0, 0], 0, 1)
theorem addR_no {zs ds : List Int} (c : Int) (h : okV zs ds = false) : addR zs ds c = ([0, 0, 0, 0, 0, 0, 0, 0], 0, 1) := by simp [addR, h]
theorem addR_out {zs ds : List Int} (c : Int) (h : okV zs ds = true) (hk : ¬ (-1000000000000 ≤ c ∧ c ≤ 1000000000000)) : addR zs ds c = ([0, 0, 0, 0, 0, 0, 0, 0], 0, 2) := by simp only [addR, h, if_true, if_neg hk]
theorem addR_yes {zs ds : List Int} (c : Int) (h : okV zs ds = true) (hk : -1000000000000 ≤ c ∧ c ≤ 1000000000000) : addR zs ds c = (dgL zs ((valL zs ds zs.length + c) % szL zs), (valL zs ds zs.length + c) / szL zs, 0) := by simp only [addR, h, if_true, if_pos hk]

set_option maxRecDepth 100000 in
set_option maxHeartbeats 4000000 in
theorem implAddTo_any (b n cap : Nat) (zs : List Int) (d0 d1 d2 d3 d4 d5 d6 d7 c : Int) (w : World) (h : Stk w b zs) (hn : n = zs.length) (_ : n ≤ cap) (ho : Oct d0 d1 d2 d3 d4 d5 d6 d7) :
    Calls Tryz.prog 62 #[.slice (some ⟨b, 0, none⟩) n cap, .agg #[.int .u8 d0, .int .u8 d1, .int .u8 d2, .int .u8 d3, .int .u8 d4, .int .u8 d5, .int .u8 d6, .int .u8 d7], .int .i64 c] w fun e w' => e = .returned (.tuple #[.agg #[.int .u8 (dg (addR zs [d0, d1, d2, d3, d4, d5, d6, d7] c).1 0), .int .u8 (dg (addR zs [d0, d1, d2, d3, d4, d5, d6, d7] c).1 1), .int .u8 (dg (addR zs [d0, d1, d2, d3, d4, d5, d6, d7] c).1 2), .int .u8 (dg (addR zs [d0, d1, d2, d3, d4, d5, d6, d7] c).1 3), .int .u8 (dg (addR zs [d0, d1, d2, d3, d4, d5, d6, d7] c).1 4), .int .u8 (dg (addR zs [d0, d1, d2, d3, d4, d5, d6, d7] c).1 5), .int .u8 (dg (addR zs [d0, d1, d2, d3, d4, d5, d6, d7] c).1 6), .int .u8 (dg (addR zs [d0, d1, d2, d3, d4, d5, d6, d7] c).1 7)], .int .i64 (addR zs [d0, d1, d2, d3, d4, d5, d6, d7] c).2.1, .int .i64 (addR zs [d0, d1, d2, d3, d4, d5, d6, d7] c).2.2]) ∧ Below w.heap.size w w' := by
  have N := hid hn; have HO := hid ho
  have hB0 : Below w.heap.size w ((w.alloc (.cells #[.int .u8 d0, .int .u8 d1, .int .u8 d2, .int .u8 d3, .int .u8 d4, .int .u8 d5, .int .u8 d6, .int .u8 d7] 30)).alloc (.cells #[.int .u8 0, .int .u8 0, .int .u8 0, .int .u8 0, .int .u8 0, .int .u8 0, .int .u8 0, .int .u8 0] 30)) := ((Below.refl w.heap.size w).alloc (Nat.le_refl _) _).alloc (by simp) _
  have hbl := h.1
  have H1 := hid (h.below hB0 h.1)
  have rD := hid ((Row.new w 30 [.int .u8 d0, .int .u8 d1, .int .u8 d2, .int .u8 d3, .int .u8 d4, .int .u8 d5, .int .u8 d6, .int .u8 d7]).alloc (.cells #[.int .u8 0, .int .u8 0, .int .u8 0, .int .u8 0, .int .u8 0, .int .u8 0, .int .u8 0, .int .u8 0] 30))
  have rR := Row.new (w.alloc (.cells #[.int .u8 d0, .int .u8 d1, .int .u8 d2, .int .u8 d3, .int .u8 d4, .int .u8 d5, .int .u8 d6, .int .u8 d7] 30)) 30 [.int .u8 0, .int .u8 0, .int .u8 0, .int .u8 0, .int .u8 0, .int .u8 0, .int .u8 0, .int .u8 0]
  simp only [World.size_alloc] at rR
  have HR := hid rR
  clear h ho rR
  cases hv : okV zs [d0, d1, d2, d3, d4, d5, d6, d7] with
  | false =>
    rw [addR_no c hv]
    have V := hid hv
    clear hv hn
    go_enter Tryz.func62, Tryz.ntmps62
    go_wp2_with fail
    have hX := validDigits_any _ n cap zs d0 d1 d2 d3 d4 d5 d6 d7 _ H1.out N.out HO.out
    rw [V.out] at hX
    refine hX.mono ?_
    clear hX
    rintro e w1 ⟨rfl, hB1⟩
    have hz1 := hB1.size
    simp only [World.size_alloc] at hB1 hz1
    have r1 := HR.out.below hB1 (by omega)
    have g0 := r1.cell 0; have k0 := r1.frozen 0; have g1 := r1.cell 1; have k1 := r1.frozen 1; have g2 := r1.cell 2; have k2 := r1.frozen 2; have g3 := r1.cell 3; have k3 := r1.frozen 3; have g4 := r1.cell 4; have k4 := r1.frozen 4; have g5 := r1.cell 5; have k5 := r1.frozen 5; have g6 := r1.cell 6; have k6 := r1.frozen 6; have g7 := r1.cell 7; have k7 := r1.frozen 7
    simp only [List.getElem?_cons_zero, List.getElem?_cons_succ] at g0 g1 g2 g3 g4 g5 g6 g7
    have r2 := hid (r1.set8 rfl (.int .u8 0) (.int .u8 0) (.int .u8 0) (.int .u8 0) (.int .u8 0) (.int .u8 0) (.int .u8 0) (.int .u8 0))
    have b2 := hid (below_set8 (g := w.heap.size + 1) (hB0.trans (hB1.mono (by omega))) (by omega) (.int .u8 0) (.int .u8 0) (.int .u8 0) (.int .u8 0) (.int .u8 0) (.int .u8 0) (.int .u8 0) (.int .u8 0))
    clear r1
    go_wp2_with fail
    clear g0 k0 g1 k1 g2 k2 g3 k3 g4 k4 g5 k5 g6 k6 g7 k7
    obtain ⟨W, hW⟩ : ∃ W, W = ((((((((w1.setCell ⟨w.heap.size + 1, 0, none⟩ (.int .u8 0)).setCell ⟨w.heap.size + 1, 1, none⟩ (.int .u8 0)).setCell ⟨w.heap.size + 1, 2, none⟩ (.int .u8 0)).setCell ⟨w.heap.size + 1, 3, none⟩ (.int .u8 0)).setCell ⟨w.heap.size + 1, 4, none⟩ (.int .u8 0)).setCell ⟨w.heap.size + 1, 5, none⟩ (.int .u8 0)).setCell ⟨w.heap.size + 1, 6, none⟩ (.int .u8 0)).setCell ⟨w.heap.size + 1, 7, none⟩ (.int .u8 0)) := ⟨_, rfl⟩
    rw [← hW] at r2 b2 ⊢
    clear hW
    have r2 := r2.out
    have g0 := r2.cell 0; have g1 := r2.cell 1; have g2 := r2.cell 2; have g3 := r2.cell 3; have g4 := r2.cell 4; have g5 := r2.cell 5; have g6 := r2.cell 6; have g7 := r2.cell 7
    simp only [List.getElem?_cons_zero, List.getElem?_cons_succ] at g0 g1 g2 g3 g4 g5 g6 g7
    exact bodyPost_ret (v := .tuple #[.agg #[.int .u8 0, .int .u8 0, .int .u8 0, .int .u8 0, .int .u8 0, .int .u8 0, .int .u8 0, .int .u8 0], .int .i64 0, .int .i64 1]) (by simp [results, Tryz.results62, go_sem, g0, g1, g2, g3, g4, g5, g6, g7]) rfl ⟨rfl, b2.out⟩
  | true =>
    have V := hid hv
    by_cases hc : -1000000000000 ≤ c ∧ c ≤ 1000000000000
    rotate_left
    · rw [addR_out c hv hc]
      have hcb : (decide (-1000000000000 ≤ c) && decide (c ≤ 1000000000000)) = false := by
        simp only [Bool.and_eq_false_iff, decide_eq_false_iff_not]; omega
      have HC := hid (fun w => countInRange_any c w)
      rw [hcb] at HC
      clear hv hn hc hcb
      go_enter Tryz.func62, Tryz.ntmps62
      go_wp2_with fail
      have hX := validDigits_any _ n cap zs d0 d1 d2 d3 d4 d5 d6 d7 _ H1.out N.out HO.out
      rw [V.out] at hX
      refine hX.mono ?_
      clear hX
      rintro e w1 ⟨rfl, hB1⟩
      have hz1 := hB1.size
      simp only [World.size_alloc] at hB1 hz1
      go_wp2_with fail
      refine (HC.out w1).mono ?_
      rintro e w' ⟨rfl, rfl⟩
      have r1 := HR.out.below hB1 (by omega)
      have g0 := r1.cell 0; have k0 := r1.frozen 0; have g1 := r1.cell 1; have k1 := r1.frozen 1; have g2 := r1.cell 2; have k2 := r1.frozen 2; have g3 := r1.cell 3; have k3 := r1.frozen 3; have g4 := r1.cell 4; have k4 := r1.frozen 4; have g5 := r1.cell 5; have k5 := r1.frozen 5; have g6 := r1.cell 6; have k6 := r1.frozen 6; have g7 := r1.cell 7; have k7 := r1.frozen 7
      simp only [List.getElem?_cons_zero, List.getElem?_cons_succ] at g0 g1 g2 g3 g4 g5 g6 g7
      have r2 := hid (r1.set8 rfl (.int .u8 0) (.int .u8 0) (.int .u8 0) (.int .u8 0) (.int .u8 0) (.int .u8 0) (.int .u8 0) (.int .u8 0))
      have b2 := hid (below_set8 (g := w.heap.size + 1) (hB0.trans (hB1.mono (by omega))) (by omega) (.int .u8 0) (.int .u8 0) (.int .u8 0) (.int .u8 0) (.int .u8 0) (.int .u8 0) (.int .u8 0) (.int .u8 0))
      clear r1
      go_wp2_with fail
      clear g0 k0 g1 k1 g2 k2 g3 k3 g4 k4 g5 k5 g6 k6 g7 k7
      obtain ⟨W, hW⟩ : ∃ W, W = ((((((((w1.setCell ⟨w.heap.size + 1, 0, none⟩ (.int .u8 0)).setCell ⟨w.heap.size + 1, 1, none⟩ (.int .u8 0)).setCell ⟨w.heap.size + 1, 2, none⟩ (.int .u8 0)).setCell ⟨w.heap.size + 1, 3, none⟩ (.int .u8 0)).setCell ⟨w.heap.size + 1, 4, none⟩ (.int .u8 0)).setCell ⟨w.heap.size + 1, 5, none⟩ (.int .u8 0)).setCell ⟨w.heap.size + 1, 6, none⟩ (.int .u8 0)).setCell ⟨w.heap.size + 1, 7, none⟩ (.int .u8 0)) := ⟨_, rfl⟩
      rw [← hW] at r2 b2 ⊢
      clear hW
      have r2 := r2.out
      have g0 := r2.cell 0; have g1 := r2.cell 1; have g2 := r2.cell 2; have g3 := r2.cell 3; have g4 := r2.cell 4; have g5 := r2.cell 5; have g6 := r2.cell 6; have g7 := r2.cell 7
      simp only [List.getElem?_cons_zero, List.getElem?_cons_succ] at g0 g1 g2 g3 g4 g5 g6 g7
      exact bodyPost_ret (v := .tuple #[.agg #[.int .u8 0, .int .u8 0, .int .u8 0, .int .u8 0, .int .u8 0, .int .u8 0, .int .u8 0, .int .u8 0], .int .i64 0, .int .i64 2]) (by simp [results, Tryz.results62, go_sem, g0, g1, g2, g3, g4, g5, g6, g7]) rfl ⟨rfl, b2.out⟩
    · rw [addR_yes c hv hc]
      have hcb : (decide (-1000000000000 ≤ c) && decide (c ≤ 1000000000000)) = true := by simp; omega
      have HC := hid (fun w => countInRange_any c w)
      rw [hcb] at HC
      obtain ⟨hv1, hv2⟩ := okV_out hv
      obtain ⟨_, h8, hin, hs1, hs2⟩ := okL_out hv1
      have hlt := okD_lt hv2 h8 (fun j hj => (oct_bd HO.out j hj).1)
      have bV := valL_bd zs [d0, d1, d2, d3, d4, d5, d6, d7] zs.length (Nat.le_refl _) hin hlt
      rw [List.take_length] at bV
      have HV := hid (fun (w : World) (hS : Stk w b zs) => value_any b n cap zs d0 d1 d2 d3 d4 d5 d6 d7 HO.out hv (by omega) w hS)
      rw [hn] at HV
      rw [← hn] at HV
      have HZ := hid (fun (w : World) (hS : Stk w b zs) => size_any b n cap zs hn hv1 w hS)
      have FD := hid (fun (x : Int) (hx : -1000000000000000000 ≤ x ∧ x ≤ 1000000000000000000) w => floorDiv_any x (szL zs) hx (by omega) w)
      have FM := hid (fun (x : Int) (hx : -1000000000000000000 ≤ x ∧ x ≤ 1000000000000000000) w => floorMod_any x (szL zs) hx (by omega) w)
      have m0 := Int.emod_nonneg (valL zs [d0, d1, d2, d3, d4, d5, d6, d7] zs.length + c) (show szL zs ≠ 0 by omega)
      have m1 := Int.emod_lt_of_pos (valL zs [d0, d1, d2, d3, d4, d5, d6, d7] zs.length + c) (show 0 < szL zs by omega)
      have HD := hid (fun (w : World) (hS : Stk w b zs) => digits_any b n cap zs hn hv1 ((valL zs [d0, d1, d2, d3, d4, d5, d6, d7] zs.length + c) % szL zs) m0 (by omega) w hS)
      obtain ⟨T, hT⟩ : ∃ T, T = valL zs [d0, d1, d2, d3, d4, d5, d6, d7] zs.length := ⟨_, rfl⟩
      rw [hn, ← hT, ← hn] at HV
      rw [← hT] at bV m0 m1 HD
      rw [← hT]
      obtain ⟨Z, hZ⟩ : ∃ Z, Z = szL zs := ⟨_, rfl⟩
      rw [← hZ] at HZ FD FM bV hs1 hs2 m0 m1 HD
      rw [← hZ]
      have hTc : -1000000000000000000 ≤ T + c ∧ T + c ≤ 1000000000000000000 := by omega
      have FD2 := hid (fun w => FD.out (T + c) hTc w)
      have FM2 := hid (fun w => FM.out (T + c) hTc w)
      obtain ⟨M, hM⟩ : ∃ M, M = (T + c) % Z := ⟨_, rfl⟩
      obtain ⟨Q, hQ⟩ : ∃ Q, Q = (T + c) / Z := ⟨_, rfl⟩
      rw [← hM] at FM2 m0 m1 HD
      rw [← hQ] at FD2
      rw [← hM, ← hQ]
      clear hv hn hcb hv1 hv2 h8 hin hlt hT hZ FD FM hM hQ
      go_enter Tryz.func62, Tryz.ntmps62
      go_wp2_with fail
      have hX := validDigits_any _ n cap zs d0 d1 d2 d3 d4 d5 d6 d7 _ H1.out N.out HO.out
      rw [V.out] at hX
      refine hX.mono ?_
      clear hX
      rintro e w1 ⟨rfl, hB1⟩
      have hz1 := hB1.size
      simp only [World.size_alloc] at hB1 hz1
      have S1 := hid (H1.out.below hB1 (by omega))
      have rD1 := rD.out.below hB1 (by omega)
      have f0 := rD1.cell 0; have f1 := rD1.cell 1; have f2 := rD1.cell 2; have f3 := rD1.cell 3; have f4 := rD1.cell 4; have f5 := rD1.cell 5; have f6 := rD1.cell 6; have f7 := rD1.cell 7
      simp only [List.getElem?_cons_zero, List.getElem?_cons_succ] at f0 f1 f2 f3 f4 f5 f6 f7
      clear rD1
      go_wp2_with fail
      refine (HC.out w1).mono ?_
      rintro e w' ⟨rfl, rfl⟩
      go_wp2_with fail
      refine (HV.out w1 S1.out).mono ?_
      rintro e w2 ⟨rfl, hB2⟩
      have hz2 := hB2.size
      have S2 := hid (S1.out.below hB2 (by have := hbl; omega))
      clear f0 f1 f2 f3 f4 f5 f6 f7
      go_wp2_with fail
      refine (HZ.out w2 S2.out).mono ?_
      rintro e w3 ⟨rfl, hB3⟩
      have hz3 := hB3.size
      have S3 := hid (S2.out.below hB3 (by omega))
      go_wp2_with fail
      refine (FM2.out w3).mono ?_
      rintro e w' ⟨rfl, rfl⟩
      go_wp2_with fail
      refine (HD.out w3 S3.out).mono ?_
      rintro e w4 ⟨rfl, hB4⟩
      have hz4 := hB4.size
      go_wp2_with fail
      refine (FD2.out w4).mono ?_
      rintro e w' ⟨rfl, rfl⟩
      have r1 := ((((HR.out.below hB1 (by omega)).below hB2 (by omega)).below hB3 (by omega)).below hB4 (by omega))
      have g0 := r1.cell 0; have k0 := r1.frozen 0; have g1 := r1.cell 1; have k1 := r1.frozen 1; have g2 := r1.cell 2; have k2 := r1.frozen 2; have g3 := r1.cell 3; have k3 := r1.frozen 3; have g4 := r1.cell 4; have k4 := r1.frozen 4; have g5 := r1.cell 5; have k5 := r1.frozen 5; have g6 := r1.cell 6; have k6 := r1.frozen 6; have g7 := r1.cell 7; have k7 := r1.frozen 7
      simp only [List.getElem?_cons_zero, List.getElem?_cons_succ] at g0 g1 g2 g3 g4 g5 g6 g7
      have r2 := hid (r1.set8 rfl (.int .u8 (dg (dgL zs M) 0)) (.int .u8 (dg (dgL zs M) 1)) (.int .u8 (dg (dgL zs M) 2)) (.int .u8 (dg (dgL zs M) 3)) (.int .u8 (dg (dgL zs M) 4)) (.int .u8 (dg (dgL zs M) 5)) (.int .u8 (dg (dgL zs M) 6)) (.int .u8 (dg (dgL zs M) 7)))
      have b2 := hid (below_set8 (g := w.heap.size + 1) (hB0.trans ((hB1.mono (by omega)).trans ((hB2.mono (by omega)).trans ((hB3.mono (by omega)).trans (hB4.mono (by omega)))))) (by omega) (.int .u8 (dg (dgL zs M) 0)) (.int .u8 (dg (dgL zs M) 1)) (.int .u8 (dg (dgL zs M) 2)) (.int .u8 (dg (dgL zs M) 3)) (.int .u8 (dg (dgL zs M) 4)) (.int .u8 (dg (dgL zs M) 5)) (.int .u8 (dg (dgL zs M) 6)) (.int .u8 (dg (dgL zs M) 7)))
      clear r1
      go_wp2_with fail
      clear g0 k0 g1 k1 g2 k2 g3 k3 g4 k4 g5 k5 g6 k6 g7 k7
      obtain ⟨W, hW⟩ : ∃ W, W = ((((((((w4.setCell ⟨w.heap.size + 1, 0, none⟩ (.int .u8 (dg (dgL zs M) 0))).setCell ⟨w.heap.size + 1, 1, none⟩ (.int .u8 (dg (dgL zs M) 1))).setCell ⟨w.heap.size + 1, 2, none⟩ (.int .u8 (dg (dgL zs M) 2))).setCell ⟨w.heap.size + 1, 3, none⟩ (.int .u8 (dg (dgL zs M) 3))).setCell ⟨w.heap.size + 1, 4, none⟩ (.int .u8 (dg (dgL zs M) 4))).setCell ⟨w.heap.size + 1, 5, none⟩ (.int .u8 (dg (dgL zs M) 5))).setCell ⟨w.heap.size + 1, 6, none⟩ (.int .u8 (dg (dgL zs M) 6))).setCell ⟨w.heap.size + 1, 7, none⟩ (.int .u8 (dg (dgL zs M) 7))) := ⟨_, rfl⟩
      rw [← hW] at r2 b2 ⊢
      clear hW
      have r2 := r2.out
      have g0 := r2.cell 0; have g1 := r2.cell 1; have g2 := r2.cell 2; have g3 := r2.cell 3; have g4 := r2.cell 4; have g5 := r2.cell 5; have g6 := r2.cell 6; have g7 := r2.cell 7
      simp only [List.getElem?_cons_zero, List.getElem?_cons_succ] at g0 g1 g2 g3 g4 g5 g6 g7
      exact bodyPost_ret (v := .tuple #[.agg #[.int .u8 (dg (dgL zs M) 0), .int .u8 (dg (dgL zs M) 1), .int .u8 (dg (dgL zs M) 2), .int .u8 (dg (dgL zs M) 3), .int .u8 (dg (dgL zs M) 4), .int .u8 (dg (dgL zs M) 5), .int .u8 (dg (dgL zs M) 6), .int .u8 (dg (dgL zs M) 7)], .int .i64 Q, .int .i64 0]) (by simp [results, Tryz.results62, go_sem, g0, g1, g2, g3, g4, g5, g6, g7]) rfl ⟨rfl, b2.out⟩
end Go.Proofs.YtfifnngdmhdkiaaGreatDoor
