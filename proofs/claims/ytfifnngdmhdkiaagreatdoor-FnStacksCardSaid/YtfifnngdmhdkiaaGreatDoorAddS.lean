/- AddTo: the model's answers. -/
import Derived.Test.YtfifnngdmhdkiaaGreatDoorAddC
namespace Go.Proofs.YtfifnngdmhdkiaaGreatDoor
open Go.RowKit

set_option maxRecDepth 100000 in
set_option maxHeartbeats 4000000 in
theorem l01Add_any (b n cap : Nat) (zs : List Int) (d0 d1 d2 d3 d4 d5 d6 d7 c : Int) (w : World) (h : Stk w b zs) (hn : n = zs.length) (ho : Oct d0 d1 d2 d3 d4 d5 d6 d7) (hv : okV zs [d0, d1, d2, d3, d4, d5, d6, d7] = true) (hc : -1000000000000 ≤ c ∧ c ≤ 1000000000000) :
    Calls Tryz.prog 63 #[.slice (some ⟨b, 0, none⟩) n cap, .agg #[.int .u8 d0, .int .u8 d1, .int .u8 d2, .int .u8 d3, .int .u8 d4, .int .u8 d5, .int .u8 d6, .int .u8 d7], .int .i64 c] w fun e w' => e = .returned (.tuple #[.agg #[.int .u8 (dg (dgL zs ((valL zs [d0, d1, d2, d3, d4, d5, d6, d7] zs.length + c) % szL zs)) 0), .int .u8 (dg (dgL zs ((valL zs [d0, d1, d2, d3, d4, d5, d6, d7] zs.length + c) % szL zs)) 1), .int .u8 (dg (dgL zs ((valL zs [d0, d1, d2, d3, d4, d5, d6, d7] zs.length + c) % szL zs)) 2), .int .u8 (dg (dgL zs ((valL zs [d0, d1, d2, d3, d4, d5, d6, d7] zs.length + c) % szL zs)) 3), .int .u8 (dg (dgL zs ((valL zs [d0, d1, d2, d3, d4, d5, d6, d7] zs.length + c) % szL zs)) 4), .int .u8 (dg (dgL zs ((valL zs [d0, d1, d2, d3, d4, d5, d6, d7] zs.length + c) % szL zs)) 5), .int .u8 (dg (dgL zs ((valL zs [d0, d1, d2, d3, d4, d5, d6, d7] zs.length + c) % szL zs)) 6), .int .u8 (dg (dgL zs ((valL zs [d0, d1, d2, d3, d4, d5, d6, d7] zs.length + c) % szL zs)) 7)], .int .i64 ((valL zs [d0, d1, d2, d3, d4, d5, d6, d7] zs.length + c) / szL zs)]) ∧ Below w.heap.size w w' := by
  have hB0 : Below w.heap.size w ((w.alloc (.cells #[.int .u8 d0, .int .u8 d1, .int .u8 d2, .int .u8 d3, .int .u8 d4, .int .u8 d5, .int .u8 d6, .int .u8 d7] 30)).alloc (.cells #[.int .u8 0, .int .u8 0, .int .u8 0, .int .u8 0, .int .u8 0, .int .u8 0, .int .u8 0, .int .u8 0] 30)) := ((Below.refl w.heap.size w).alloc (Nat.le_refl _) _).alloc (by simp) _
  have hbl := h.1
  have S0 := hid (h.below hB0 h.1)
  have rD := hid ((Row.new w 30 [.int .u8 d0, .int .u8 d1, .int .u8 d2, .int .u8 d3, .int .u8 d4, .int .u8 d5, .int .u8 d6, .int .u8 d7]).alloc (.cells #[.int .u8 0, .int .u8 0, .int .u8 0, .int .u8 0, .int .u8 0, .int .u8 0, .int .u8 0, .int .u8 0] 30))
  have rR := Row.new (w.alloc (.cells #[.int .u8 d0, .int .u8 d1, .int .u8 d2, .int .u8 d3, .int .u8 d4, .int .u8 d5, .int .u8 d6, .int .u8 d7] 30)) 30 [.int .u8 0, .int .u8 0, .int .u8 0, .int .u8 0, .int .u8 0, .int .u8 0, .int .u8 0, .int .u8 0]
  simp only [World.size_alloc] at rR
  have HR := hid rR
  have N := hid hn
  obtain ⟨hv1, hv2⟩ := okV_out hv
  obtain ⟨_, h8, hin, hs1, hs2⟩ := okL_out hv1
  have hlt := okD_lt hv2 h8 (fun j hj => (oct_bd ho j hj).1)
  have bV := valL_bd zs [d0, d1, d2, d3, d4, d5, d6, d7] zs.length (Nat.le_refl _) hin hlt
  rw [List.take_length] at bV
  have HV := hid (fun (w : World) (hS : Stk w b zs) => l01Value_ok b n cap zs d0 d1 d2 d3 d4 d5 d6 d7 ho hv (by omega) w hS)
  have HZ := hid (fun (w : World) (hS : Stk w b zs) => l01Size_ok b n cap zs w hS hn hv1)
  have FD := hid (fun (x : Int) (hx : -1000000000000000000 ≤ x ∧ x ≤ 1000000000000000000) w => l01Down_any x (szL zs) hx (by omega) w)
  have m0 := Int.emod_nonneg (valL zs [d0, d1, d2, d3, d4, d5, d6, d7] zs.length + c) (show szL zs ≠ 0 by omega)
  have m1 := Int.emod_lt_of_pos (valL zs [d0, d1, d2, d3, d4, d5, d6, d7] zs.length + c) (show 0 < szL zs by omega)
  have HD := hid (fun (w : World) (hS : Stk w b zs) => l01Of_any b n cap zs hn hv1 ((valL zs [d0, d1, d2, d3, d4, d5, d6, d7] zs.length + c) % szL zs) m0 (by omega) w hS)
  have em := Int.mul_ediv_add_emod (valL zs [d0, d1, d2, d3, d4, d5, d6, d7] zs.length + c) (szL zs)
  rw [Int.mul_comm] at em
  rw [hn] at HV
  rw [← hn] at HV
  obtain ⟨T, hT⟩ : ∃ T, T = valL zs [d0, d1, d2, d3, d4, d5, d6, d7] zs.length := ⟨_, rfl⟩
  rw [hn, ← hT, ← hn] at HV
  rw [← hT] at bV m0 m1 HD em
  rw [← hT]
  obtain ⟨Z, hZ⟩ : ∃ Z, Z = szL zs := ⟨_, rfl⟩
  rw [← hZ] at HZ FD bV hs1 hs2 m0 m1 HD em
  rw [← hZ]
  have FD2 := hid (fun w => FD.out (T + c) (by omega) w)
  obtain ⟨M, hM⟩ : ∃ M, M = (T + c) % Z := ⟨_, rfl⟩
  obtain ⟨Q, hQ⟩ : ∃ Q, Q = (T + c) / Z := ⟨_, rfl⟩
  rw [← hM] at m0 m1 HD em
  rw [← hQ] at FD2 em
  rw [← hM, ← hQ]
  have q1 : -10000000000000 ≤ Q * Z := by omega
  have q2 : Q * Z ≤ 10000000000000 := by omega
  have HE := hid (show T + c - Q * Z = M by omega)
  clear hv hn hv1 hv2 h8 hin hlt hT hZ FD hM hQ em ho h rR
  have f := rD.out
  have f0 := f.cell 0; have f1 := f.cell 1; have f2 := f.cell 2; have f3 := f.cell 3; have f4 := f.cell 4; have f5 := f.cell 5; have f6 := f.cell 6; have f7 := f.cell 7
  simp only [List.getElem?_cons_zero, List.getElem?_cons_succ] at f0 f1 f2 f3 f4 f5 f6 f7
  clear f
  go_enter Tryz.func63, Tryz.ntmps63
  go_wp2_with fail
  refine (HZ.out _ S0.out).mono ?_
  rintro e w' ⟨rfl, rfl⟩
  go_wp2_with fail
  refine (HV.out _ S0.out).mono ?_
  rintro e w1 ⟨rfl, hB1⟩
  have hz1 := hB1.size
  simp only [World.size_alloc] at hB1 hz1
  have S1 := hid (S0.out.below hB1 (by omega))
  clear f0 f1 f2 f3 f4 f5 f6 f7
  go_wp2_with fail
  refine (FD2.out w1).mono ?_
  rintro e w' ⟨rfl, rfl⟩
  go_wp2_with fail
  rw [HE.out]
  refine (HD.out w1 S1.out).mono ?_
  rintro e w2 ⟨rfl, hB2⟩
  have hz2 := hB2.size
  have r1 := ((((HR.out.below hB1 (by omega)).below hB2 (by omega))))
  have g0 := r1.cell 0; have k0 := r1.frozen 0; have g1 := r1.cell 1; have k1 := r1.frozen 1; have g2 := r1.cell 2; have k2 := r1.frozen 2; have g3 := r1.cell 3; have k3 := r1.frozen 3; have g4 := r1.cell 4; have k4 := r1.frozen 4; have g5 := r1.cell 5; have k5 := r1.frozen 5; have g6 := r1.cell 6; have k6 := r1.frozen 6; have g7 := r1.cell 7; have k7 := r1.frozen 7
  simp only [List.getElem?_cons_zero, List.getElem?_cons_succ] at g0 g1 g2 g3 g4 g5 g6 g7
  have r2 := hid (r1.set8 rfl (.int .u8 (dg (dgL zs M) 0)) (.int .u8 (dg (dgL zs M) 1)) (.int .u8 (dg (dgL zs M) 2)) (.int .u8 (dg (dgL zs M) 3)) (.int .u8 (dg (dgL zs M) 4)) (.int .u8 (dg (dgL zs M) 5)) (.int .u8 (dg (dgL zs M) 6)) (.int .u8 (dg (dgL zs M) 7)))
  have b2 := hid (below_set8 (g := w.heap.size + 1) (hB0.trans ((hB1.mono (by omega)).trans (hB2.mono (by omega)))) (by omega) (.int .u8 (dg (dgL zs M) 0)) (.int .u8 (dg (dgL zs M) 1)) (.int .u8 (dg (dgL zs M) 2)) (.int .u8 (dg (dgL zs M) 3)) (.int .u8 (dg (dgL zs M) 4)) (.int .u8 (dg (dgL zs M) 5)) (.int .u8 (dg (dgL zs M) 6)) (.int .u8 (dg (dgL zs M) 7)))
  clear r1
  go_wp2_with fail
  clear g0 k0 g1 k1 g2 k2 g3 k3 g4 k4 g5 k5 g6 k6 g7 k7
  obtain ⟨W, hW⟩ : ∃ W, W = ((((((((w2.setCell ⟨w.heap.size + 1, 0, none⟩ (.int .u8 (dg (dgL zs M) 0))).setCell ⟨w.heap.size + 1, 1, none⟩ (.int .u8 (dg (dgL zs M) 1))).setCell ⟨w.heap.size + 1, 2, none⟩ (.int .u8 (dg (dgL zs M) 2))).setCell ⟨w.heap.size + 1, 3, none⟩ (.int .u8 (dg (dgL zs M) 3))).setCell ⟨w.heap.size + 1, 4, none⟩ (.int .u8 (dg (dgL zs M) 4))).setCell ⟨w.heap.size + 1, 5, none⟩ (.int .u8 (dg (dgL zs M) 5))).setCell ⟨w.heap.size + 1, 6, none⟩ (.int .u8 (dg (dgL zs M) 6))).setCell ⟨w.heap.size + 1, 7, none⟩ (.int .u8 (dg (dgL zs M) 7))) := ⟨_, rfl⟩
  rw [← hW] at r2 b2 ⊢
  clear hW
  have r2 := r2.out
  have g0 := r2.cell 0; have g1 := r2.cell 1; have g2 := r2.cell 2; have g3 := r2.cell 3; have g4 := r2.cell 4; have g5 := r2.cell 5; have g6 := r2.cell 6; have g7 := r2.cell 7
  simp only [List.getElem?_cons_zero, List.getElem?_cons_succ] at g0 g1 g2 g3 g4 g5 g6 g7
  exact bodyPost_ret (v := .tuple #[.agg #[.int .u8 (dg (dgL zs M) 0), .int .u8 (dg (dgL zs M) 1), .int .u8 (dg (dgL zs M) 2), .int .u8 (dg (dgL zs M) 3), .int .u8 (dg (dgL zs M) 4), .int .u8 (dg (dgL zs M) 5), .int .u8 (dg (dgL zs M) 6), .int .u8 (dg (dgL zs M) 7)], .int .i64 Q]) (by simp [results, Tryz.results63, go_sem, g0, g1, g2, g3, g4, g5, g6, g7]) rfl ⟨rfl, b2.out⟩
end Go.Proofs.YtfifnngdmhdkiaaGreatDoor
