/- Complement: the model's answer. -/
import Derived.Test.YtfifnngdmhdkiaaGreatDoorComp
namespace Go.Proofs.YtfifnngdmhdkiaaGreatDoor
open Go.RowKit
set_option maxRecDepth 100000 in
set_option maxHeartbeats 4000000 in
theorem specComplement_any (b n cap : Nat) (zs : List Int) (d0 d1 d2 d3 d4 d5 d6 d7 : Int) (w : World) (h : Stk w b zs) (hn : n = zs.length) (_ : n ≤ cap) (ho : Oct d0 d1 d2 d3 d4 d5 d6 d7) :
    Calls Tryz.prog 23 #[.slice (some ⟨b, 0, none⟩) n cap, .agg #[.int .u8 d0, .int .u8 d1, .int .u8 d2, .int .u8 d3, .int .u8 d4, .int .u8 d5, .int .u8 d6, .int .u8 d7]] w fun e w' => e = .returned (.tuple #[.agg (#[.int .u8 (dg (cmpR zs [d0, d1, d2, d3, d4, d5, d6, d7]).1 0), .int .u8 (dg (cmpR zs [d0, d1, d2, d3, d4, d5, d6, d7]).1 1), .int .u8 (dg (cmpR zs [d0, d1, d2, d3, d4, d5, d6, d7]).1 2), .int .u8 (dg (cmpR zs [d0, d1, d2, d3, d4, d5, d6, d7]).1 3), .int .u8 (dg (cmpR zs [d0, d1, d2, d3, d4, d5, d6, d7]).1 4), .int .u8 (dg (cmpR zs [d0, d1, d2, d3, d4, d5, d6, d7]).1 5), .int .u8 (dg (cmpR zs [d0, d1, d2, d3, d4, d5, d6, d7]).1 6), .int .u8 (dg (cmpR zs [d0, d1, d2, d3, d4, d5, d6, d7]).1 7)]), .int .i64 (cmpR zs [d0, d1, d2, d3, d4, d5, d6, d7]).2]) ∧ Below w.heap.size w w' := by
  have N := hid hn; have HO := hid ho
  have hB0 : Below w.heap.size w ((w.alloc (.cells #[.int .u8 d0, .int .u8 d1, .int .u8 d2, .int .u8 d3, .int .u8 d4, .int .u8 d5, .int .u8 d6, .int .u8 d7] 30)).alloc (.cells #[.int .u8 0, .int .u8 0, .int .u8 0, .int .u8 0, .int .u8 0, .int .u8 0, .int .u8 0, .int .u8 0] 30)) := ((Below.refl w.heap.size w).alloc (Nat.le_refl _) _).alloc (by simp) _
  have hbl := h.1
  have HW := hid h.2.1
  have H1 := hid (h.below hB0 h.1)
  have rD := hid ((Row.new w 30 [.int .u8 d0, .int .u8 d1, .int .u8 d2, .int .u8 d3, .int .u8 d4, .int .u8 d5, .int .u8 d6, .int .u8 d7]).alloc (.cells #[.int .u8 0, .int .u8 0, .int .u8 0, .int .u8 0, .int .u8 0, .int .u8 0, .int .u8 0, .int .u8 0] 30))
  have rR := Row.new (w.alloc (.cells #[.int .u8 d0, .int .u8 d1, .int .u8 d2, .int .u8 d3, .int .u8 d4, .int .u8 d5, .int .u8 d6, .int .u8 d7] 30)) 30 [.int .u8 0, .int .u8 0, .int .u8 0, .int .u8 0, .int .u8 0, .int .u8 0, .int .u8 0, .int .u8 0]
  simp only [World.size_alloc] at rR
  have HR := hid rR
  clear h ho rR
  cases hv : okV zs [d0, d1, d2, d3, d4, d5, d6, d7] with
  | false =>
    rw [cmpR_no hv]
    have V := hid hv
    clear hv hn
    go_enter Tryz.func23, Tryz.ntmps23
    go_wp2_with fail
    have hX := specValidDigits_any _ n cap zs d0 d1 d2 d3 d4 d5 d6 d7 _ H1.out N.out HO.out
    rw [V.out] at hX
    refine hX.mono ?_
    clear hX
    rintro e w1 ⟨rfl, hB1⟩
    have hz1 := hB1.size
    simp only [World.size_alloc] at hB1 hz1
    have r1 := HR.out.below hB1 (by omega)
    have g0 := r1.cell 0
    have g1 := r1.cell 1
    have g2 := r1.cell 2
    have g3 := r1.cell 3
    have g4 := r1.cell 4
    have g5 := r1.cell 5
    have g6 := r1.cell 6
    have g7 := r1.cell 7
    simp only [List.getElem?_cons_zero, List.getElem?_cons_succ] at g0 g1 g2 g3 g4 g5 g6 g7
    have k0 := r1.frozen 0
    have k1 := r1.frozen 1
    have k2 := r1.frozen 2
    have k3 := r1.frozen 3
    have k4 := r1.frozen 4
    have k5 := r1.frozen 5
    have k6 := r1.frozen 6
    have k7 := r1.frozen 7
    have r2 := hid (r1.set8 rfl (.int .u8 0) (.int .u8 0) (.int .u8 0) (.int .u8 0) (.int .u8 0) (.int .u8 0) (.int .u8 0) (.int .u8 0))
    have b2 := hid (below_set8 (g := w.heap.size + 1) (hB0.trans (hB1.mono (by omega))) (by omega) (.int .u8 0) (.int .u8 0) (.int .u8 0) (.int .u8 0) (.int .u8 0) (.int .u8 0) (.int .u8 0) (.int .u8 0))
    clear r1
    go_wp2_with fail
    clear g0 k0 g1 k1 g2 k2 g3 k3 g4 k4 g5 k5 g6 k6 g7 k7
    obtain ⟨W, hW⟩ : ∃ W, W = ((((((((w1.setCell ⟨w.heap.size + 1, 0, none⟩ (.int .u8 0)).setCell ⟨w.heap.size + 1, 1, none⟩ (.int .u8 0)).setCell ⟨w.heap.size + 1, 2, none⟩ (.int .u8 0)).setCell ⟨w.heap.size + 1, 3, none⟩ (.int .u8 0)).setCell ⟨w.heap.size + 1, 4, none⟩ (.int .u8 0)).setCell ⟨w.heap.size + 1, 5, none⟩ (.int .u8 0)).setCell ⟨w.heap.size + 1, 6, none⟩ (.int .u8 0)).setCell ⟨w.heap.size + 1, 7, none⟩ (.int .u8 0)) := ⟨_, rfl⟩
    rw [← hW] at r2 b2 ⊢
    clear hW
    have r2 := r2.out
    have g0 := r2.cell 0
    have g1 := r2.cell 1
    have g2 := r2.cell 2
    have g3 := r2.cell 3
    have g4 := r2.cell 4
    have g5 := r2.cell 5
    have g6 := r2.cell 6
    have g7 := r2.cell 7
    simp only [List.getElem?_cons_zero, List.getElem?_cons_succ] at g0 g1 g2 g3 g4 g5 g6 g7
    exact bodyPost_ret (v := .tuple #[.agg #[.int .u8 0, .int .u8 0, .int .u8 0, .int .u8 0, .int .u8 0, .int .u8 0, .int .u8 0, .int .u8 0], .int .i64 1]) (by simp [results, Tryz.results23, go_sem, g0, g1, g2, g3, g4, g5, g6, g7]) rfl ⟨rfl, b2.out⟩
  | true =>
    rw [cmpR_yes hv]
    obtain ⟨hv1, hv2⟩ := okV_out hv
    obtain ⟨_, h8, hin, _, _⟩ := okL_out hv1
    have hlt := okD_lt hv2 h8 (fun j hj => (oct_bd HO.out j hj).1)
    have HI := hid hin
    have HL := hid hlt
    have HE := hid (cto_all zs [d0, d1, d2, d3, d4, d5, d6, d7] [d0, d1, d2, d3, d4, d5, d6, d7] (fun j hj hz => (okD_out hv2 j hj).2 hz))
    have V := hid hv
    have n8 : n ≤ 8 := by omega
    clear hv hn hv1 hv2 hin hlt h8
    go_enter Tryz.func23, Tryz.ntmps23
    go_wp2_with fail
    have hX := specValidDigits_any _ n cap zs d0 d1 d2 d3 d4 d5 d6 d7 _ H1.out N.out HO.out
    rw [V.out] at hX
    refine hX.mono ?_
    clear hX
    rintro e w1 ⟨rfl, hB1⟩
    have hz1 := hB1.size
    simp only [World.size_alloc] at hB1 hz1
    have HR1 := hid (HR.out.below hB1 (by omega))
    have HD1 := hid (rD.out.below hB1 (by omega))
    have HS1 := hid (H1.out.below hB1 (by omega))
    have HB1 := hid hB1
    clear hB1
    go_wp2_with fail
    go_loopw [6] (fun i wr => ∃ k : Nat, k ≤ n ∧ i = .int .i64 k ∧ Row wr w.heap.size 30 (cto zs [d0, d1, d2, d3, d4, d5, d6, d7] [d0, d1, d2, d3, d4, d5, d6, d7] k) ∧ Row wr (w.heap.size + 1) 30 [.int .u8 0, .int .u8 0, .int .u8 0, .int .u8 0, .int .u8 0, .int .u8 0, .int .u8 0, .int .u8 0] ∧ Below w.heap.size w wr) (fun i _ => n - (intOf i).toNat)
    case atStart => exact ⟨0, Nat.zero_le _, rfl, HD1.out, HR1.out, hB0.trans (HB1.out.mono (by omega))⟩
    case round =>
      obtain ⟨k, hk, rfl, hrow, hres, hB⟩ := hrel
      by_cases hlt : k < n
      · have hkz : k < zs.length := by rw [← N.out]; exact hlt
        have hx : wr.cell? ⟨b, k, none⟩ = some (.int .u8 (zs[k]?.getD 0)) := (hB.cell (p := ⟨b, k, none⟩) hbl).trans (HW.out k hkz)
        have hd : wr.cell? ⟨w.heap.size, k, none⟩ = some (.int .u8 (([d0, d1, d2, d3, d4, d5, d6, d7] : List Int)[k]?.getD 0)) := by
          have := (hrow.cell k).trans (cto_get zs [d0, d1, d2, d3, d4, d5, d6, d7] [d0, d1, d2, d3, d4, d5, d6, d7] k k (by omega))
          rwa [if_neg (by omega)] at this
        have hf := hrow.frozen k
        have hR2 := hid (hrow.set k (.int .u8 (zs[k]?.getD 0 - 1 - ([d0, d1, d2, d3, d4, d5, d6, d7] : List Int)[k]?.getD 0)))
        rw [cto_succ zs [d0, d1, d2, d3, d4, d5, d6, d7] _ k (by omega)] at hR2
        have hres2 := hid (hres.other (a := ⟨w.heap.size, k, none⟩) (by show w.heap.size ≠ w.heap.size + 1; omega) (.int .u8 (zs[k]?.getD 0 - 1 - ([d0, d1, d2, d3, d4, d5, d6, d7] : List Int)[k]?.getD 0)))
        have hB2 := hid (hB.setCell (p := ⟨w.heap.size, k, none⟩) (Nat.le_refl _) (.int .u8 (zs[k]?.getD 0 - 1 - ([d0, d1, d2, d3, d4, d5, d6, d7] : List Int)[k]?.getD 0)))
        have hzb := HI.out k hkz
        have hdb := HL.out k hkz
        clear hrow hB hkz hres
        obtain ⟨z, hz⟩ : ∃ z, z = zs[k]?.getD 0 := ⟨_, rfl⟩
        obtain ⟨d, hd'⟩ : ∃ d, d = ([d0, d1, d2, d3, d4, d5, d6, d7] : List Int)[k]?.getD 0 := ⟨_, rfl⟩
        rw [← hz] at hx hzb hdb hR2 hB2 hres2
        rw [← hd'] at hd hdb hR2 hB2 hres2
        clear hz hd'
        have w1' : IntKind.u8.wrap (z - 1) = z - 1 := by simp only [IntKind.wrap, IntKind.signed, IntKind.bits]; simp; omega
        have w2' : IntKind.u8.wrap (z - 1 - d) = z - 1 - d := by simp only [IntKind.wrap, IntKind.signed, IntKind.bits]; simp; omega
        have kn : (k : Int) < (n : Int) := by omega
        go_wp2
        go_region
        clear w1' w2'
        all_goals (try go_wp2)
        all_goals go_roundw
        case rel => exact ⟨k + 1, by omega, by go_num, hR2.out, hres2.out, hB2.out.drew⟩
        case measure => simp [intOf]; omega
      · obtain rfl : k = n := by omega
        rw [N.out, HE.out] at hrow
        have r1 := hres
        have q0 := hrow.cell 0
        have q1 := hrow.cell 1
        have q2 := hrow.cell 2
        have q3 := hrow.cell 3
        have q4 := hrow.cell 4
        have q5 := hrow.cell 5
        have q6 := hrow.cell 6
        have q7 := hrow.cell 7
        simp only [List.getElem?_cons_zero, List.getElem?_cons_succ] at q0 q1 q2 q3 q4 q5 q6 q7
        have g0 := r1.cell 0
        have g1 := r1.cell 1
        have g2 := r1.cell 2
        have g3 := r1.cell 3
        have g4 := r1.cell 4
        have g5 := r1.cell 5
        have g6 := r1.cell 6
        have g7 := r1.cell 7
        simp only [List.getElem?_cons_zero, List.getElem?_cons_succ] at g0 g1 g2 g3 g4 g5 g6 g7
        have k0 := r1.frozen 0
        have k1 := r1.frozen 1
        have k2 := r1.frozen 2
        have k3 := r1.frozen 3
        have k4 := r1.frozen 4
        have k5 := r1.frozen 5
        have k6 := r1.frozen 6
        have k7 := r1.frozen 7
        have r2 := hid (r1.set8 rfl (.int .u8 (dg (cmpL zs [d0, d1, d2, d3, d4, d5, d6, d7]) 0)) (.int .u8 (dg (cmpL zs [d0, d1, d2, d3, d4, d5, d6, d7]) 1)) (.int .u8 (dg (cmpL zs [d0, d1, d2, d3, d4, d5, d6, d7]) 2)) (.int .u8 (dg (cmpL zs [d0, d1, d2, d3, d4, d5, d6, d7]) 3)) (.int .u8 (dg (cmpL zs [d0, d1, d2, d3, d4, d5, d6, d7]) 4)) (.int .u8 (dg (cmpL zs [d0, d1, d2, d3, d4, d5, d6, d7]) 5)) (.int .u8 (dg (cmpL zs [d0, d1, d2, d3, d4, d5, d6, d7]) 6)) (.int .u8 (dg (cmpL zs [d0, d1, d2, d3, d4, d5, d6, d7]) 7)))
        have b2 := hid (below_set8 (g := w.heap.size + 1) hB (by omega) (.int .u8 (dg (cmpL zs [d0, d1, d2, d3, d4, d5, d6, d7]) 0)) (.int .u8 (dg (cmpL zs [d0, d1, d2, d3, d4, d5, d6, d7]) 1)) (.int .u8 (dg (cmpL zs [d0, d1, d2, d3, d4, d5, d6, d7]) 2)) (.int .u8 (dg (cmpL zs [d0, d1, d2, d3, d4, d5, d6, d7]) 3)) (.int .u8 (dg (cmpL zs [d0, d1, d2, d3, d4, d5, d6, d7]) 4)) (.int .u8 (dg (cmpL zs [d0, d1, d2, d3, d4, d5, d6, d7]) 5)) (.int .u8 (dg (cmpL zs [d0, d1, d2, d3, d4, d5, d6, d7]) 6)) (.int .u8 (dg (cmpL zs [d0, d1, d2, d3, d4, d5, d6, d7]) 7)))
        clear r1 hrow hB hres
        go_wp2
        clear g0 k0 g1 k1 g2 k2 g3 k3 g4 k4 g5 k5 g6 k6 g7 k7 q0 q1 q2 q3 q4 q5 q6 q7
        obtain ⟨W, hW⟩ : ∃ W, W = ((((((((wr.setCell ⟨w.heap.size + 1, 0, none⟩ (.int .u8 (dg (cmpL zs [d0, d1, d2, d3, d4, d5, d6, d7]) 0))).setCell ⟨w.heap.size + 1, 1, none⟩ (.int .u8 (dg (cmpL zs [d0, d1, d2, d3, d4, d5, d6, d7]) 1))).setCell ⟨w.heap.size + 1, 2, none⟩ (.int .u8 (dg (cmpL zs [d0, d1, d2, d3, d4, d5, d6, d7]) 2))).setCell ⟨w.heap.size + 1, 3, none⟩ (.int .u8 (dg (cmpL zs [d0, d1, d2, d3, d4, d5, d6, d7]) 3))).setCell ⟨w.heap.size + 1, 4, none⟩ (.int .u8 (dg (cmpL zs [d0, d1, d2, d3, d4, d5, d6, d7]) 4))).setCell ⟨w.heap.size + 1, 5, none⟩ (.int .u8 (dg (cmpL zs [d0, d1, d2, d3, d4, d5, d6, d7]) 5))).setCell ⟨w.heap.size + 1, 6, none⟩ (.int .u8 (dg (cmpL zs [d0, d1, d2, d3, d4, d5, d6, d7]) 6))).setCell ⟨w.heap.size + 1, 7, none⟩ (.int .u8 (dg (cmpL zs [d0, d1, d2, d3, d4, d5, d6, d7]) 7))) := ⟨_, rfl⟩
        rw [← hW] at r2 b2 ⊢
        clear hW
        have r2 := r2.out
        have g0 := r2.cell 0
        have g1 := r2.cell 1
        have g2 := r2.cell 2
        have g3 := r2.cell 3
        have g4 := r2.cell 4
        have g5 := r2.cell 5
        have g6 := r2.cell 6
        have g7 := r2.cell 7
        simp only [List.getElem?_cons_zero, List.getElem?_cons_succ] at g0 g1 g2 g3 g4 g5 g6 g7
        exact bodyPost_ret (v := .tuple #[.agg #[.int .u8 (dg (cmpL zs [d0, d1, d2, d3, d4, d5, d6, d7]) 0), .int .u8 (dg (cmpL zs [d0, d1, d2, d3, d4, d5, d6, d7]) 1), .int .u8 (dg (cmpL zs [d0, d1, d2, d3, d4, d5, d6, d7]) 2), .int .u8 (dg (cmpL zs [d0, d1, d2, d3, d4, d5, d6, d7]) 3), .int .u8 (dg (cmpL zs [d0, d1, d2, d3, d4, d5, d6, d7]) 4), .int .u8 (dg (cmpL zs [d0, d1, d2, d3, d4, d5, d6, d7]) 5), .int .u8 (dg (cmpL zs [d0, d1, d2, d3, d4, d5, d6, d7]) 6), .int .u8 (dg (cmpL zs [d0, d1, d2, d3, d4, d5, d6, d7]) 7)], .int .i64 0]) (by simp [results, Tryz.results23, go_sem, g0, g1, g2, g3, g4, g5, g6, g7]) rfl ⟨rfl, b2.out⟩
end Go.Proofs.YtfifnngdmhdkiaaGreatDoor
