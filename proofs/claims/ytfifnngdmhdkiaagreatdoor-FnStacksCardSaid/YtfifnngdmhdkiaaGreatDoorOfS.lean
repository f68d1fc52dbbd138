/- DigitsOf: the model's answers. -/
import Derived.Test.YtfifnngdmhdkiaaGreatDoorOfC
namespace Go.Proofs.YtfifnngdmhdkiaaGreatDoor
open Go.RowKit

set_option maxRecDepth 100000 in
set_option maxHeartbeats 4000000 in
theorem l01Of_any (b n cap : Nat) (zs : List Int) (hn : n = zs.length) (hv : okL zs = true) (v : Int) (h0 : 0 ≤ v) (h2 : v ≤ 1000000000000) (w : World) (h : Stk w b zs) :
    Calls Tryz.prog 36 #[.slice (some ⟨b, 0, none⟩) n cap, .int .i64 v] w fun e w' => e = .returned (.agg #[.int .u8 (dg (dgL zs v) 0), .int .u8 (dg (dgL zs v) 1), .int .u8 (dg (dgL zs v) 2), .int .u8 (dg (dgL zs v) 3), .int .u8 (dg (dgL zs v) 4), .int .u8 (dg (dgL zs v) 5), .int .u8 (dg (dgL zs v) 6), .int .u8 (dg (dgL zs v) 7)]) ∧ Below w.heap.size w w' := by
  obtain ⟨_, h8, hin, _, _⟩ := okL_out hv
  have n8 : n ≤ 8 := by omega
  have H8 := hid h8
  have HI := hid hin
  have HW := hid h.2.1
  have N := hid hn
  have hbl := h.1
  have hn20 : n ≤ 1048576 := by omega
  have hB0 := hid (((Below.refl w.heap.size w).alloc (Nat.le_refl _) (.cells #[.int .u8 0, .int .u8 0, .int .u8 0, .int .u8 0, .int .u8 0, .int .u8 0, .int .u8 0, .int .u8 0] 30)).alloc (by simp) (.cells #[.int .u8 0, .int .u8 0, .int .u8 0, .int .u8 0, .int .u8 0, .int .u8 0, .int .u8 0, .int .u8 0] 30))
  have r0 := hid ((Row.new w 30 [.int .u8 0, .int .u8 0, .int .u8 0, .int .u8 0, .int .u8 0, .int .u8 0, .int .u8 0, .int .u8 0]).alloc (.cells #[.int .u8 0, .int .u8 0, .int .u8 0, .int .u8 0, .int .u8 0, .int .u8 0, .int .u8 0, .int .u8 0] 30))
  have r1 := Row.new (w.alloc (.cells #[.int .u8 0, .int .u8 0, .int .u8 0, .int .u8 0, .int .u8 0, .int .u8 0, .int .u8 0, .int .u8 0] 30)) 30 [.int .u8 0, .int .u8 0, .int .u8 0, .int .u8 0, .int .u8 0, .int .u8 0, .int .u8 0, .int .u8 0]
  simp only [World.size_alloc] at r1
  have R1 := hid r1
  clear h hin hn h8 hv r1
  go_enter Tryz.func36, Tryz.ntmps36
  go_wp2
  go_loopw [1, 6] (fun s i wr => ∃ k : Nat, k ≤ n ∧ s = .int .i64 (v / szL (zs.take k)) ∧ i = .int .i64 k ∧ Row wr (w.heap.size + 1) 30 (dto zs v k) ∧ Row wr w.heap.size 30 [.int .u8 0, .int .u8 0, .int .u8 0, .int .u8 0, .int .u8 0, .int .u8 0, .int .u8 0, .int .u8 0] ∧ Below w.heap.size w wr) (fun _ i _ => n - (intOf i).toNat)
  case atStart => exact ⟨0, Nat.zero_le _, by simp [szL], rfl, R1.out, r0.out, hB0.out⟩
  case round =>
    obtain ⟨k, hk, rfl, rfl, hrow, hres, hB⟩ := hrel
    by_cases hlt : k < n
    · have hkz : k < zs.length := by rw [← N.out]; exact hlt
      have hx : wr.cell? ⟨b, k, none⟩ = some (.int .u8 (zs[k]?.getD 0)) := (hB.cell (p := ⟨b, k, none⟩) hbl).trans (HW.out k hkz)
      obtain ⟨old, ho⟩ : ∃ u, wr.cell? ⟨w.heap.size + 1, k, none⟩ = some u := ⟨_, (hrow.cell k).trans (List.getElem?_eq_getElem (by simp [dto]; omega))⟩
      have hf := hrow.frozen k
      have hR2 := hid (hrow.set k (.int .u8 (v / szL (zs.take k) % zs[k]?.getD 0)))
      rw [dto_succ zs v k (by omega)] at hR2
      have hres2 := hid (hres.other (a := ⟨w.heap.size + 1, k, none⟩) (by show w.heap.size + 1 ≠ w.heap.size; omega) (.int .u8 (v / szL (zs.take k) % zs[k]?.getD 0)))
      have hB2 := hid (hB.setCell (p := ⟨w.heap.size + 1, k, none⟩) (by show w.heap.size ≤ w.heap.size + 1; omega) (.int .u8 (v / szL (zs.take k) % zs[k]?.getD 0)))
      have hzb := HI.out k hkz
      have hs := szL_bd zs k (by omega) (fun j hj => HI.out j (by omega))
      have hq2 : v / szL (zs.take k) / zs[k]?.getD 0 = v / szL (zs.take (k + 1)) := by rw [szL_take zs k hkz, Int.ediv_ediv_of_nonneg (by omega)]
      have hq0 := Int.ediv_nonneg h0 (show 0 ≤ szL (zs.take k) by omega)
      have hq1 := Int.ediv_le_self (szL (zs.take k)) h0
      have HQ := hid hq2
      clear hrow hB hkz hres hq2 hs
      obtain ⟨z, hz⟩ : ∃ z, z = zs[k]?.getD 0 := ⟨_, rfl⟩
      obtain ⟨q, hq⟩ : ∃ q, q = v / szL (zs.take k) := ⟨_, rfl⟩
      rw [← hz] at hx hzb hR2 hB2 hres2 HQ
      rw [← hq] at hR2 hB2 hres2 HQ hq0 hq1
      rw [← hq]
      clear hz hq
      have n4 : z ≠ 0 := by omega
      have m0 := Int.emod_nonneg q n4
      have m1 := Int.emod_lt_of_pos q (show 0 < z by omega)
      have m2 := Int.ediv_nonneg hq0 (show 0 ≤ z by omega)
      have m3 := Int.ediv_le_self z hq0
      have e1 : q.tmod z = q % z := Int.tmod_eq_emod_of_nonneg hq0
      have e2 : q.tdiv z = q / z := Int.tdiv_eq_ediv_of_nonneg hq0
      have wu : IntKind.u8.wrap (q % z) = q % z := by simp only [IntKind.wrap, IntKind.signed, IntKind.bits]; simp; omega
      have wi : IntKind.i64.wrap (q % z) = q % z := IntWalk.i64_in _ (by omega)
      have wd : IntKind.i64.wrap (q / z) = q / z := IntWalk.i64_in _ (by omega)
      go_wp2
      go_roundw
      case rel => exact ⟨k + 1, by omega, by rw [← HQ.out], by go_num, hR2.out, hres2.out, hB2.out⟩
      case measure => simp [intOf]; omega
    · obtain rfl : k = n := by omega
      rw [N.out, dto_all] at hrow
      have q0 := hrow.cell 0; have q1 := hrow.cell 1; have q2 := hrow.cell 2; have q3 := hrow.cell 3; have q4 := hrow.cell 4; have q5 := hrow.cell 5; have q6 := hrow.cell 6; have q7 := hrow.cell 7
      have g0 := hres.cell 0; have g1 := hres.cell 1; have g2 := hres.cell 2; have g3 := hres.cell 3; have g4 := hres.cell 4; have g5 := hres.cell 5; have g6 := hres.cell 6; have g7 := hres.cell 7
      have k0 := hres.frozen 0; have k1 := hres.frozen 1; have k2 := hres.frozen 2; have k3 := hres.frozen 3; have k4 := hres.frozen 4; have k5 := hres.frozen 5; have k6 := hres.frozen 6; have k7 := hres.frozen 7
      simp only [List.getElem?_cons_zero, List.getElem?_cons_succ] at q0 q1 q2 q3 q4 q5 q6 q7 g0 g1 g2 g3 g4 g5 g6 g7
      have r2 := hid (hres.set8 rfl (.int .u8 (dg (dgL zs v) 0)) (.int .u8 (dg (dgL zs v) 1)) (.int .u8 (dg (dgL zs v) 2)) (.int .u8 (dg (dgL zs v) 3)) (.int .u8 (dg (dgL zs v) 4)) (.int .u8 (dg (dgL zs v) 5)) (.int .u8 (dg (dgL zs v) 6)) (.int .u8 (dg (dgL zs v) 7)))
      have b2 := hid (below_set8 (g := w.heap.size) hB (Nat.le_refl _) (.int .u8 (dg (dgL zs v) 0)) (.int .u8 (dg (dgL zs v) 1)) (.int .u8 (dg (dgL zs v) 2)) (.int .u8 (dg (dgL zs v) 3)) (.int .u8 (dg (dgL zs v) 4)) (.int .u8 (dg (dgL zs v) 5)) (.int .u8 (dg (dgL zs v) 6)) (.int .u8 (dg (dgL zs v) 7)))
      clear hrow hres hB
      go_wp2
      clear g0 k0 g1 k1 g2 k2 g3 k3 g4 k4 g5 k5 g6 k6 g7 k7 q0 q1 q2 q3 q4 q5 q6 q7
      obtain ⟨W, hW⟩ : ∃ W, W = ((((((((wr.setCell ⟨w.heap.size, 0, none⟩ (.int .u8 (dg (dgL zs v) 0))).setCell ⟨w.heap.size, 1, none⟩ (.int .u8 (dg (dgL zs v) 1))).setCell ⟨w.heap.size, 2, none⟩ (.int .u8 (dg (dgL zs v) 2))).setCell ⟨w.heap.size, 3, none⟩ (.int .u8 (dg (dgL zs v) 3))).setCell ⟨w.heap.size, 4, none⟩ (.int .u8 (dg (dgL zs v) 4))).setCell ⟨w.heap.size, 5, none⟩ (.int .u8 (dg (dgL zs v) 5))).setCell ⟨w.heap.size, 6, none⟩ (.int .u8 (dg (dgL zs v) 6))).setCell ⟨w.heap.size, 7, none⟩ (.int .u8 (dg (dgL zs v) 7))) := ⟨_, rfl⟩
      rw [← hW] at r2 b2 ⊢
      clear hW
      have r2 := r2.out
      have g0 := r2.cell 0; have g1 := r2.cell 1; have g2 := r2.cell 2; have g3 := r2.cell 3; have g4 := r2.cell 4; have g5 := r2.cell 5; have g6 := r2.cell 6; have g7 := r2.cell 7
      simp only [List.getElem?_cons_zero, List.getElem?_cons_succ] at g0 g1 g2 g3 g4 g5 g6 g7
      exact bodyPost_ret (v := .agg #[.int .u8 (dg (dgL zs v) 0), .int .u8 (dg (dgL zs v) 1), .int .u8 (dg (dgL zs v) 2), .int .u8 (dg (dgL zs v) 3), .int .u8 (dg (dgL zs v) 4), .int .u8 (dg (dgL zs v) 5), .int .u8 (dg (dgL zs v) 6), .int .u8 (dg (dgL zs v) 7)]) (by simp [results, Tryz.results36, go_sem, g0, g1, g2, g3, g4, g5, g6, g7]) rfl ⟨rfl, b2.out⟩

set_option maxRecDepth 100000 in
set_option maxHeartbeats 4000000 in
theorem specDigitsOf_any (b n cap : Nat) (zs : List Int) (v : Int) (w : World) (h : Stk w b zs) (hn : n = zs.length) (_ : n ≤ cap) :
    Calls Tryz.prog 9 #[.slice (some ⟨b, 0, none⟩) n cap, .int .i64 v] w fun e w' => e = .returned (.tuple #[.agg #[.int .u8 (dg ((dofR zs v).1) 0), .int .u8 (dg ((dofR zs v).1) 1), .int .u8 (dg ((dofR zs v).1) 2), .int .u8 (dg ((dofR zs v).1) 3), .int .u8 (dg ((dofR zs v).1) 4), .int .u8 (dg ((dofR zs v).1) 5), .int .u8 (dg ((dofR zs v).1) 6), .int .u8 (dg ((dofR zs v).1) 7)], .int .i64 (dofR zs v).2]) ∧ Below w.heap.size w w' := by
  have N := hid hn
  have hB0 : Below w.heap.size w (w.alloc (.cells #[.int .u8 0, .int .u8 0, .int .u8 0, .int .u8 0, .int .u8 0, .int .u8 0, .int .u8 0, .int .u8 0] 30)) := (Below.refl w.heap.size w).alloc (Nat.le_refl _) _
  have hbl := h.1
  have H1 := hid (h.below hB0 h.1)
  have HR := hid (Row.new w 30 [.int .u8 0, .int .u8 0, .int .u8 0, .int .u8 0, .int .u8 0, .int .u8 0, .int .u8 0, .int .u8 0])
  cases hv : okL zs with
  | false =>
    rw [dofR_no v hv]
    have V := hid hv
    clear h hn hv
    go_enter Tryz.func9, Tryz.ntmps9
    go_wp2_with (go_at_call 34; refine (l01Ok_any _ _ _ zs _ H1.out N.out).mono ?_; rw [V.out]; rintro e w' ⟨rfl, rfl⟩)
    exact bodyPost_ret (v := .tuple #[.agg #[.int .u8 0, .int .u8 0, .int .u8 0, .int .u8 0, .int .u8 0, .int .u8 0, .int .u8 0, .int .u8 0], .int .i64 1]) (by simp [results, Tryz.results9, go_sem]) rfl ⟨rfl, hB0⟩
  | true =>
    have V := hid hv
    by_cases hx : 0 ≤ v ∧ v < szL zs
    rotate_left
    · rw [dofR_out v hv hx]
      have hs := (okL_out hv).2.2.2
      clear h hn hv
      go_enter Tryz.func9, Tryz.ntmps9
      go_wp2_with (first | (go_at_call 34; refine (l01Ok_any _ _ _ zs _ H1.out N.out).mono ?_; rw [V.out]; rintro e w' ⟨rfl, rfl⟩) | (go_at_call 29; refine (l01Size_ok _ _ _ zs _ H1.out N.out V.out).mono ?_; rintro e w' ⟨rfl, rfl⟩) | (go_at_call 35; refine (inr_no _ _ _ _ (by omega)).mono ?_; rintro e w' ⟨rfl, rfl⟩))
      exact bodyPost_ret (v := .tuple #[.agg #[.int .u8 0, .int .u8 0, .int .u8 0, .int .u8 0, .int .u8 0, .int .u8 0, .int .u8 0, .int .u8 0], .int .i64 2]) (by simp [results, Tryz.results9, go_sem]) rfl ⟨rfl, hB0⟩
    · rw [dofR_yes v hv hx]
      have hs := (okL_out hv).2.2.2
      have HD := hid (l01Of_any b n cap zs hn hv v hx.1 (by omega) _ H1.out)
      clear h hn hv
      go_enter Tryz.func9, Tryz.ntmps9
      go_wp2_with (first | (go_at_call 34; refine (l01Ok_any _ _ _ zs _ H1.out N.out).mono ?_; rw [V.out]; rintro e w' ⟨rfl, rfl⟩) | (go_at_call 29; refine (l01Size_ok _ _ _ zs _ H1.out N.out V.out).mono ?_; rintro e w' ⟨rfl, rfl⟩) | (go_at_call 35; refine (inr_yes _ _ _ _ (by omega)).mono ?_; rintro e w' ⟨rfl, rfl⟩))
      refine HD.out.mono ?_
      rintro e w2 ⟨rfl, hB2⟩
      simp only [World.size_alloc] at hB2
      have r1 := HR.out.below hB2 (by omega)
      have g0 := r1.cell 0; have k0 := r1.frozen 0; have g1 := r1.cell 1; have k1 := r1.frozen 1; have g2 := r1.cell 2; have k2 := r1.frozen 2; have g3 := r1.cell 3; have k3 := r1.frozen 3; have g4 := r1.cell 4; have k4 := r1.frozen 4; have g5 := r1.cell 5; have k5 := r1.frozen 5; have g6 := r1.cell 6; have k6 := r1.frozen 6; have g7 := r1.cell 7; have k7 := r1.frozen 7
      simp only [List.getElem?_cons_zero, List.getElem?_cons_succ] at g0 g1 g2 g3 g4 g5 g6 g7
      have r2 := hid (r1.set8 rfl (.int .u8 (dg (dgL zs v) 0)) (.int .u8 (dg (dgL zs v) 1)) (.int .u8 (dg (dgL zs v) 2)) (.int .u8 (dg (dgL zs v) 3)) (.int .u8 (dg (dgL zs v) 4)) (.int .u8 (dg (dgL zs v) 5)) (.int .u8 (dg (dgL zs v) 6)) (.int .u8 (dg (dgL zs v) 7)))
      have b2 := hid (below_set8 (g := w.heap.size) (hB0.trans (hB2.mono (by omega))) (Nat.le_refl _) (.int .u8 (dg (dgL zs v) 0)) (.int .u8 (dg (dgL zs v) 1)) (.int .u8 (dg (dgL zs v) 2)) (.int .u8 (dg (dgL zs v) 3)) (.int .u8 (dg (dgL zs v) 4)) (.int .u8 (dg (dgL zs v) 5)) (.int .u8 (dg (dgL zs v) 6)) (.int .u8 (dg (dgL zs v) 7)))
      clear r1
      go_wp2_with fail
      clear g0 k0 g1 k1 g2 k2 g3 k3 g4 k4 g5 k5 g6 k6 g7 k7
      obtain ⟨W, hW⟩ : ∃ W, W = ((((((((w2.setCell ⟨w.heap.size, 0, none⟩ (.int .u8 (dg (dgL zs v) 0))).setCell ⟨w.heap.size, 1, none⟩ (.int .u8 (dg (dgL zs v) 1))).setCell ⟨w.heap.size, 2, none⟩ (.int .u8 (dg (dgL zs v) 2))).setCell ⟨w.heap.size, 3, none⟩ (.int .u8 (dg (dgL zs v) 3))).setCell ⟨w.heap.size, 4, none⟩ (.int .u8 (dg (dgL zs v) 4))).setCell ⟨w.heap.size, 5, none⟩ (.int .u8 (dg (dgL zs v) 5))).setCell ⟨w.heap.size, 6, none⟩ (.int .u8 (dg (dgL zs v) 6))).setCell ⟨w.heap.size, 7, none⟩ (.int .u8 (dg (dgL zs v) 7))) := ⟨_, rfl⟩
      rw [← hW] at r2 b2 ⊢
      clear hW
      have r2 := r2.out
      have g0 := r2.cell 0; have g1 := r2.cell 1; have g2 := r2.cell 2; have g3 := r2.cell 3; have g4 := r2.cell 4; have g5 := r2.cell 5; have g6 := r2.cell 6; have g7 := r2.cell 7
      simp only [List.getElem?_cons_zero, List.getElem?_cons_succ] at g0 g1 g2 g3 g4 g5 g6 g7
      exact bodyPost_ret (v := .tuple #[.agg #[.int .u8 (dg (dgL zs v) 0), .int .u8 (dg (dgL zs v) 1), .int .u8 (dg (dgL zs v) 2), .int .u8 (dg (dgL zs v) 3), .int .u8 (dg (dgL zs v) 4), .int .u8 (dg (dgL zs v) 5), .int .u8 (dg (dgL zs v) 6), .int .u8 (dg (dgL zs v) 7)], .int .i64 0]) (by simp [results, Tryz.results9, go_sem, g0, g1, g2, g3, g4, g5, g6, g7]) rfl ⟨rfl, b2.out⟩
end Go.Proofs.YtfifnngdmhdkiaaGreatDoor
