/- MovesOf: the model's answers. -/
import Derived.Test.YtigiegdkfgjmcaaMoves
namespace Go.Proofs.Ytigiegdkfgjmcaa
open Go.RowKit

set_option maxRecDepth 100000 in
set_option maxHeartbeats 4000000 in
theorem specMovesOf_any (b n cap : Nat) (zs : List Int) (d0 d1 d2 d3 d4 d5 d6 d7 c : Int) (w : World) (h : Stk w b zs) (hn : n = zs.length) (hcap : n ≤ cap) (ho : Oct d0 d1 d2 d3 d4 d5 d6 d7) :
    Calls Try.prog 12 #[.slice (some ⟨b, 0, none⟩) n cap, .agg #[.int .u8 d0, .int .u8 d1, .int .u8 d2, .int .u8 d3, .int .u8 d4, .int .u8 d5, .int .u8 d6, .int .u8 d7], .int .i64 c] w fun e w' => e = .returned (.tuple #[.agg #[.int .i64 (mg (movR zs [d0, d1, d2, d3, d4, d5, d6, d7] c).1 0), .int .i64 (mg (movR zs [d0, d1, d2, d3, d4, d5, d6, d7] c).1 1), .int .i64 (mg (movR zs [d0, d1, d2, d3, d4, d5, d6, d7] c).1 2), .int .i64 (mg (movR zs [d0, d1, d2, d3, d4, d5, d6, d7] c).1 3), .int .i64 (mg (movR zs [d0, d1, d2, d3, d4, d5, d6, d7] c).1 4), .int .i64 (mg (movR zs [d0, d1, d2, d3, d4, d5, d6, d7] c).1 5), .int .i64 (mg (movR zs [d0, d1, d2, d3, d4, d5, d6, d7] c).1 6), .int .i64 (mg (movR zs [d0, d1, d2, d3, d4, d5, d6, d7] c).1 7)], .int .i64 (movR zs [d0, d1, d2, d3, d4, d5, d6, d7] c).2]) ∧ Below w.heap.size w w' := by
  have N := hid hn; have HO := hid ho
  have hB0 : Below w.heap.size w (((w.alloc (.cells #[.int .u8 d0, .int .u8 d1, .int .u8 d2, .int .u8 d3, .int .u8 d4, .int .u8 d5, .int .u8 d6, .int .u8 d7] 28)).alloc (.cells #[.int .i64 0, .int .i64 0, .int .i64 0, .int .i64 0, .int .i64 0, .int .i64 0, .int .i64 0, .int .i64 0] 34)).alloc (.cells #[.int .i64 0, .int .i64 0, .int .i64 0, .int .i64 0, .int .i64 0, .int .i64 0, .int .i64 0, .int .i64 0] 34)) := (((Below.refl w.heap.size w).alloc (Nat.le_refl _) _).alloc (by simp) _).alloc (by simp; omega) _
  have hbl := h.1
  have H1 := hid (h.below hB0 h.1)
  have rR := (Row.new (w.alloc (.cells #[.int .u8 d0, .int .u8 d1, .int .u8 d2, .int .u8 d3, .int .u8 d4, .int .u8 d5, .int .u8 d6, .int .u8 d7] 28)) 34 zeroI8).alloc (.cells #[.int .i64 0, .int .i64 0, .int .i64 0, .int .i64 0, .int .i64 0, .int .i64 0, .int .i64 0, .int .i64 0] 34)
  have rO := Row.new ((w.alloc (.cells #[.int .u8 d0, .int .u8 d1, .int .u8 d2, .int .u8 d3, .int .u8 d4, .int .u8 d5, .int .u8 d6, .int .u8 d7] 28)).alloc (.cells #[.int .i64 0, .int .i64 0, .int .i64 0, .int .i64 0, .int .i64 0, .int .i64 0, .int .i64 0, .int .i64 0] 34)) 34 zeroI8
  have rD := hid (((Row.new w 28 [.int .u8 d0, .int .u8 d1, .int .u8 d2, .int .u8 d3, .int .u8 d4, .int .u8 d5, .int .u8 d6, .int .u8 d7]).alloc (.cells #[.int .i64 0, .int .i64 0, .int .i64 0, .int .i64 0, .int .i64 0, .int .i64 0, .int .i64 0, .int .i64 0] 34)).alloc (.cells #[.int .i64 0, .int .i64 0, .int .i64 0, .int .i64 0, .int .i64 0, .int .i64 0, .int .i64 0, .int .i64 0] 34))
  simp only [World.size_alloc] at rR rO
  have HR := hid rR
  have HOut : Hid (Row (((w.alloc (.cells #[.int .u8 d0, .int .u8 d1, .int .u8 d2, .int .u8 d3, .int .u8 d4, .int .u8 d5, .int .u8 d6, .int .u8 d7] 28)).alloc (.cells #[.int .i64 0, .int .i64 0, .int .i64 0, .int .i64 0, .int .i64 0, .int .i64 0, .int .i64 0, .int .i64 0] 34)).alloc (.cells #[.int .i64 0, .int .i64 0, .int .i64 0, .int .i64 0, .int .i64 0, .int .i64 0, .int .i64 0, .int .i64 0] 34)) (w.heap.size + 1 + 1) 34 zeroI8) := hid rO
  have hcc := hid (fun w => l01Count_any c w)
  clear rR rO
  cases hv : okV zs [d0, d1, d2, d3, d4, d5, d6, d7] with
  | false =>
    rw [movR_no c hv]
    have V := hid hv
    clear hv hn h ho
    go_enter Try.func12, Try.ntmps12
    go_wp2_with fail
    have hX := specValidDigits_any _ n cap zs d0 d1 d2 d3 d4 d5 d6 d7 _ H1.out N.out HO.out
    rw [V.out] at hX
    refine hX.mono ?_
    clear hX
    rintro e w1 ⟨rfl, hB1⟩
    have hz1 := hB1.size
    simp only [World.size_alloc] at hB1 hz1
    have r1 := HR.out.below hB1 (by omega)
    have o1 := HOut.out.below hB1 (by omega)
    have g0 := r1.cell 0; have k0 := r1.frozen 0; have g1 := r1.cell 1; have k1 := r1.frozen 1; have g2 := r1.cell 2; have k2 := r1.frozen 2; have g3 := r1.cell 3; have k3 := r1.frozen 3; have g4 := r1.cell 4; have k4 := r1.frozen 4; have g5 := r1.cell 5; have k5 := r1.frozen 5; have g6 := r1.cell 6; have k6 := r1.frozen 6; have g7 := r1.cell 7; have k7 := r1.frozen 7
    have q0 := o1.cell 0; have q1 := o1.cell 1; have q2 := o1.cell 2; have q3 := o1.cell 3; have q4 := o1.cell 4; have q5 := o1.cell 5; have q6 := o1.cell 6; have q7 := o1.cell 7
    simp only [zeroI8, List.getElem?_cons_zero, List.getElem?_cons_succ] at g0 g1 g2 g3 g4 g5 g6 g7 q0 q1 q2 q3 q4 q5 q6 q7
    have r2 := hid (r1.set8 rfl (.int .i64 0) (.int .i64 0) (.int .i64 0) (.int .i64 0) (.int .i64 0) (.int .i64 0) (.int .i64 0) (.int .i64 0))
    have b2 := hid (below_set8 (g := w.heap.size + 1) (hB0.trans (hB1.mono (by omega))) (by omega) (.int .i64 0) (.int .i64 0) (.int .i64 0) (.int .i64 0) (.int .i64 0) (.int .i64 0) (.int .i64 0) (.int .i64 0))
    clear r1 o1
    go_wp2_with fail
    clear g0 k0 g1 k1 g2 k2 g3 k3 g4 k4 g5 k5 g6 k6 g7 k7 q0 q1 q2 q3 q4 q5 q6 q7
    obtain ⟨W, hW⟩ : ∃ W, W = ((((((((w1.setCell ⟨w.heap.size + 1, 0, none⟩ (.int .i64 0)).setCell ⟨w.heap.size + 1, 1, none⟩ (.int .i64 0)).setCell ⟨w.heap.size + 1, 2, none⟩ (.int .i64 0)).setCell ⟨w.heap.size + 1, 3, none⟩ (.int .i64 0)).setCell ⟨w.heap.size + 1, 4, none⟩ (.int .i64 0)).setCell ⟨w.heap.size + 1, 5, none⟩ (.int .i64 0)).setCell ⟨w.heap.size + 1, 6, none⟩ (.int .i64 0)).setCell ⟨w.heap.size + 1, 7, none⟩ (.int .i64 0)) := ⟨_, rfl⟩
    rw [← hW] at r2 b2 ⊢
    clear hW
    have r2 := r2.out
    have g0 := r2.cell 0; have g1 := r2.cell 1; have g2 := r2.cell 2; have g3 := r2.cell 3; have g4 := r2.cell 4; have g5 := r2.cell 5; have g6 := r2.cell 6; have g7 := r2.cell 7
    simp only [List.getElem?_cons_zero, List.getElem?_cons_succ] at g0 g1 g2 g3 g4 g5 g6 g7
    exact bodyPost_ret (v := .tuple #[.agg #[.int .i64 0, .int .i64 0, .int .i64 0, .int .i64 0, .int .i64 0, .int .i64 0, .int .i64 0, .int .i64 0], .int .i64 1]) (by simp [results, Try.results12, go_sem, g0, g1, g2, g3, g4, g5, g6, g7]) rfl ⟨rfl, b2.out⟩
  | true =>
    by_cases hc : -1000000000000 ≤ c ∧ c ≤ 1000000000000
    rotate_left
    · rw [movR_out c hv hc]
      have V := hid hv
      have hcb : (decide (-1000000000000 ≤ c) && decide (c ≤ 1000000000000)) = false := by
        simp only [Bool.and_eq_false_iff, decide_eq_false_iff_not]; omega
      rw [hcb] at hcc
      clear hv hn h ho hc hcb
      go_enter Try.func12, Try.ntmps12
      go_wp2_with fail
      have hX := specValidDigits_any _ n cap zs d0 d1 d2 d3 d4 d5 d6 d7 _ H1.out N.out HO.out
      rw [V.out] at hX
      refine hX.mono ?_
      clear hX
      rintro e w1 ⟨rfl, hB1⟩
      have hz1 := hB1.size
      simp only [World.size_alloc] at hB1 hz1
      go_wp2_with fail
      refine (hcc.out w1).mono ?_
      rintro e w' ⟨rfl, rfl⟩
      have r1 := HR.out.below hB1 (by omega)
      have o1 := HOut.out.below hB1 (by omega)
      have g0 := r1.cell 0; have k0 := r1.frozen 0; have g1 := r1.cell 1; have k1 := r1.frozen 1; have g2 := r1.cell 2; have k2 := r1.frozen 2; have g3 := r1.cell 3; have k3 := r1.frozen 3; have g4 := r1.cell 4; have k4 := r1.frozen 4; have g5 := r1.cell 5; have k5 := r1.frozen 5; have g6 := r1.cell 6; have k6 := r1.frozen 6; have g7 := r1.cell 7; have k7 := r1.frozen 7
      have q0 := o1.cell 0; have q1 := o1.cell 1; have q2 := o1.cell 2; have q3 := o1.cell 3; have q4 := o1.cell 4; have q5 := o1.cell 5; have q6 := o1.cell 6; have q7 := o1.cell 7
      simp only [zeroI8, List.getElem?_cons_zero, List.getElem?_cons_succ] at g0 g1 g2 g3 g4 g5 g6 g7 q0 q1 q2 q3 q4 q5 q6 q7
      have r2 := hid (r1.set8 rfl (.int .i64 0) (.int .i64 0) (.int .i64 0) (.int .i64 0) (.int .i64 0) (.int .i64 0) (.int .i64 0) (.int .i64 0))
      have b2 := hid (below_set8 (g := w.heap.size + 1) (hB0.trans (hB1.mono (by omega))) (by omega) (.int .i64 0) (.int .i64 0) (.int .i64 0) (.int .i64 0) (.int .i64 0) (.int .i64 0) (.int .i64 0) (.int .i64 0))
      clear r1 o1
      go_wp2_with fail
      clear g0 k0 g1 k1 g2 k2 g3 k3 g4 k4 g5 k5 g6 k6 g7 k7 q0 q1 q2 q3 q4 q5 q6 q7
      obtain ⟨W, hW⟩ : ∃ W, W = ((((((((w1.setCell ⟨w.heap.size + 1, 0, none⟩ (.int .i64 0)).setCell ⟨w.heap.size + 1, 1, none⟩ (.int .i64 0)).setCell ⟨w.heap.size + 1, 2, none⟩ (.int .i64 0)).setCell ⟨w.heap.size + 1, 3, none⟩ (.int .i64 0)).setCell ⟨w.heap.size + 1, 4, none⟩ (.int .i64 0)).setCell ⟨w.heap.size + 1, 5, none⟩ (.int .i64 0)).setCell ⟨w.heap.size + 1, 6, none⟩ (.int .i64 0)).setCell ⟨w.heap.size + 1, 7, none⟩ (.int .i64 0)) := ⟨_, rfl⟩
      rw [← hW] at r2 b2 ⊢
      clear hW
      have r2 := r2.out
      have g0 := r2.cell 0; have g1 := r2.cell 1; have g2 := r2.cell 2; have g3 := r2.cell 3; have g4 := r2.cell 4; have g5 := r2.cell 5; have g6 := r2.cell 6; have g7 := r2.cell 7
      simp only [List.getElem?_cons_zero, List.getElem?_cons_succ] at g0 g1 g2 g3 g4 g5 g6 g7
      exact bodyPost_ret (v := .tuple #[.agg #[.int .i64 0, .int .i64 0, .int .i64 0, .int .i64 0, .int .i64 0, .int .i64 0, .int .i64 0, .int .i64 0], .int .i64 2]) (by simp [results, Try.results12, go_sem, g0, g1, g2, g3, g4, g5, g6, g7]) rfl ⟨rfl, b2.out⟩
    · rw [movR_yes c hv hc]
      have V := hid hv
      have hcb : (decide (-1000000000000 ≤ c) && decide (c ≤ 1000000000000)) = true := by simp; omega
      rw [hcb] at hcc
      obtain ⟨hv1, hv2⟩ := okV_out hv
      obtain ⟨_, h8, hin, hs1, hs2⟩ := okL_out hv1
      have hltd := okD_lt hv2 h8 (fun j hj => (oct_bd ho j hj).1)
      have bV := valL_bd zs [d0, d1, d2, d3, d4, d5, d6, d7] zs.length (Nat.le_refl _) hin hltd
      rw [List.take_length] at bV
      have HV := hid (fun (w : World) (hS : Stk w b zs) => l01Value_ok b n cap zs d0 d1 d2 d3 d4 d5 d6 d7 ho hv (by omega) w hS)
      have HP := hid (fun (k : Nat) (hk : k ≤ n) (w : World) (hS : Stk w b zs) => l01Place_any b n cap k zs w hS hn hcap hv1 hk)
      rw [hn] at HV
      rw [← hn] at HV
      obtain ⟨T, hT⟩ : ∃ T, T = valL zs [d0, d1, d2, d3, d4, d5, d6, d7] zs.length := ⟨_, rfl⟩
      rw [hn, ← hT, ← hn] at HV
      rw [← hT] at bV
      rw [← hT]
      have h8' : n ≤ 8 := by omega
      have HI := hid hin
      clear hv hn h ho hcb hv1 hv2 h8 hin hltd hT
      go_enter Try.func12, Try.ntmps12
      go_wp2_with fail
      have hX := specValidDigits_any _ n cap zs d0 d1 d2 d3 d4 d5 d6 d7 _ H1.out N.out HO.out
      rw [V.out] at hX
      refine hX.mono ?_
      clear hX
      rintro e w1 ⟨rfl, hB1⟩
      have hz1 := hB1.size
      simp only [World.size_alloc] at hB1 hz1
      have rD1 := rD.out.below hB1 (by omega)
      have f0 := rD1.cell 0; have f1 := rD1.cell 1; have f2 := rD1.cell 2; have f3 := rD1.cell 3; have f4 := rD1.cell 4; have f5 := rD1.cell 5; have f6 := rD1.cell 6; have f7 := rD1.cell 7
      simp only [List.getElem?_cons_zero, List.getElem?_cons_succ] at f0 f1 f2 f3 f4 f5 f6 f7
      clear rD1
      have S1 := hid (H1.out.below hB1 (by have := H1.out.1; simp only [World.size_alloc] at this; exact this))
      have R1 := HR.out.below hB1 (by omega)
      have O1 := HOut.out.below hB1 (by omega)
      have B1 := hB0.trans (hB1.mono (by omega))
      clear hB0 hB1 HR HOut rD H1
      go_wp2_with fail
      refine (hcc.out w1).mono ?_
      rintro e w' ⟨rfl, rfl⟩
      go_wp2_with fail
      refine (HV.out w1 S1.out).mono ?_
      rintro e w2 ⟨rfl, hB2⟩
      have hz2 := hB2.size
      have S2 := S1.out.below hB2 S1.out.1
      have R2 := R1.below hB2 (by omega)
      have O2 := O1.below hB2 (by omega)
      have B2 := B1.trans (hB2.mono (by omega))
      clear f0 f1 f2 f3 f4 f5 f6 f7 R1 O1 B1 hB2 S1
      go_wp2_with fail
      have hws := B2.size
      have hbw : b < w.heap.size := hbl
      have HS2 := hid S2
      clear S2
      go_loopw [10] (fun i wr => ∃ k : Nat, k ≤ n ∧ i = .int .i64 k ∧ Row wr (w.heap.size + 1) 34 zeroI8 ∧ Row wr (w.heap.size + 1 + 1) 34 (mto zs T c k) ∧ Below w.heap.size w wr ∧ Stk wr b zs) (fun i _ => n - (intOf i).toNat)
      case atStart => exact ⟨0, Nat.zero_le _, rfl, R2, O2, B2, HS2.out⟩
      case round =>
        obtain ⟨k, hk, rfl, hres, hrow, hB, hSr⟩ := hrel
        by_cases hlt : k < n
        · have hkz : k < zs.length := by rw [← N.out]; exact hlt
          obtain ⟨old, hold⟩ : ∃ u, wr.cell? ⟨w.heap.size + 1 + 1, k, none⟩ = some u := ⟨_, (hrow.cell k).trans (List.getElem?_eq_getElem (by rw [mto_len]; omega))⟩
          have hf := hrow.frozen k
          have hR2 := hid (hrow.set k (.int .i64 (mvK zs T c k)))
          rw [mto_succ zs T c k (by omega)] at hR2
          have hres2 := hid (hres.other (a := ⟨w.heap.size + 1 + 1, k, none⟩) (by show w.heap.size + 1 + 1 ≠ w.heap.size + 1; omega) (.int .i64 (mvK zs T c k)))
          have hB2 := hid (hB.setCell (p := ⟨w.heap.size + 1 + 1, k, none⟩) (by show w.heap.size ≤ w.heap.size + 1 + 1; omega) (.int .i64 (mvK zs T c k)))
          have hS2 := hid (hSr.below ((Below.refl w.heap.size wr).setCell (p := ⟨w.heap.size + 1 + 1, k, none⟩) (by show w.heap.size ≤ w.heap.size + 1 + 1; omega) (.int .i64 (mvK zs T c k))) hbw)
          have HMV : Hid (mvK zs T c k = (T + c) / szL (zs.take k) - T / szL (zs.take k)) := hid rfl
          obtain ⟨s1, s2, _, _⟩ := szL_step zs k hkz (by rw [← N.out]; omega) (fun j hj => HI.out j (by omega))
          have HPk := hid (HP.out k hk wr hSr)
          clear hrow hres hB hSr
          obtain ⟨p, hp⟩ : ∃ p, p = szL (zs.take k) := ⟨_, rfl⟩
          rw [← hp] at s1 s2 HMV HPk
          clear hp
          have FD1 := hid (fun w => l01Down_any (T + c) p (by omega) (by omega) w)
          have FD2 := hid (fun w => l01Down_any T p (by omega) (by omega) w)
          have n1 : IntKind.i64.wrap (T + c) = T + c := IntWalk.i64_in _ (by omega)
          have l1 : -10000000000000 ≤ (T + c) / p := Int.le_ediv_of_mul_le (by omega) (by omega)
          have l2 : (T + c) / p ≤ 10000000000000 := Int.ediv_le_of_le_mul (by omega) (by omega)
          have l3 : 0 ≤ T / p := Int.le_ediv_of_mul_le (by omega) (by omega)
          have l4 : T / p ≤ 10000000000000 := Int.ediv_le_of_le_mul (by omega) (by omega)
          obtain ⟨u1, hu1⟩ : ∃ u, u = (T + c) / p := ⟨_, rfl⟩
          obtain ⟨u2, hu2⟩ : ∃ u, u = T / p := ⟨_, rfl⟩
          rw [← hu1] at FD1 l1 l2 HMV
          rw [← hu2] at FD2 l3 l4 HMV
          clear hu1 hu2
          obtain ⟨mv, hmv⟩ : ∃ mv, mv = mvK zs T c k := ⟨_, rfl⟩
          rw [← hmv] at HMV hR2 hres2 hB2 hS2
          clear hmv
          rw [HMV.out] at hR2 hres2 hB2 hS2
          have n2 : IntKind.i64.wrap (u1 - u2) = u1 - u2 := IntWalk.i64_in _ (by omega)
          have n6 : (k : Int) < 8 := by omega
          go_wp2_with fail
          refine HPk.out.mono ?_
          rintro e w' ⟨rfl, rfl⟩
          go_wp2_with fail
          refine (FD1.out wr).mono ?_
          rintro e w' ⟨rfl, rfl⟩
          go_wp2_with fail
          refine (FD2.out wr).mono ?_
          rintro e w' ⟨rfl, rfl⟩
          go_wp2_with fail
          go_roundw
          case rel => exact ⟨k + 1, by omega, by go_num, hres2.out, hR2.out, hB2.out, hS2.out⟩
          case measure => simp [intOf]; omega
        · obtain rfl : k = n := by omega
          rw [N.out, mto_all] at hrow
          obtain ⟨a0, e0⟩ : ∃ a, a = mg (mvL zs T c) 0 := ⟨_, rfl⟩
          obtain ⟨a1, e1⟩ : ∃ a, a = mg (mvL zs T c) 1 := ⟨_, rfl⟩
          obtain ⟨a2, e2⟩ : ∃ a, a = mg (mvL zs T c) 2 := ⟨_, rfl⟩
          obtain ⟨a3, e3⟩ : ∃ a, a = mg (mvL zs T c) 3 := ⟨_, rfl⟩
          obtain ⟨a4, e4⟩ : ∃ a, a = mg (mvL zs T c) 4 := ⟨_, rfl⟩
          obtain ⟨a5, e5⟩ : ∃ a, a = mg (mvL zs T c) 5 := ⟨_, rfl⟩
          obtain ⟨a6, e6⟩ : ∃ a, a = mg (mvL zs T c) 6 := ⟨_, rfl⟩
          obtain ⟨a7, e7⟩ : ∃ a, a = mg (mvL zs T c) 7 := ⟨_, rfl⟩
          rw [← e0, ← e1, ← e2, ← e3, ← e4, ← e5, ← e6, ← e7] at hrow
          replace e0 := hid e0
          replace e1 := hid e1
          replace e2 := hid e2
          replace e3 := hid e3
          replace e4 := hid e4
          replace e5 := hid e5
          replace e6 := hid e6
          replace e7 := hid e7
          clear hSr
          have g0 := hres.cell 0; have k0 := hres.frozen 0; have g1 := hres.cell 1; have k1 := hres.frozen 1; have g2 := hres.cell 2; have k2 := hres.frozen 2; have g3 := hres.cell 3; have k3 := hres.frozen 3; have g4 := hres.cell 4; have k4 := hres.frozen 4; have g5 := hres.cell 5; have k5 := hres.frozen 5; have g6 := hres.cell 6; have k6 := hres.frozen 6; have g7 := hres.cell 7; have k7 := hres.frozen 7
          have q0 := hrow.cell 0; have q1 := hrow.cell 1; have q2 := hrow.cell 2; have q3 := hrow.cell 3; have q4 := hrow.cell 4; have q5 := hrow.cell 5; have q6 := hrow.cell 6; have q7 := hrow.cell 7
          simp only [zeroI8, List.getElem?_cons_zero, List.getElem?_cons_succ] at g0 g1 g2 g3 g4 g5 g6 g7 q0 q1 q2 q3 q4 q5 q6 q7
          have r2 := hid (hres.set8 rfl (.int .i64 a0) (.int .i64 a1) (.int .i64 a2) (.int .i64 a3) (.int .i64 a4) (.int .i64 a5) (.int .i64 a6) (.int .i64 a7))
          have b2 := hid (below_set8 (g := w.heap.size + 1) (hB) (by omega) (.int .i64 a0) (.int .i64 a1) (.int .i64 a2) (.int .i64 a3) (.int .i64 a4) (.int .i64 a5) (.int .i64 a6) (.int .i64 a7))
          clear hres hrow
          go_wp2_with fail
          clear g0 k0 g1 k1 g2 k2 g3 k3 g4 k4 g5 k5 g6 k6 g7 k7 q0 q1 q2 q3 q4 q5 q6 q7
          obtain ⟨W, hW⟩ : ∃ W, W = ((((((((wr.setCell ⟨w.heap.size + 1, 0, none⟩ (.int .i64 a0)).setCell ⟨w.heap.size + 1, 1, none⟩ (.int .i64 a1)).setCell ⟨w.heap.size + 1, 2, none⟩ (.int .i64 a2)).setCell ⟨w.heap.size + 1, 3, none⟩ (.int .i64 a3)).setCell ⟨w.heap.size + 1, 4, none⟩ (.int .i64 a4)).setCell ⟨w.heap.size + 1, 5, none⟩ (.int .i64 a5)).setCell ⟨w.heap.size + 1, 6, none⟩ (.int .i64 a6)).setCell ⟨w.heap.size + 1, 7, none⟩ (.int .i64 a7)) := ⟨_, rfl⟩
          rw [← hW] at r2 b2 ⊢
          clear hW
          have r2 := r2.out
          have g0 := r2.cell 0; have g1 := r2.cell 1; have g2 := r2.cell 2; have g3 := r2.cell 3; have g4 := r2.cell 4; have g5 := r2.cell 5; have g6 := r2.cell 6; have g7 := r2.cell 7
          simp only [List.getElem?_cons_zero, List.getElem?_cons_succ] at g0 g1 g2 g3 g4 g5 g6 g7
          exact bodyPost_ret (v := .tuple #[.agg #[.int .i64 a0, .int .i64 a1, .int .i64 a2, .int .i64 a3, .int .i64 a4, .int .i64 a5, .int .i64 a6, .int .i64 a7], .int .i64 0]) (by simp [results, Try.results12, go_sem, g0, g1, g2, g3, g4, g5, g6, g7]) rfl ⟨by rw [e0.out]; rw [e1.out]; rw [e2.out]; rw [e3.out]; rw [e4.out]; rw [e5.out]; rw [e6.out]; rw [e7.out], b2.out⟩
end Go.Proofs.Ytigiegdkfgjmcaa
