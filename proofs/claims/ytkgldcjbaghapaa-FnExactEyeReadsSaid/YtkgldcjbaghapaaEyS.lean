/- What an eye reads: the model's. -/
import Derived.Test.YtkgldcjbaghapaaEyA
namespace Go.Proofs.Ytkgldcjbaghapaa
open Go.RowKit
set_option maxRecDepth 100000 in
set_option maxHeartbeats 1500000 in
theorem l02Reads_zero (B b n cap g m cap' : Nat) (zs : List Int) (js : List (Int × Int)) (d0 d1 d2 d3 d4 d5 d6 d7 : Int) (w : World) (hM : MoAt w B b n cap g m cap' zs js) (hn : n = zs.length) (hR : hasR zs js [d0, d1, d2, d3, d4, d5, d6, d7] = true) :
    Calls Try.prog 26 #[.pointer (some ⟨B, 0, none⟩), .agg ([.int .i64 d0, .int .i64 d1, .int .i64 d2, .int .i64 d3, .int .i64 d4, .int .i64 d5, .int .i64 d6, .int .i64 d7] : List Value).toArray, .int .i64 0] w fun e w' => e = .returned (.agg (rdV 0 zs [d0, d1, d2, d3, d4, d5, d6, d7] n).toArray) ∧ Below w.heap.size w w' := by
  have hB : Below w.heap.size w (((w.alloc (.cells #[.int .i64 d0, .int .i64 d1, .int .i64 d2, .int .i64 d3, .int .i64 d4, .int .i64 d5, .int .i64 d6, .int .i64 d7] 37)).alloc (.cells #[.int .u8 0, .int .u8 0, .int .u8 0, .int .u8 0, .int .u8 0, .int .u8 0, .int .u8 0, .int .u8 0] 29)).alloc (.cells #[.int .u8 0, .int .u8 0, .int .u8 0, .int .u8 0, .int .u8 0, .int .u8 0, .int .u8 0, .int .u8 0] 29)) := (((Below.refl _ _).alloc (Nat.le_refl _) _).alloc (by simp) _).alloc (by first | (simp; done) | (simp; omega)) _
  have M := hM.keep hB
  have rP := ((Row.new w 37 [.int .i64 d0, .int .i64 d1, .int .i64 d2, .int .i64 d3, .int .i64 d4, .int .i64 d5, .int .i64 d6, .int .i64 d7]).alloc (.cells #[.int .u8 0, .int .u8 0, .int .u8 0, .int .u8 0, .int .u8 0, .int .u8 0, .int .u8 0, .int .u8 0] 29)).alloc (.cells #[.int .u8 0, .int .u8 0, .int .u8 0, .int .u8 0, .int .u8 0, .int .u8 0, .int .u8 0, .int .u8 0] 29)
  have rR := (Row.new (w.alloc (.cells #[.int .i64 d0, .int .i64 d1, .int .i64 d2, .int .i64 d3, .int .i64 d4, .int .i64 d5, .int .i64 d6, .int .i64 d7] 37)) 29 [.int .u8 0, .int .u8 0, .int .u8 0, .int .u8 0, .int .u8 0, .int .u8 0, .int .u8 0, .int .u8 0]).alloc (.cells #[.int .u8 0, .int .u8 0, .int .u8 0, .int .u8 0, .int .u8 0, .int .u8 0, .int .u8 0, .int .u8 0] 29)
  have rD := Row.new ((w.alloc (.cells #[.int .i64 d0, .int .i64 d1, .int .i64 d2, .int .i64 d3, .int .i64 d4, .int .i64 d5, .int .i64 d6, .int .i64 d7] 37)).alloc (.cells #[.int .u8 0, .int .u8 0, .int .u8 0, .int .u8 0, .int .u8 0, .int .u8 0, .int .u8 0, .int .u8 0] 29)) 29 [.int .u8 0, .int .u8 0, .int .u8 0, .int .u8 0, .int .u8 0, .int .u8 0, .int .u8 0, .int .u8 0]
  simp only [World.size_alloc] at rR rD
  have hd := Try.infoDigits8
  obtain ⟨hv1, hv2⟩ := hasR_out hR
  obtain ⟨hz1, _, _⟩ := okM_out hv1
  have hn8 : n ≤ 8 := by have := (okL_in hz1).1; omega
  have HZ := hid (okL_in hz1).2
  have HQ := hid hv2
  have HN := hid hn
  have lB := hM.1.lt
  have hS0 := hM.2.1.1
  have hG0 := hM.2.2.1
  clear hM hn hR hv1 hv2 hz1
  go_enter Try.func26, Try.ntmps26
  go_wp2_with fail
  go_loopw [8, 9] (fun i _ wr => ∃ k : Nat, k ≤ n ∧ i = .int .i64 k ∧ MoAt wr B b n cap g m cap' zs js ∧ Row wr w.heap.size 37 [.int .i64 d0, .int .i64 d1, .int .i64 d2, .int .i64 d3, .int .i64 d4, .int .i64 d5, .int .i64 d6, .int .i64 d7] ∧ Row wr (w.heap.size + 1) 29 [.int .u8 0, .int .u8 0, .int .u8 0, .int .u8 0, .int .u8 0, .int .u8 0, .int .u8 0, .int .u8 0] ∧ Row wr (w.heap.size + 1 + 1) 29 (rdV 0 zs [d0, d1, d2, d3, d4, d5, d6, d7] k) ∧ Below w.heap.size w wr) (fun i _ _ => n - (intOf i).toNat)
  case atStart => exact ⟨0, Nat.zero_le _, rfl, M, rP, rR, by rw [rdV_zero]; exact rD, hB⟩
  case round =>
    clear M rP rR rD hB
    obtain ⟨k, hk, rfl, M, rP, rR, rD, hB⟩ := hrel
    obtain ⟨p0, p1⟩ := M.cells
    by_cases hlt : k < n
    · have hkz : k < zs.length := by rw [← HN.out]; exact hlt
      have hk8 : k < 8 := by omega
      have xz := M.2.1.2.1 k hkz
      have xk := (rP.cell k).trans (dp_at d0 d1 d2 d3 d4 d5 d6 d7 k hk8)
      have hzb := HZ.out k hkz
      have hdb := okPs_out HQ.out k hk8
      rw [endP_low hkz] at hdb
      have hX0 : rdX 0 zs [d0, d1, d2, d3, d4, d5, d6, d7] k = eyF 0 ([d0, d1, d2, d3, d4, d5, d6, d7][k]?.getD 0) % zs[k]?.getD 0 := rfl
      obtain ⟨z, hz⟩ : ∃ z, z = zs[k]?.getD 0 := ⟨_, rfl⟩
      obtain ⟨d, hdd⟩ : ∃ d, d = [d0, d1, d2, d3, d4, d5, d6, d7][k]?.getD 0 := ⟨_, rfl⟩
      rw [← hz] at xz hzb hdb hX0
      rw [← hdd] at xk hdb hX0
      rw [eyF_zero d z hzb hdb] at hX0
      have HX := hid hX0
      have hz2 := hzb.1
      have hz9 := hzb.2
      have hd0 := hdb.1
      have hd9 := hdb.2
      have hv0 : 0 ≤ d / 1000 := by omega
      have hv9 : d / 1000 ≤ 255 := by omega
      
      
      
      
      
      
      
      
      have hk0 : (0 : Int) ≤ (k : Int) := by omega
      have hk80 : (k : Int) < 8 := by omega
      have hlt0 : (k : Int) < (n : Int) := by omega
      have o1 := (rD.cell k).trans (rdV_at 0 zs [d0, d1, d2, d3, d4, d5, d6, d7] k hk8)
      have f1 := rD.frozen k
      have hX : Below (w.heap.size + 1 + 1) wr (wr.setCell ⟨w.heap.size + 1 + 1, k, none⟩ (.int .u8 (d / 1000))) := (Below.refl _ _).setCell (p := ⟨w.heap.size + 1 + 1, k, none⟩) (Nat.le_refl _) _
      have SD0 := rD.set k (.int .u8 (rdX 0 zs [d0, d1, d2, d3, d4, d5, d6, d7] k))
      rw [rdV_set 0 zs [d0, d1, d2, d3, d4, d5, d6, d7] k hk8, HX.out] at SD0
      have SD : Row (wr.setCell ⟨w.heap.size + 1 + 1, k, none⟩ (.int .u8 (d / 1000))) (w.heap.size + 1 + 1) 29 (rdV 0 zs [d0, d1, d2, d3, d4, d5, d6, d7] (k + 1)) := SD0
      have SP : Row (wr.setCell ⟨w.heap.size + 1 + 1, k, none⟩ (.int .u8 (d / 1000))) w.heap.size 37 [.int .i64 d0, .int .i64 d1, .int .i64 d2, .int .i64 d3, .int .i64 d4, .int .i64 d5, .int .i64 d6, .int .i64 d7] := rP.below hX (by omega)
      have SR : Row (wr.setCell ⟨w.heap.size + 1 + 1, k, none⟩ (.int .u8 (d / 1000))) (w.heap.size + 1) 29 [.int .u8 0, .int .u8 0, .int .u8 0, .int .u8 0, .int .u8 0, .int .u8 0, .int .u8 0, .int .u8 0] := rR.below hX (by omega)
      have SM : MoAt (wr.setCell ⟨w.heap.size + 1 + 1, k, none⟩ (.int .u8 (d / 1000))) B b n cap g m cap' zs js := M.below hX (by omega) (by omega) (by omega)
      have SB : Below w.heap.size w (wr.setCell ⟨w.heap.size + 1 + 1, k, none⟩ (.int .u8 (d / 1000))) := hB.trans (hX.mono (by omega))
      clear SD0 hX0 hdd hz hzb hdb M rP rR rD hB hkz hX p1
      go_wp2_with fail
      
      go_roundw
      case rel => exact ⟨k + 1, by omega, by go_num, SM, SP, SR, SD, SB⟩
      case measure => simp [intOf]; omega
    · obtain rfl : n = k := by omega
      have T1 := rR.there (rdV 0 zs [d0, d1, d2, d3, d4, d5, d6, d7] n).toArray.size (by simp [rdV])
      have R1 := hid (rR.setCells (ys := rdV 0 zs [d0, d1, d2, d3, d4, d5, d6, d7] n) (by simp [rdV]))
      have SB := hid (below_setCells (rdV 0 zs [d0, d1, d2, d3, d4, d5, d6, d7] n) 0 _ hB (g := w.heap.size + 1) (by omega))
      have HD := hid rD
      have hd8 : (Try.prog.info? 29).map (·.size) = some (rdV 0 zs [d0, d1, d2, d3, d4, d5, d6, d7] n).toArray.size := by rw [hd]; simp [rdV]
      clear M rP rR rD hB
      go_wp2_with (first | ((with_reducible refine wpList_store_mid rfl 29 _ _ rfl (w.heap.size + 1) 0 (rdV 0 zs [d0, d1, d2, d3, d4, d5, d6, d7] n : List Value).toArray ?_ ?_ ?_ ?_ (all_oneCell_toArray (one_of8 (ints_rd _ _ _ _))) ?_); rfl; rfl; exact T1; exact hd8) | ((with_reducible refine wpList_load_row rfl 29 _ rfl (w.heap.size + 1 + 1) ?_ 29 (rdV 0 zs [d0, d1, d2, d3, d4, d5, d6, d7] n : List Value).toArray (0, 0) _ ?_ Try.underlying29 ?_ ?_ ?_); rfl; exact HD.out; rfl; exact hd8))
      exact bodyPost_ret (v := .agg (rdV 0 zs [d0, d1, d2, d3, d4, d5, d6, d7] n).toArray) (results_cell_row (fn := Try.f26) rfl _ _ _ _ _ (0, 0) _ rfl R1.out Try.underlying29 rfl hd8) rfl ⟨rfl, SB.out⟩
set_option maxRecDepth 100000 in
set_option maxHeartbeats 1500000 in
theorem l02Reads_one (B b n cap g m cap' : Nat) (zs : List Int) (js : List (Int × Int)) (d0 d1 d2 d3 d4 d5 d6 d7 : Int) (w : World) (hM : MoAt w B b n cap g m cap' zs js) (hn : n = zs.length) (hR : hasR zs js [d0, d1, d2, d3, d4, d5, d6, d7] = true) :
    Calls Try.prog 26 #[.pointer (some ⟨B, 0, none⟩), .agg ([.int .i64 d0, .int .i64 d1, .int .i64 d2, .int .i64 d3, .int .i64 d4, .int .i64 d5, .int .i64 d6, .int .i64 d7] : List Value).toArray, .int .i64 1] w fun e w' => e = .returned (.agg (rdV 1 zs [d0, d1, d2, d3, d4, d5, d6, d7] n).toArray) ∧ Below w.heap.size w w' := by
  have hB : Below w.heap.size w (((w.alloc (.cells #[.int .i64 d0, .int .i64 d1, .int .i64 d2, .int .i64 d3, .int .i64 d4, .int .i64 d5, .int .i64 d6, .int .i64 d7] 37)).alloc (.cells #[.int .u8 0, .int .u8 0, .int .u8 0, .int .u8 0, .int .u8 0, .int .u8 0, .int .u8 0, .int .u8 0] 29)).alloc (.cells #[.int .u8 0, .int .u8 0, .int .u8 0, .int .u8 0, .int .u8 0, .int .u8 0, .int .u8 0, .int .u8 0] 29)) := (((Below.refl _ _).alloc (Nat.le_refl _) _).alloc (by simp) _).alloc (by first | (simp; done) | (simp; omega)) _
  have M := hM.keep hB
  have rP := ((Row.new w 37 [.int .i64 d0, .int .i64 d1, .int .i64 d2, .int .i64 d3, .int .i64 d4, .int .i64 d5, .int .i64 d6, .int .i64 d7]).alloc (.cells #[.int .u8 0, .int .u8 0, .int .u8 0, .int .u8 0, .int .u8 0, .int .u8 0, .int .u8 0, .int .u8 0] 29)).alloc (.cells #[.int .u8 0, .int .u8 0, .int .u8 0, .int .u8 0, .int .u8 0, .int .u8 0, .int .u8 0, .int .u8 0] 29)
  have rR := (Row.new (w.alloc (.cells #[.int .i64 d0, .int .i64 d1, .int .i64 d2, .int .i64 d3, .int .i64 d4, .int .i64 d5, .int .i64 d6, .int .i64 d7] 37)) 29 [.int .u8 0, .int .u8 0, .int .u8 0, .int .u8 0, .int .u8 0, .int .u8 0, .int .u8 0, .int .u8 0]).alloc (.cells #[.int .u8 0, .int .u8 0, .int .u8 0, .int .u8 0, .int .u8 0, .int .u8 0, .int .u8 0, .int .u8 0] 29)
  have rD := Row.new ((w.alloc (.cells #[.int .i64 d0, .int .i64 d1, .int .i64 d2, .int .i64 d3, .int .i64 d4, .int .i64 d5, .int .i64 d6, .int .i64 d7] 37)).alloc (.cells #[.int .u8 0, .int .u8 0, .int .u8 0, .int .u8 0, .int .u8 0, .int .u8 0, .int .u8 0, .int .u8 0] 29)) 29 [.int .u8 0, .int .u8 0, .int .u8 0, .int .u8 0, .int .u8 0, .int .u8 0, .int .u8 0, .int .u8 0]
  simp only [World.size_alloc] at rR rD
  have hd := Try.infoDigits8
  obtain ⟨hv1, hv2⟩ := hasR_out hR
  obtain ⟨hz1, _, _⟩ := okM_out hv1
  have hn8 : n ≤ 8 := by have := (okL_in hz1).1; omega
  have HZ := hid (okL_in hz1).2
  have HQ := hid hv2
  have HN := hid hn
  have lB := hM.1.lt
  have hS0 := hM.2.1.1
  have hG0 := hM.2.2.1
  clear hM hn hR hv1 hv2 hz1
  go_enter Try.func26, Try.ntmps26
  go_wp2_with fail
  go_loopw [8, 9] (fun i _ wr => ∃ k : Nat, k ≤ n ∧ i = .int .i64 k ∧ MoAt wr B b n cap g m cap' zs js ∧ Row wr w.heap.size 37 [.int .i64 d0, .int .i64 d1, .int .i64 d2, .int .i64 d3, .int .i64 d4, .int .i64 d5, .int .i64 d6, .int .i64 d7] ∧ Row wr (w.heap.size + 1) 29 [.int .u8 0, .int .u8 0, .int .u8 0, .int .u8 0, .int .u8 0, .int .u8 0, .int .u8 0, .int .u8 0] ∧ Row wr (w.heap.size + 1 + 1) 29 (rdV 1 zs [d0, d1, d2, d3, d4, d5, d6, d7] k) ∧ Below w.heap.size w wr) (fun i _ _ => n - (intOf i).toNat)
  case atStart => exact ⟨0, Nat.zero_le _, rfl, M, rP, rR, by rw [rdV_zero]; exact rD, hB⟩
  case round =>
    clear M rP rR rD hB
    obtain ⟨k, hk, rfl, M, rP, rR, rD, hB⟩ := hrel
    obtain ⟨p0, p1⟩ := M.cells
    by_cases hlt : k < n
    · have hkz : k < zs.length := by rw [← HN.out]; exact hlt
      have hk8 : k < 8 := by omega
      have xz := M.2.1.2.1 k hkz
      have xk := (rP.cell k).trans (dp_at d0 d1 d2 d3 d4 d5 d6 d7 k hk8)
      have hzb := HZ.out k hkz
      have hdb := okPs_out HQ.out k hk8
      rw [endP_low hkz] at hdb
      have hX0 : rdX 1 zs [d0, d1, d2, d3, d4, d5, d6, d7] k = eyF 1 ([d0, d1, d2, d3, d4, d5, d6, d7][k]?.getD 0) % zs[k]?.getD 0 := rfl
      obtain ⟨z, hz⟩ : ∃ z, z = zs[k]?.getD 0 := ⟨_, rfl⟩
      obtain ⟨d, hdd⟩ : ∃ d, d = [d0, d1, d2, d3, d4, d5, d6, d7][k]?.getD 0 := ⟨_, rfl⟩
      rw [← hz] at xz hzb hdb hX0
      rw [← hdd] at xk hdb hX0
      rw [eyF_one d z] at hX0
      have HX := hid hX0
      have hz2 := hzb.1
      have hz9 := hzb.2
      have hd0 := hdb.1
      have hd9 := hdb.2
      have hv0 : 0 ≤ (d + 500) / 1000 % z := by exact Int.emod_nonneg _ (by omega)
      have hv9 : (d + 500) / 1000 % z ≤ 255 := by have := Int.emod_lt_of_pos ((d + 500) / 1000) (show 0 < z by omega); omega
      have hq0 : 0 ≤ (d + 500) / 1000 := by omega
      have w1 : IntKind.i64.wrap (d + 500) = d + 500 := IntWalk.i64_in _ (by omega)
      have w2 : IntKind.i64.wrap z = z := IntWalk.i64_in _ (by omega)
      have w4 : (d + 500).tdiv 1000 = (d + 500) / 1000 := Int.tdiv_eq_ediv_of_nonneg (by omega)
      have w5 : ((d + 500) / 1000).tmod z = (d + 500) / 1000 % z := Int.tmod_eq_emod_of_nonneg (by omega)
      have hzz : z ≠ 0 := by omega
      have w6 : IntKind.i64.wrap ((d + 500) / 1000) = (d + 500) / 1000 := IntWalk.i64_in _ (by omega)
      have w7 : IntKind.i64.wrap ((d + 500) / 1000 % z) = (d + 500) / 1000 % z := IntWalk.i64_in _ (by omega)
      have hk0 : (0 : Int) ≤ (k : Int) := by omega
      have hk80 : (k : Int) < 8 := by omega
      have hlt0 : (k : Int) < (n : Int) := by omega
      have o1 := (rD.cell k).trans (rdV_at 1 zs [d0, d1, d2, d3, d4, d5, d6, d7] k hk8)
      have f1 := rD.frozen k
      have hX : Below (w.heap.size + 1 + 1) wr (wr.drew.setCell ⟨w.heap.size + 1 + 1, k, none⟩ (.int .u8 ((d + 500) / 1000 % z))) := (Below.refl _ _).drew.setCell (p := ⟨w.heap.size + 1 + 1, k, none⟩) (Nat.le_refl _) _
      have SD0 := (rD.below (Below.refl (w.heap.size + 1 + 1).succ wr).drew (Nat.lt_succ_self _)).set k (.int .u8 (rdX 1 zs [d0, d1, d2, d3, d4, d5, d6, d7] k))
      rw [rdV_set 1 zs [d0, d1, d2, d3, d4, d5, d6, d7] k hk8, HX.out] at SD0
      have SD : Row (wr.drew.setCell ⟨w.heap.size + 1 + 1, k, none⟩ (.int .u8 ((d + 500) / 1000 % z))) (w.heap.size + 1 + 1) 29 (rdV 1 zs [d0, d1, d2, d3, d4, d5, d6, d7] (k + 1)) := SD0
      have SP : Row (wr.drew.setCell ⟨w.heap.size + 1 + 1, k, none⟩ (.int .u8 ((d + 500) / 1000 % z))) w.heap.size 37 [.int .i64 d0, .int .i64 d1, .int .i64 d2, .int .i64 d3, .int .i64 d4, .int .i64 d5, .int .i64 d6, .int .i64 d7] := rP.below hX (by omega)
      have SR : Row (wr.drew.setCell ⟨w.heap.size + 1 + 1, k, none⟩ (.int .u8 ((d + 500) / 1000 % z))) (w.heap.size + 1) 29 [.int .u8 0, .int .u8 0, .int .u8 0, .int .u8 0, .int .u8 0, .int .u8 0, .int .u8 0, .int .u8 0] := rR.below hX (by omega)
      have SM : MoAt (wr.drew.setCell ⟨w.heap.size + 1 + 1, k, none⟩ (.int .u8 ((d + 500) / 1000 % z))) B b n cap g m cap' zs js := M.below hX (by omega) (by omega) (by omega)
      have SB : Below w.heap.size w (wr.drew.setCell ⟨w.heap.size + 1 + 1, k, none⟩ (.int .u8 ((d + 500) / 1000 % z))) := hB.trans (hX.mono (by omega))
      clear SD0 hX0 hdd hz hzb hdb M rP rR rD hB hkz hX p1
      go_wp2_with fail
      refine wp_region_held (S := fun W' : World => W'.cell? ⟨w.heap.size, k, none⟩ = some (.int .i64 d) ∧ W'.cell? ⟨B, 0, none⟩ = some (.slice (some ⟨b, 0, none⟩) n cap) ∧ W'.cell? ⟨b, k, none⟩ = some (.int .u8 z)) (by kernel_rfl) ?_
      change wpAnyH _ _ _ _ _ _ _ _ (World.drew _)
      have hS0 : (fun W' : World => W'.cell? ⟨w.heap.size, k, none⟩ = some (.int .i64 d) ∧ W'.cell? ⟨B, 0, none⟩ = some (.slice (some ⟨b, 0, none⟩) n cap) ∧ W'.cell? ⟨b, k, none⟩ = some (.int .u8 z)) wr.drew := ⟨xk, p0, xz⟩
      refine wpAnyH_takeD (some 26) (i := 0) (v := ?_) rfl rfl (by kernel_rfl) (by kernel_rfl) (by kernel_rfl) (fun _ _ _ h => h) (.inl ⟨by kernel_rfl, ?_⟩) hS0 ?_
      rotate_left
      · intro w' hw'; obtain ⟨hw1, hw2, hw3⟩ := hw'; go_simp; try with_reducible rfl
      try simp only [Act.put, List.setIfInBounds_toArray, List.set_cons_zero, List.set_cons_succ]
      refine wpAnyH_takeD (some 27) (i := 1) (v := ?_) rfl rfl (by kernel_rfl) (by kernel_rfl) (by kernel_rfl) (fun _ _ _ h => h) (.inl ⟨by kernel_rfl, ?_⟩) hS0 ?_
      rotate_left
      · intro w' hw'; obtain ⟨hw1, hw2, hw3⟩ := hw'; go_simp; try with_reducible rfl
      try simp only [Act.put, List.setIfInBounds_toArray, List.set_cons_zero, List.set_cons_succ]
      refine wpAnyH_takeD (some 28) (i := 2) (v := ?_) rfl rfl (by kernel_rfl) (by kernel_rfl) (by kernel_rfl) (fun _ _ _ h => h) (.inl ⟨by kernel_rfl, ?_⟩) hS0 ?_
      rotate_left
      · intro w' hw'; obtain ⟨hw1, hw2, hw3⟩ := hw'; go_simp; try with_reducible rfl
      try simp only [Act.put, List.setIfInBounds_toArray, List.set_cons_zero, List.set_cons_succ]
      refine wpAnyH_takeD (some 29) (i := 3) (v := ?_) rfl rfl (by kernel_rfl) (by kernel_rfl) (by kernel_rfl) (fun _ _ _ h => h) (.inl ⟨by kernel_rfl, ?_⟩) hS0 ?_
      rotate_left
      · intro w' hw'; obtain ⟨hw1, hw2, hw3⟩ := hw'; go_simp; try with_reducible rfl
      try simp only [Act.put, List.setIfInBounds_toArray, List.set_cons_zero, List.set_cons_succ]
      refine wpAnyH_takeD (some 30) (i := 4) (v := ?_) rfl rfl (by kernel_rfl) (by kernel_rfl) (by kernel_rfl) (fun _ _ _ h => h) (.inl ⟨by kernel_rfl, ?_⟩) hS0 ?_
      rotate_left
      · intro w' hw'; obtain ⟨hw1, hw2, hw3⟩ := hw'; go_simp; try with_reducible rfl
      try simp only [Act.put, List.setIfInBounds_toArray, List.set_cons_zero, List.set_cons_succ]
      refine wpAnyH_takeD (some 31) (i := 5) (v := ?_) rfl rfl (by kernel_rfl) (by kernel_rfl) (by kernel_rfl) (fun _ _ _ h => h) (.inl ⟨by kernel_rfl, ?_⟩) hS0 ?_
      rotate_left
      · intro w' hw'; obtain ⟨hw1, hw2, hw3⟩ := hw'; go_simp; try with_reducible rfl
      try simp only [Act.put, List.setIfInBounds_toArray, List.set_cons_zero, List.set_cons_succ]
      refine wpAnyH_takeD (some 32) (i := 6) (v := ?_) rfl rfl (by kernel_rfl) (by kernel_rfl) (by kernel_rfl) (fun _ _ _ h => h) (.inl ⟨by kernel_rfl, ?_⟩) hS0 ?_
      rotate_left
      · intro w' hw'; obtain ⟨hw1, hw2, hw3⟩ := hw'; go_simp; try with_reducible rfl
      try simp only [Act.put, List.setIfInBounds_toArray, List.set_cons_zero, List.set_cons_succ]
      refine wpAnyH_takeD (some 33) (i := 7) (v := ?_) rfl rfl (by kernel_rfl) (by kernel_rfl) (by kernel_rfl) (fun _ _ _ h => h) (.inl ⟨by kernel_rfl, ?_⟩) hS0 ?_
      rotate_left
      · intro w' hw'; obtain ⟨hw1, hw2, hw3⟩ := hw'; go_simp; try with_reducible rfl
      try simp only [Act.put, List.setIfInBounds_toArray, List.set_cons_zero, List.set_cons_succ]
      refine wpAnyH_takeD (some 34) (i := 8) (v := ?_) rfl rfl (by kernel_rfl) (by kernel_rfl) (by kernel_rfl) (fun _ _ _ h => h) (.inl ⟨by kernel_rfl, ?_⟩) hS0 ?_
      rotate_left
      · intro w' hw'; obtain ⟨hw1, hw2, hw3⟩ := hw'; go_simp; try with_reducible rfl
      try simp only [Act.put, List.setIfInBounds_toArray, List.set_cons_zero, List.set_cons_succ]
      refine wpAnyH_takeD (some 35) (i := 9) (v := ?_) rfl rfl (by kernel_rfl) (by kernel_rfl) (by kernel_rfl) (fun _ _ _ h => h) (.inl ⟨by kernel_rfl, ?_⟩) hS0 ?_
      rotate_left
      · intro w' hw'; obtain ⟨hw1, hw2, hw3⟩ := hw'; go_simp; try with_reducible rfl
      try simp only [Act.put, List.setIfInBounds_toArray, List.set_cons_zero, List.set_cons_succ]
      refine wpAnyH_takeD (some 36) (i := 10) (v := ?_) rfl rfl (by kernel_rfl) (by kernel_rfl) (by kernel_rfl) (fun _ _ _ h => h) (.inl ⟨by kernel_rfl, ?_⟩) hS0 ?_
      rotate_left
      · intro w' hw'; obtain ⟨hw1, hw2, hw3⟩ := hw'; go_simp; try with_reducible rfl
      try simp only [Act.put, List.setIfInBounds_toArray, List.set_cons_zero, List.set_cons_succ]
      refine wpAnyH_takeD (some 37) (i := 11) (v := ?_) rfl rfl (by kernel_rfl) (by kernel_rfl) (by kernel_rfl) (fun _ _ _ h => h) (.inl ⟨by kernel_rfl, ?_⟩) hS0 ?_
      rotate_left
      · intro w' hw'; obtain ⟨hw1, hw2, hw3⟩ := hw'; go_simp; try with_reducible rfl
      try simp only [Act.put, List.setIfInBounds_toArray, List.set_cons_zero, List.set_cons_succ]
      refine wpAnyH_takeD (some 38) (i := 12) (v := ?_) rfl rfl (by kernel_rfl) (by kernel_rfl) (by kernel_rfl) (fun _ _ _ h => h) (.inl ⟨by kernel_rfl, ?_⟩) hS0 ?_
      rotate_left
      · intro w' hw'; obtain ⟨hw1, hw2, hw3⟩ := hw'; go_simp; try with_reducible rfl
      try simp only [Act.put, List.setIfInBounds_toArray, List.set_cons_zero, List.set_cons_succ]
      refine wpAnyH_takeD (some 39) (i := 13) (v := ?_) rfl rfl (by kernel_rfl) (by kernel_rfl) (by kernel_rfl) (fun _ _ _ h => h) (.inl ⟨by kernel_rfl, ?_⟩) hS0 ?_
      rotate_left
      · intro w' hw'; obtain ⟨hw1, hw2, hw3⟩ := hw'; go_simp; try with_reducible rfl
      try simp only [Act.put, List.setIfInBounds_toArray, List.set_cons_zero, List.set_cons_succ]
      refine wpAnyH_takeD (some 9) (i := 14) (v := ?_) rfl rfl (by kernel_rfl) (by kernel_rfl) (by kernel_rfl) (fun _ _ _ h => h) (.inl ⟨by kernel_rfl, ?_⟩) hS0 ?_
      rotate_left
      · intro w' hw'; go_simp; try with_reducible rfl
      try simp only [Act.put, List.setIfInBounds_toArray, List.set_cons_zero, List.set_cons_succ]
      refine wpAnyH_done (by kernel_rfl) ?_ _
      go_wp2_with fail
      go_roundw
      case rel => exact ⟨k + 1, by omega, by go_num, SM, SP, SR, SD, SB⟩
      case measure => simp [intOf]; omega
    · obtain rfl : n = k := by omega
      have T1 := rR.there (rdV 1 zs [d0, d1, d2, d3, d4, d5, d6, d7] n).toArray.size (by simp [rdV])
      have R1 := hid (rR.setCells (ys := rdV 1 zs [d0, d1, d2, d3, d4, d5, d6, d7] n) (by simp [rdV]))
      have SB := hid (below_setCells (rdV 1 zs [d0, d1, d2, d3, d4, d5, d6, d7] n) 0 _ hB (g := w.heap.size + 1) (by omega))
      have HD := hid rD
      have hd8 : (Try.prog.info? 29).map (·.size) = some (rdV 1 zs [d0, d1, d2, d3, d4, d5, d6, d7] n).toArray.size := by rw [hd]; simp [rdV]
      clear M rP rR rD hB
      go_wp2_with (first | ((with_reducible refine wpList_store_mid rfl 29 _ _ rfl (w.heap.size + 1) 0 (rdV 1 zs [d0, d1, d2, d3, d4, d5, d6, d7] n : List Value).toArray ?_ ?_ ?_ ?_ (all_oneCell_toArray (one_of8 (ints_rd _ _ _ _))) ?_); rfl; rfl; exact T1; exact hd8) | ((with_reducible refine wpList_load_row rfl 29 _ rfl (w.heap.size + 1 + 1) ?_ 29 (rdV 1 zs [d0, d1, d2, d3, d4, d5, d6, d7] n : List Value).toArray (0, 0) _ ?_ Try.underlying29 ?_ ?_ ?_); rfl; exact HD.out; rfl; exact hd8))
      exact bodyPost_ret (v := .agg (rdV 1 zs [d0, d1, d2, d3, d4, d5, d6, d7] n).toArray) (results_cell_row (fn := Try.f26) rfl _ _ _ _ _ (0, 0) _ rfl R1.out Try.underlying29 rfl hd8) rfl ⟨rfl, SB.out⟩
end Go.Proofs.Ytkgldcjbaghapaa
