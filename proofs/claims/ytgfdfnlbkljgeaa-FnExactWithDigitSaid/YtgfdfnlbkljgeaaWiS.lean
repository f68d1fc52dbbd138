/- WithDigit: the model's. -/
import Derived.Test.YtgfdfnlbkljgeaaWiA
namespace Go.Proofs.Ytgfdfnlbkljgeaa
open Go.RowKit
theorem clr_low {d : Int} {j : Nat} (x y : Int) (h : d < 64) (hj : d % 64 = (j : Int)) : bits .xor .u64 (putM x y d).1 (IntKind.u64.wrap (2 ^ j)) = (clrM x y d).1 ∧ (putM x y d).2 = (clrM x y d).2 := by
  rw [putM_low h hj, clrM_low h hj]
  exact ⟨xor_or _ _, rfl⟩
theorem clr_high {d : Int} {j : Nat} (x y : Int) (h : 64 ≤ d) (hj : d % 64 = (j : Int)) : bits .xor .u64 (putM x y d).2 (IntKind.u64.wrap (2 ^ j)) = (clrM x y d).2 ∧ (putM x y d).1 = (clrM x y d).1 := by
  rw [putM_high h hj, clrM_high h hj]
  exact ⟨xor_or _ _, rfl⟩
set_option maxRecDepth 100000 in
set_option maxHeartbeats 2000000 in
theorem specWithDigit_any (b n cap : Nat) (zs : List Int) (ps : List (Int × Int)) (wh d : Int) (may : Bool) (w : World) (h : Stk w b zs) (hn : n = zs.length) (hps : Ph ps) (hwf : -9223372036854775808 ≤ d ∧ d ≤ 9223372036854775807) :
    Calls Try.prog 26 #[.slice (some ⟨b, 0, none⟩) n cap, .agg (phL ps).toArray, .int .i64 wh, .int .i64 d, .bool may] w fun e w' => e = .returned (.tuple #[.agg (phL (withR zs ps wh d may).1).toArray, .int .i64 (withR zs ps wh d may).2]) ∧ Below w.heap.size w w' := by
  have r6 := (Row.new w 31 (phL ps)).alloc (.cells #[.int .u64 0, .int .u64 0, .int .u64 0, .int .u64 0, .int .u64 0, .int .u64 0, .int .u64 0, .int .u64 0, .int .u64 0, .int .u64 0, .int .u64 0, .int .u64 0, .int .u64 0, .int .u64 0, .int .u64 0, .int .u64 0] 31)
  have r10 := (Row.new (w.alloc (.cells (phL ps).toArray 31)) 31 [.int .u64 0, .int .u64 0, .int .u64 0, .int .u64 0, .int .u64 0, .int .u64 0, .int .u64 0, .int .u64 0, .int .u64 0, .int .u64 0, .int .u64 0, .int .u64 0, .int .u64 0, .int .u64 0, .int .u64 0, .int .u64 0]).zeros
  have hB : Below w.heap.size w ((w.alloc (.cells (phL ps).toArray 31)).alloc (.cells #[.int .u64 0, .int .u64 0, .int .u64 0, .int .u64 0, .int .u64 0, .int .u64 0, .int .u64 0, .int .u64 0, .int .u64 0, .int .u64 0, .int .u64 0, .int .u64 0, .int .u64 0, .int .u64 0, .int .u64 0, .int .u64 0] 31)) := ((Below.refl _ _).alloc (Nat.le_refl _) _).alloc (by simp) _
  simp only [World.size_alloc] at r10
  have hS := h.below hB h.1
  have hlB := h.1
  have hi := Try.infoPhoto
  have HN := hid hn
  have HVp := hid (fun (W : World) (hS : Stk W b zs) => specValidPhoto_any b n cap zs ps W hS hn)
  have hl20 : n ≤ 1048576 := by rw [hn]; exact h.2.2.2
  have HPS := hid hps
  have HWF := hid hwf
  clear h
  cases hp : okPh zs ps with
  | false =>
    rw [hp] at HVp
    rw [withR_no1 hp]
    clear hp hn hps hwf
    go_enter Try.func26, Try.ntmps26
    have HR6 := hid r6
    go_wp2_with ((with_reducible refine wpList_load_row rfl 31 _ rfl w.heap.size ?_ 31 (phL ps).toArray (0, 0) _ ?_ Try.underlying31 ?_ ?_ ?_); rfl; exact HR6.out; rfl; (rw [sz16]; exact hi))
    clear HR6
    with_reducible refine (HVp.out _ hS).mono ?_
    rintro e W1 ⟨rfl, hC⟩
    replace r6 := r6.below hC r6.lt
    replace r10 := r10.below hC r10.lt
    replace hS := hS.below hC hS.1
    replace hB := hB.trans (hC.mono hB.size)
    clear hC
    have R1 := hid (r10.setCells (ys := phL []) rfl)
    have T1 := r10.there 16 rfl
    have SB := hid (below_setCells (phL []) 0 _ hB (g := w.heap.size + 1) (by omega))
    clear r6 r10 hS hB
    go_wp2_with ((with_reducible refine wpList_store_mid rfl 31 _ _ rfl (w.heap.size + 1) 0 (phL []).toArray ?_ ?_ ?_ ?_ (all_oneCell_toArray (phL_one _)) ?_); rfl; rfl; (rw [sz16]; exact T1); (rw [sz16]; exact hi))
    exact bodyPost_ret (v := .tuple #[.agg (phL []).toArray, .int .i64 1]) (results_cell_slot (p := 10) (q := 11) (fn := Try.f26) rfl _ _ _ _ _ (0, 0) _ _ rfl rfl R1.out Try.underlying31 rfl (by rw [sz16]; exact hi)) rfl ⟨rfl, SB.out⟩
  | true =>
    rw [hp] at HVp
    have HOK := hid hp
    have HV := hid (okPh_ok hp)
    by_cases hd : hdB zs wh d
    · have hd' := hd
      obtain ⟨⟨hw0, hw1⟩, hd0, hd1⟩ := hd'
      obtain ⟨k, rfl⟩ := Int.eq_ofNat_of_zero_le hw0
      rw [Int.toNat_natCast] at hd1
      have hkz : k < zs.length := by omega
      have hkn : k < n := by omega
      have hzb := (okL_in HV.out).2 k hkz
      have hn8 : n ≤ 8 := by have := (okL_in HV.out).1; omega
      have HD := hid hd
      have hd127 : d ≤ 127 := by omega
      have hk8 : k < 8 := by omega
      have HDZ := hid (And.intro hd0 hd1)
      have HZB := hid hzb
      have HKZ := hid hkz
      clear hp hn hps hwf hd hw0 hw1 hd1 hkz hzb
      go_enter Try.func26, Try.ntmps26
      have HR6 := hid r6
      go_wp2_with ((with_reducible refine wpList_load_row rfl 31 _ rfl w.heap.size ?_ 31 (phL ps).toArray (0, 0) _ ?_ Try.underlying31 ?_ ?_ ?_); rfl; exact HR6.out; rfl; (rw [sz16]; exact hi))
      clear HR6
      with_reducible refine (HVp.out _ hS).mono ?_
      rintro e W1 ⟨rfl, hC⟩
      replace r6 := r6.below hC r6.lt
      replace r10 := r10.below hC r10.lt
      replace hS := hS.below hC hS.1
      replace hB := hB.trans (hC.mono hB.size)
      clear hC
      have hc := hS.2.1 k HKZ.out
      obtain ⟨z, hz⟩ : ∃ z, z = zs[k]?.getD 0 := ⟨_, rfl⟩
      have hzb' := HZB.out
      have hdz := HDZ.out
      rw [← hz] at hc hzb' hdz
      have HZ := hid hz
      have hkn0 : (k : Int) < (n : Int) := by omega
      have hz1 : 2 ≤ z := hzb'.1
      have hz2 : z ≤ 100 := hzb'.2
      have hwr : IntKind.i64.wrap (z - 1) = z - 1 := IntWalk.i64_in _ (by omega)
      have hwd0 := hdz.1
      have hwd1 := hdz.2
      clear hz hzb' hdz
      go_wp2_with fail
      with_reducible refine (l01Wheel_yes _ _ _ hl20 _ ⟨by omega, by omega⟩ _).mono ?_
      rintro e W2 ⟨rfl, rfl⟩
      go_wp2_with fail
      with_reducible refine (inr_yes _ _ _ _ (by omega)).mono ?_
      rintro e W2 ⟨rfl, rfl⟩
      clear hc hwr
      obtain ⟨q1, q2⟩ := phL_at ps k hk8
      have c1 := (r6.cell (k * 2)).trans q1
      have c2 := (r6.cell (k * 2 + 1)).trans q2
      have hk80 : (k : Int) < 8 := by omega
      have HM := hid (fun w => l05Put_any (pa ps k) (pb ps k) d w ⟨hwd0, hd127⟩)
      have HR6 := hid r6; have HR10 := hid r10
      clear q1 q2
      go_wp2_with fail
      with_reducible refine (HM.out _).mono ?_
      rintro e W3 ⟨rfl, hC⟩
      clear c1 c2
      replace r6 := HR6.out.below hC HR6.out.lt
      replace r10 := HR10.out.below hC HR10.out.lt
      replace hS := hS.below hC hS.1
      replace hB := hB.trans (hC.mono hB.size)
      clear hC HM HR6 HR10
      have rm := Row.new W3 29 [.int .u64 (putM (pa ps k) (pb ps k) d).1, .int .u64 (putM (pa ps k) (pb ps k) d).2]
      have hA : Below W3.heap.size W3 (W3.alloc (.cells #[.int .u64 (putM (pa ps k) (pb ps k) d).1, .int .u64 (putM (pa ps k) (pb ps k) d).2] 29)) := (Below.refl _ _).alloc (Nat.le_refl _) _
      have l10 := r10.lt
      have lS := hS.1
      replace r6 := r6.below hA r6.lt
      replace r10 := r10.below hA r10.lt
      replace hS := hS.below hA hS.1
      replace hB := hB.trans (hA.mono hB.size)
      clear hA
      go_upto_region 6 with fail
      obtain ⟨WX, hWX⟩ : ∃ X, X = W3.alloc (.cells #[.int .u64 (putM (pa ps k) (pb ps k) d).1, .int .u64 (putM (pa ps k) (pb ps k) d).2] 29) := ⟨_, rfl⟩
      rw [← hWX] at rm r6 r10 hS hB ⊢
      obtain ⟨g, hg⟩ : ∃ g, g = W3.heap.size := ⟨_, rfl⟩
      rw [← hg] at rm l10 lS ⊢
      clear hWX hg
      cases may with
      | true =>
        go_upto_region 8 with fail
        have e0 := rm.cell 0
        have e1 := rm.cell 1
        simp only [List.getElem?_cons_zero, List.getElem?_cons_succ] at e0 e1
        obtain ⟨q1, q2⟩ := phL_at ps k hk8
        have o1 := (r6.cell (k * 2)).trans q1
        have o2 := (r6.cell (k * 2 + 1)).trans q2
        have f1 := r6.frozen (k * 2)
        have f2 := r6.frozen (k * 2 + 1)
        have hX : Below w.heap.size WX ((WX.setCell ⟨w.heap.size, k * 2, none⟩ (.int .u64 (putM (pa ps k) (pb ps k) d).1)).setCell ⟨w.heap.size, k * 2 + 1, none⟩ (.int .u64 (putM (pa ps k) (pb ps k) d).2)) := ((Below.refl _ _).setCell (p := ⟨w.heap.size, k * 2, none⟩) (Nat.le_refl _) _).setCell (p := ⟨w.heap.size, k * 2 + 1, none⟩) (Nat.le_refl _) _
        have R6 := (r6.set (k * 2) (.int .u64 (putM (pa ps k) (pb ps k) d).1)).set (k * 2 + 1) (.int .u64 (putM (pa ps k) (pb ps k) d).2)
        rw [show ((phL ps).set (k * 2) (.int .u64 (putM (pa ps k) (pb ps k) d).1)).set (k * 2 + 1) (.int .u64 (putM (pa ps k) (pb ps k) d).2) = (phL (setW ps k (newM (pa ps k) (pb ps k) d true))) from setW_cell ps k (putM (pa ps k) (pb ps k) d) hk8] at R6
        have HR6 := hid R6
        have HR10 := hid ((r10.other (a := ⟨w.heap.size, k * 2, none⟩) (by simp) (.int .u64 (putM (pa ps k) (pb ps k) d).1)).other (a := ⟨w.heap.size, k * 2 + 1, none⟩) (by simp) (.int .u64 (putM (pa ps k) (pb ps k) d).2))
        have HS := hid (hS.below hX hlB)
        have HB := hid (hB.trans hX)
        clear r6 r10 hS hB hX q1 q2 R6 rm
        go_upto_region 9 with fail
        clear o1 o2 f1 f2 e0 e1
        obtain ⟨WY, hWY⟩ : ∃ X, X = (WX.setCell ⟨w.heap.size, k * 2, none⟩ (.int .u64 (putM (pa ps k) (pb ps k) d).1)).setCell ⟨w.heap.size, k * 2 + 1, none⟩ (.int .u64 (putM (pa ps k) (pb ps k) d).2) := ⟨_, rfl⟩
        rw [← hWY] at HR6 HR10 HS HB ⊢
        clear hWY
        have HK := hid (l05Ok_any b n cap w.heap.size zs (setW ps k (newM (pa ps k) (pb ps k) d true)) WY HS.out HN.out HR6.out HV.out)
        have hAW := hid (okPh_all (ps := (setW ps k (newM (pa ps k) (pb ps k) d true))) HV.out)
        go_wp2_with fail
        with_reducible refine HK.out.mono ?_
        rintro e W4 ⟨rfl, hC⟩
        have HR6' := hid (HR6.out.below hC HR6.out.lt)
        have r10 := HR10.out.below hC HR10.out.lt
        have hB := HB.out.trans (hC.mono HB.out.size)
        have T1 := r10.there 16 rfl
        have R0 := hid (r10.setCells (ys := phL []) rfl)
        have R1 := hid (r10.setCells (ys := (phL (setW ps k (newM (pa ps k) (pb ps k) d true)))) rfl)
        have SB0 := hid (below_setCells (phL []) 0 _ hB (g := w.heap.size + 1) (by omega))
        have SB := hid (below_setCells (phL (setW ps k (newM (pa ps k) (pb ps k) d true))) 0 _ hB (g := w.heap.size + 1) (by omega))
        clear r10 hB hC HK HR6 HR10 HS HB
        cases hm : allW zs (setW ps k (newM (pa ps k) (pb ps k) d true)) with
        | false =>
          have HMT := hid (withR_no4 HOK.out HD.out (hAW.out.trans hm))
          clear hm
          go_wp2_with ((with_reducible refine wpList_store_mid rfl 31 _ _ rfl (w.heap.size + 1) 0 (phL []).toArray ?_ ?_ ?_ ?_ (all_oneCell_toArray (phL_one _)) ?_); rfl; rfl; (rw [sz16]; exact T1); (rw [sz16]; exact hi))
          exact bodyPost_ret (v := .tuple #[.agg (phL []).toArray, .int .i64 4]) (results_cell_slot (p := 10) (q := 11) (fn := Try.f26) rfl _ _ _ _ _ (0, 0) _ _ rfl rfl R0.out Try.underlying31 rfl (by rw [sz16]; exact hi)) rfl ⟨by rw [HMT.out], SB0.out⟩
        | true =>
          have HMT := hid (withR_yes HOK.out HD.out (hAW.out.trans hm))
          clear hm
          go_wp2_with (first | ((with_reducible refine wpList_store_mid rfl 31 _ _ rfl (w.heap.size + 1) 0 (phL (setW ps k (newM (pa ps k) (pb ps k) d true))).toArray ?_ ?_ ?_ ?_ (all_oneCell_toArray (phL_one _)) ?_); rfl; rfl; (rw [sz16]; exact T1); (rw [sz16]; exact hi)) | ((with_reducible refine wpList_load_row rfl 31 _ rfl w.heap.size ?_ 31 (phL (setW ps k (newM (pa ps k) (pb ps k) d true))).toArray (0, 0) _ ?_ Try.underlying31 ?_ ?_ ?_); rfl; exact HR6'.out; rfl; (rw [sz16]; exact hi)))
          exact bodyPost_ret (v := .tuple #[.agg (phL ((setW ps k (newM (pa ps k) (pb ps k) d true)))).toArray, .int .i64 0]) (results_cell_slot (p := 10) (q := 11) (fn := Try.f26) rfl _ _ _ _ _ (0, 0) _ _ rfl rfl R1.out Try.underlying31 rfl (by rw [sz16]; exact hi)) rfl ⟨by rw [HMT.out], SB.out⟩
      | false =>
        obtain ⟨j, hj⟩ := Int.eq_ofNat_of_zero_le (show 0 ≤ d % 64 by omega)
        have hj' : j < 64 := by omega
        go_upto_region 7 with fail
        by_cases h64 : d < 64
        · have h1 : d / 64 = 0 := by omega
          have hcl := clr_low (pa ps k) (pb ps k) h64 hj
          have e0 := rm.cell 0
          have e1 := rm.cell 1
          simp only [List.getElem?_cons_zero, List.getElem?_cons_succ] at e0 e1
          have z0 := rm.frozen 0
          have z1 := rm.frozen 1
          have V := rm.set 0 (.int .u64 (bits .xor .u64 (putM (pa ps k) (pb ps k) d).1 (IntKind.u64.wrap (2 ^ j))))
          simp only [List.set_cons_zero, List.set_cons_succ] at V
          rw [hcl.1, hcl.2] at V
          have hX : Below g WX (WX.setCell ⟨g, 0, none⟩ (.int .u64 (bits .xor .u64 (putM (pa ps k) (pb ps k) d).1 (IntKind.u64.wrap (2 ^ j))))) := (Below.refl _ _).setCell (p := ⟨g, 0, none⟩) (Nat.le_refl _) _
          rw [hcl.1] at hX
          have HRM := hid V
          have HR6 := hid (r6.below hX (by omega))
          have HR10 := hid (r10.below hX (by omega))
          have HS := hid (hS.below hX (by omega))
          have HB := hid (hB.trans (hX.mono (by omega)))
          have HCL := hid hcl
          clear rm r6 r10 hS hB hX V hcl h64
          go_upto_region 8 with fail
          rw [HCL.out.1]
          clear e0 e1 z0 z1 h1 HCL
          have rm := HRM.out; have r6 := HR6.out; have r10 := HR10.out; have hS := HS.out; have hB := HB.out
          clear HRM HR6 HR10 HS HB
          obtain ⟨WZ, hWZ⟩ : ∃ X, X = WX.setCell ⟨g, 0, none⟩ (.int .u64 (clrM (pa ps k) (pb ps k) d).1) := ⟨_, rfl⟩
          rw [← hWZ] at rm r6 r10 hS hB ⊢
          clear hWZ
          have e0 := rm.cell 0
          have e1 := rm.cell 1
          simp only [List.getElem?_cons_zero, List.getElem?_cons_succ] at e0 e1
          obtain ⟨q1, q2⟩ := phL_at ps k hk8
          have o1 := (r6.cell (k * 2)).trans q1
          have o2 := (r6.cell (k * 2 + 1)).trans q2
          have f1 := r6.frozen (k * 2)
          have f2 := r6.frozen (k * 2 + 1)
          have hX : Below w.heap.size WZ ((WZ.setCell ⟨w.heap.size, k * 2, none⟩ (.int .u64 (clrM (pa ps k) (pb ps k) d).1)).setCell ⟨w.heap.size, k * 2 + 1, none⟩ (.int .u64 (clrM (pa ps k) (pb ps k) d).2)) := ((Below.refl _ _).setCell (p := ⟨w.heap.size, k * 2, none⟩) (Nat.le_refl _) _).setCell (p := ⟨w.heap.size, k * 2 + 1, none⟩) (Nat.le_refl _) _
          have R6 := (r6.set (k * 2) (.int .u64 (clrM (pa ps k) (pb ps k) d).1)).set (k * 2 + 1) (.int .u64 (clrM (pa ps k) (pb ps k) d).2)
          rw [show ((phL ps).set (k * 2) (.int .u64 (clrM (pa ps k) (pb ps k) d).1)).set (k * 2 + 1) (.int .u64 (clrM (pa ps k) (pb ps k) d).2) = (phL (setW ps k (newM (pa ps k) (pb ps k) d false))) from setW_cell ps k (clrM (pa ps k) (pb ps k) d) hk8] at R6
          have HR6 := hid R6
          have HR10 := hid ((r10.other (a := ⟨w.heap.size, k * 2, none⟩) (by simp) (.int .u64 (clrM (pa ps k) (pb ps k) d).1)).other (a := ⟨w.heap.size, k * 2 + 1, none⟩) (by simp) (.int .u64 (clrM (pa ps k) (pb ps k) d).2))
          have HS := hid (hS.below hX hlB)
          have HB := hid (hB.trans hX)
          clear r6 r10 hS hB hX q1 q2 R6 rm
          go_upto_region 9 with fail
          clear o1 o2 f1 f2 e0 e1
          obtain ⟨WY, hWY⟩ : ∃ X, X = (WZ.setCell ⟨w.heap.size, k * 2, none⟩ (.int .u64 (clrM (pa ps k) (pb ps k) d).1)).setCell ⟨w.heap.size, k * 2 + 1, none⟩ (.int .u64 (clrM (pa ps k) (pb ps k) d).2) := ⟨_, rfl⟩
          rw [← hWY] at HR6 HR10 HS HB ⊢
          clear hWY
          have HK := hid (l05Ok_any b n cap w.heap.size zs (setW ps k (newM (pa ps k) (pb ps k) d false)) WY HS.out HN.out HR6.out HV.out)
          have hAW := hid (okPh_all (ps := (setW ps k (newM (pa ps k) (pb ps k) d false))) HV.out)
          go_wp2_with fail
          with_reducible refine HK.out.mono ?_
          rintro e W4 ⟨rfl, hC⟩
          have HR6' := hid (HR6.out.below hC HR6.out.lt)
          have r10 := HR10.out.below hC HR10.out.lt
          have hB := HB.out.trans (hC.mono HB.out.size)
          have T1 := r10.there 16 rfl
          have R0 := hid (r10.setCells (ys := phL []) rfl)
          have R1 := hid (r10.setCells (ys := (phL (setW ps k (newM (pa ps k) (pb ps k) d false)))) rfl)
          have SB0 := hid (below_setCells (phL []) 0 _ hB (g := w.heap.size + 1) (by omega))
          have SB := hid (below_setCells (phL (setW ps k (newM (pa ps k) (pb ps k) d false))) 0 _ hB (g := w.heap.size + 1) (by omega))
          clear r10 hB hC HK HR6 HR10 HS HB
          cases hm : allW zs (setW ps k (newM (pa ps k) (pb ps k) d false)) with
          | false =>
            have HMT := hid (withR_no4 HOK.out HD.out (hAW.out.trans hm))
            clear hm
            go_wp2_with ((with_reducible refine wpList_store_mid rfl 31 _ _ rfl (w.heap.size + 1) 0 (phL []).toArray ?_ ?_ ?_ ?_ (all_oneCell_toArray (phL_one _)) ?_); rfl; rfl; (rw [sz16]; exact T1); (rw [sz16]; exact hi))
            exact bodyPost_ret (v := .tuple #[.agg (phL []).toArray, .int .i64 4]) (results_cell_slot (p := 10) (q := 11) (fn := Try.f26) rfl _ _ _ _ _ (0, 0) _ _ rfl rfl R0.out Try.underlying31 rfl (by rw [sz16]; exact hi)) rfl ⟨by rw [HMT.out], SB0.out⟩
          | true =>
            have HMT := hid (withR_yes HOK.out HD.out (hAW.out.trans hm))
            clear hm
            go_wp2_with (first | ((with_reducible refine wpList_store_mid rfl 31 _ _ rfl (w.heap.size + 1) 0 (phL (setW ps k (newM (pa ps k) (pb ps k) d false))).toArray ?_ ?_ ?_ ?_ (all_oneCell_toArray (phL_one _)) ?_); rfl; rfl; (rw [sz16]; exact T1); (rw [sz16]; exact hi)) | ((with_reducible refine wpList_load_row rfl 31 _ rfl w.heap.size ?_ 31 (phL (setW ps k (newM (pa ps k) (pb ps k) d false))).toArray (0, 0) _ ?_ Try.underlying31 ?_ ?_ ?_); rfl; exact HR6'.out; rfl; (rw [sz16]; exact hi)))
            exact bodyPost_ret (v := .tuple #[.agg (phL ((setW ps k (newM (pa ps k) (pb ps k) d false)))).toArray, .int .i64 0]) (results_cell_slot (p := 10) (q := 11) (fn := Try.f26) rfl _ _ _ _ _ (0, 0) _ _ rfl rfl R1.out Try.underlying31 rfl (by rw [sz16]; exact hi)) rfl ⟨by rw [HMT.out], SB.out⟩
        · have h1 : d / 64 = 1 := by omega
          have hcl := clr_high (pa ps k) (pb ps k) (by omega) hj
          have e0 := rm.cell 0
          have e1 := rm.cell 1
          simp only [List.getElem?_cons_zero, List.getElem?_cons_succ] at e0 e1
          have z0 := rm.frozen 0
          have z1 := rm.frozen 1
          have V := rm.set 1 (.int .u64 (bits .xor .u64 (putM (pa ps k) (pb ps k) d).2 (IntKind.u64.wrap (2 ^ j))))
          simp only [List.set_cons_zero, List.set_cons_succ] at V
          rw [hcl.1, hcl.2] at V
          have hX : Below g WX (WX.setCell ⟨g, 1, none⟩ (.int .u64 (bits .xor .u64 (putM (pa ps k) (pb ps k) d).2 (IntKind.u64.wrap (2 ^ j))))) := (Below.refl _ _).setCell (p := ⟨g, 1, none⟩) (Nat.le_refl _) _
          rw [hcl.1] at hX
          have HRM := hid V
          have HR6 := hid (r6.below hX (by omega))
          have HR10 := hid (r10.below hX (by omega))
          have HS := hid (hS.below hX (by omega))
          have HB := hid (hB.trans (hX.mono (by omega)))
          have HCL := hid hcl
          clear rm r6 r10 hS hB hX V hcl h64
          go_upto_region 8 with fail
          rw [HCL.out.1]
          clear e0 e1 z0 z1 h1 HCL
          have rm := HRM.out; have r6 := HR6.out; have r10 := HR10.out; have hS := HS.out; have hB := HB.out
          clear HRM HR6 HR10 HS HB
          obtain ⟨WZ, hWZ⟩ : ∃ X, X = WX.setCell ⟨g, 1, none⟩ (.int .u64 (clrM (pa ps k) (pb ps k) d).2) := ⟨_, rfl⟩
          rw [← hWZ] at rm r6 r10 hS hB ⊢
          clear hWZ
          have e0 := rm.cell 0
          have e1 := rm.cell 1
          simp only [List.getElem?_cons_zero, List.getElem?_cons_succ] at e0 e1
          obtain ⟨q1, q2⟩ := phL_at ps k hk8
          have o1 := (r6.cell (k * 2)).trans q1
          have o2 := (r6.cell (k * 2 + 1)).trans q2
          have f1 := r6.frozen (k * 2)
          have f2 := r6.frozen (k * 2 + 1)
          have hX : Below w.heap.size WZ ((WZ.setCell ⟨w.heap.size, k * 2, none⟩ (.int .u64 (clrM (pa ps k) (pb ps k) d).1)).setCell ⟨w.heap.size, k * 2 + 1, none⟩ (.int .u64 (clrM (pa ps k) (pb ps k) d).2)) := ((Below.refl _ _).setCell (p := ⟨w.heap.size, k * 2, none⟩) (Nat.le_refl _) _).setCell (p := ⟨w.heap.size, k * 2 + 1, none⟩) (Nat.le_refl _) _
          have R6 := (r6.set (k * 2) (.int .u64 (clrM (pa ps k) (pb ps k) d).1)).set (k * 2 + 1) (.int .u64 (clrM (pa ps k) (pb ps k) d).2)
          rw [show ((phL ps).set (k * 2) (.int .u64 (clrM (pa ps k) (pb ps k) d).1)).set (k * 2 + 1) (.int .u64 (clrM (pa ps k) (pb ps k) d).2) = (phL (setW ps k (newM (pa ps k) (pb ps k) d false))) from setW_cell ps k (clrM (pa ps k) (pb ps k) d) hk8] at R6
          have HR6 := hid R6
          have HR10 := hid ((r10.other (a := ⟨w.heap.size, k * 2, none⟩) (by simp) (.int .u64 (clrM (pa ps k) (pb ps k) d).1)).other (a := ⟨w.heap.size, k * 2 + 1, none⟩) (by simp) (.int .u64 (clrM (pa ps k) (pb ps k) d).2))
          have HS := hid (hS.below hX hlB)
          have HB := hid (hB.trans hX)
          clear r6 r10 hS hB hX q1 q2 R6 rm
          go_upto_region 9 with fail
          clear o1 o2 f1 f2 e0 e1
          obtain ⟨WY, hWY⟩ : ∃ X, X = (WZ.setCell ⟨w.heap.size, k * 2, none⟩ (.int .u64 (clrM (pa ps k) (pb ps k) d).1)).setCell ⟨w.heap.size, k * 2 + 1, none⟩ (.int .u64 (clrM (pa ps k) (pb ps k) d).2) := ⟨_, rfl⟩
          rw [← hWY] at HR6 HR10 HS HB ⊢
          clear hWY
          have HK := hid (l05Ok_any b n cap w.heap.size zs (setW ps k (newM (pa ps k) (pb ps k) d false)) WY HS.out HN.out HR6.out HV.out)
          have hAW := hid (okPh_all (ps := (setW ps k (newM (pa ps k) (pb ps k) d false))) HV.out)
          go_wp2_with fail
          with_reducible refine HK.out.mono ?_
          rintro e W4 ⟨rfl, hC⟩
          have HR6' := hid (HR6.out.below hC HR6.out.lt)
          have r10 := HR10.out.below hC HR10.out.lt
          have hB := HB.out.trans (hC.mono HB.out.size)
          have T1 := r10.there 16 rfl
          have R0 := hid (r10.setCells (ys := phL []) rfl)
          have R1 := hid (r10.setCells (ys := (phL (setW ps k (newM (pa ps k) (pb ps k) d false)))) rfl)
          have SB0 := hid (below_setCells (phL []) 0 _ hB (g := w.heap.size + 1) (by omega))
          have SB := hid (below_setCells (phL (setW ps k (newM (pa ps k) (pb ps k) d false))) 0 _ hB (g := w.heap.size + 1) (by omega))
          clear r10 hB hC HK HR6 HR10 HS HB
          cases hm : allW zs (setW ps k (newM (pa ps k) (pb ps k) d false)) with
          | false =>
            have HMT := hid (withR_no4 HOK.out HD.out (hAW.out.trans hm))
            clear hm
            go_wp2_with ((with_reducible refine wpList_store_mid rfl 31 _ _ rfl (w.heap.size + 1) 0 (phL []).toArray ?_ ?_ ?_ ?_ (all_oneCell_toArray (phL_one _)) ?_); rfl; rfl; (rw [sz16]; exact T1); (rw [sz16]; exact hi))
            exact bodyPost_ret (v := .tuple #[.agg (phL []).toArray, .int .i64 4]) (results_cell_slot (p := 10) (q := 11) (fn := Try.f26) rfl _ _ _ _ _ (0, 0) _ _ rfl rfl R0.out Try.underlying31 rfl (by rw [sz16]; exact hi)) rfl ⟨by rw [HMT.out], SB0.out⟩
          | true =>
            have HMT := hid (withR_yes HOK.out HD.out (hAW.out.trans hm))
            clear hm
            go_wp2_with (first | ((with_reducible refine wpList_store_mid rfl 31 _ _ rfl (w.heap.size + 1) 0 (phL (setW ps k (newM (pa ps k) (pb ps k) d false))).toArray ?_ ?_ ?_ ?_ (all_oneCell_toArray (phL_one _)) ?_); rfl; rfl; (rw [sz16]; exact T1); (rw [sz16]; exact hi)) | ((with_reducible refine wpList_load_row rfl 31 _ rfl w.heap.size ?_ 31 (phL (setW ps k (newM (pa ps k) (pb ps k) d false))).toArray (0, 0) _ ?_ Try.underlying31 ?_ ?_ ?_); rfl; exact HR6'.out; rfl; (rw [sz16]; exact hi)))
            exact bodyPost_ret (v := .tuple #[.agg (phL ((setW ps k (newM (pa ps k) (pb ps k) d false)))).toArray, .int .i64 0]) (results_cell_slot (p := 10) (q := 11) (fn := Try.f26) rfl _ _ _ _ _ (0, 0) _ _ rfl rfl R1.out Try.underlying31 rfl (by rw [sz16]; exact hi)) rfl ⟨by rw [HMT.out], SB.out⟩
    · rw [withR_no2 hp hd]
      have HD := hid hd
      have hn' := hid hn
      clear hp hn hps hwf hd
      go_enter Try.func26, Try.ntmps26
      have HR6 := hid r6
      go_wp2_with ((with_reducible refine wpList_load_row rfl 31 _ rfl w.heap.size ?_ 31 (phL ps).toArray (0, 0) _ ?_ Try.underlying31 ?_ ?_ ?_); rfl; exact HR6.out; rfl; (rw [sz16]; exact hi))
      clear HR6
      with_reducible refine (HVp.out _ hS).mono ?_
      rintro e W1 ⟨rfl, hC⟩
      replace r6 := r6.below hC r6.lt
      replace r10 := r10.below hC r10.lt
      replace hS := hS.below hC hS.1
      replace hB := hB.trans (hC.mono hB.size)
      clear hC
      by_cases hw : 0 ≤ wh ∧ wh < n
      · obtain ⟨k, rfl⟩ := Int.eq_ofNat_of_zero_le hw.1
        have hkz : k < zs.length := by have := hn'.out; omega
        have hc := hS.2.1 k hkz
        have hzb' := (okL_in HV.out).2 k hkz
        obtain ⟨z, hz⟩ : ∃ z, z = zs[k]?.getD 0 := ⟨_, rfl⟩
        have hdn : ¬ (0 ≤ d ∧ d < z) := fun hh => HD.out ⟨⟨by omega, by omega⟩, by rw [Int.toNat_natCast, ← hz]; exact hh⟩
        rw [← hz] at hc hzb'
        have hkn0 : (k : Int) < (n : Int) := by omega
        have hz1 : 2 ≤ z := hzb'.1
        have hz2 : z ≤ 100 := hzb'.2
        have hwr : IntKind.i64.wrap (z - 1) = z - 1 := IntWalk.i64_in _ (by omega)
        have hdn' : d < 0 ∨ z - 1 < d := by omega
        have HDN := hid hdn'
        clear hz hzb' hkz hdn hdn'
        go_wp2_with fail
        with_reducible refine (l01Wheel_yes _ _ _ hl20 _ hw _).mono ?_
        rintro e W2 ⟨rfl, rfl⟩
        go_wp2_with fail
        with_reducible refine (inr_no _ _ _ _ HDN.out).mono ?_
        rintro e W2 ⟨rfl, rfl⟩
        clear hc hwr
        have R1 := hid (r10.setCells (ys := phL []) rfl)
        have T1 := r10.there 16 rfl
        have SB := hid (below_setCells (phL []) 0 _ hB (g := w.heap.size + 1) (by omega))
        clear r6 r10 hS hB
        go_wp2_with ((with_reducible refine wpList_store_mid rfl 31 _ _ rfl (w.heap.size + 1) 0 (phL []).toArray ?_ ?_ ?_ ?_ (all_oneCell_toArray (phL_one _)) ?_); rfl; rfl; (rw [sz16]; exact T1); (rw [sz16]; exact hi))
        exact bodyPost_ret (v := .tuple #[.agg (phL []).toArray, .int .i64 2]) (results_cell_slot (p := 10) (q := 11) (fn := Try.f26) rfl _ _ _ _ _ (0, 0) _ _ rfl rfl R1.out Try.underlying31 rfl (by rw [sz16]; exact hi)) rfl ⟨rfl, SB.out⟩
      · go_wp2_with fail
        with_reducible refine (l01Wheel_no _ _ _ hl20 _ hw _).mono ?_
        rintro e W2 ⟨rfl, rfl⟩
        have R1 := hid (r10.setCells (ys := phL []) rfl)
        have T1 := r10.there 16 rfl
        have SB := hid (below_setCells (phL []) 0 _ hB (g := w.heap.size + 1) (by omega))
        clear r6 r10 hS hB
        go_wp2_with ((with_reducible refine wpList_store_mid rfl 31 _ _ rfl (w.heap.size + 1) 0 (phL []).toArray ?_ ?_ ?_ ?_ (all_oneCell_toArray (phL_one _)) ?_); rfl; rfl; (rw [sz16]; exact T1); (rw [sz16]; exact hi))
        exact bodyPost_ret (v := .tuple #[.agg (phL []).toArray, .int .i64 2]) (results_cell_slot (p := 10) (q := 11) (fn := Try.f26) rfl _ _ _ _ _ (0, 0) _ _ rfl rfl R1.out Try.underlying31 rfl (by rw [sz16]; exact hi)) rfl ⟨rfl, SB.out⟩
end Go.Proofs.Ytgfdfnlbkljgeaa
