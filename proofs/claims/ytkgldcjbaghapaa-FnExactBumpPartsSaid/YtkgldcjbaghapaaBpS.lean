/- BumpParts: the model's. -/
import Derived.Test.YtkgldcjbaghapaaBpA
namespace Go.Proofs.Ytkgldcjbaghapaa
open Go.RowKit
set_option maxRecDepth 100000 in
set_option maxHeartbeats 2000000 in
theorem specBumpParts_any (b n cap g m cap' : Nat) (zs : List Int) (js : List (Int × Int)) (d0 d1 d2 d3 d4 d5 d6 d7 x y : Int) (w : World) (hS : Stk w b zs) (hJ : Jst w g js) (hn : n = zs.length) (hm : m = js.length) (hb : ∀ j, j < js.length → (-128 ≤ jk js j ∧ jk js j ≤ 127) ∧ (-32768 ≤ jf js j ∧ jf js j ≤ 32767)) :
    Calls Try.prog 18 #[.agg #[.slice (some ⟨b, 0, none⟩) n cap, .slice (some ⟨g, 0, none⟩) m cap'], .agg #[.int .i64 d0, .int .i64 d1, .int .i64 d2, .int .i64 d3, .int .i64 d4, .int .i64 d5, .int .i64 d6, .int .i64 d7], .int .i64 x, .int .i64 y] w fun e w' => e = .returned (.tuple #[.agg (bumpV zs js [d0, d1, d2, d3, d4, d5, d6, d7] x y).1.toArray, .int .i64 (bumpV zs js [d0, d1, d2, d3, d4, d5, d6, d7] x y).2]) ∧ Below w.heap.size w w' := by
  have bel1 : Below (w.alloc (.cells #[.slice (some ⟨b, 0, none⟩) n cap, .slice (some ⟨g, 0, none⟩) m cap'] 35)).heap.size (w.alloc (.cells #[.slice (some ⟨b, 0, none⟩) n cap, .slice (some ⟨g, 0, none⟩) m cap'] 35)) (((w.alloc (.cells #[.slice (some ⟨b, 0, none⟩) n cap, .slice (some ⟨g, 0, none⟩) m cap'] 35)).alloc (.cells #[.int .i64 d0, .int .i64 d1, .int .i64 d2, .int .i64 d3, .int .i64 d4, .int .i64 d5, .int .i64 d6, .int .i64 d7] 37)).alloc (.cells #[.int .i64 0, .int .i64 0, .int .i64 0, .int .i64 0, .int .i64 0, .int .i64 0, .int .i64 0, .int .i64 0] 37)) := ((Below.refl _ _).alloc (Nat.le_refl _) _).alloc (by simp) _
  have hB : Below w.heap.size w (((w.alloc (.cells #[.slice (some ⟨b, 0, none⟩) n cap, .slice (some ⟨g, 0, none⟩) m cap'] 35)).alloc (.cells #[.int .i64 d0, .int .i64 d1, .int .i64 d2, .int .i64 d3, .int .i64 d4, .int .i64 d5, .int .i64 d6, .int .i64 d7] 37)).alloc (.cells #[.int .i64 0, .int .i64 0, .int .i64 0, .int .i64 0, .int .i64 0, .int .i64 0, .int .i64 0, .int .i64 0] 37)) := (((Below.refl _ _).alloc (Nat.le_refl _) _).alloc (by simp) _).alloc (by simp; omega) _
  have M := (MoAt.new w b n cap g m cap' zs js hS hJ).keep bel1
  have rP := (Row.new (w.alloc (.cells #[.slice (some ⟨b, 0, none⟩) n cap, .slice (some ⟨g, 0, none⟩) m cap'] 35)) 37 [.int .i64 d0, .int .i64 d1, .int .i64 d2, .int .i64 d3, .int .i64 d4, .int .i64 d5, .int .i64 d6, .int .i64 d7]).alloc (.cells #[.int .i64 0, .int .i64 0, .int .i64 0, .int .i64 0, .int .i64 0, .int .i64 0, .int .i64 0, .int .i64 0] 37)
  have rR := Row.new ((w.alloc (.cells #[.slice (some ⟨b, 0, none⟩) n cap, .slice (some ⟨g, 0, none⟩) m cap'] 35)).alloc (.cells #[.int .i64 d0, .int .i64 d1, .int .i64 d2, .int .i64 d3, .int .i64 d4, .int .i64 d5, .int .i64 d6, .int .i64 d7] 37)) 37 [.int .i64 0, .int .i64 0, .int .i64 0, .int .i64 0, .int .i64 0, .int .i64 0, .int .i64 0, .int .i64 0]
  simp only [World.size_alloc] at rP rR
  have hi := Try.infoParts
  have HN := hid hn
  have hb0 := hS.1
  have hg0 := hJ.1
  have HK := hid (fun (W : World) (M : MoAt W w.heap.size b n cap g m cap' zs js) => l02Ok_any w.heap.size b n cap g m cap' zs js W M.1 M.2.1 M.2.2 hn hm hb)
  have HG := hid (fun (W : World) (M : MoAt W w.heap.size b n cap g m cap' zs js) => l02Given_any w.heap.size b n cap g m cap' zs js d0 d1 d2 d3 d4 d5 d6 d7 W M hn)
  have hnl : n ≤ 1048576 := by rw [hn]; exact hS.2.2.2
  clear hS hJ bel1 hm hb
  cases hv : okM zs js with
  | false =>
    rw [hv] at HK
    have HV := hid (bumpV_no (ds := [d0, d1, d2, d3, d4, d5, d6, d7]) (x := x) (y := y) (hasR_no hv))
    clear hv hn
    go_enter Try.func18, Try.ntmps18
    go_wp2_with fail
    with_reducible refine (HK.out _ M).mono ?_
    rintro e W1 ⟨rfl, hC⟩
    replace M := M.keep hC
    replace rP := rP.below hC rP.lt
    replace rR := rR.below hC rR.lt
    replace hB := hB.trans (hC.mono hB.size)
    clear hC
    have R1 := hid (rR.setCells (ys := [.int .i64 0, .int .i64 0, .int .i64 0, .int .i64 0, .int .i64 0, .int .i64 0, .int .i64 0, .int .i64 0]) rfl)
    have T1 := rR.there 8 rfl
    have SB := hid (below_setCells [.int .i64 0, .int .i64 0, .int .i64 0, .int .i64 0, .int .i64 0, .int .i64 0, .int .i64 0, .int .i64 0] 0 _ hB (g := w.heap.size + 1 + 1) (by omega))
    clear rP rR hB M
    go_wp2_with ((with_reducible refine wpList_store_mid rfl 37 _ _ rfl (w.heap.size + 1 + 1) 0 ([.int .i64 0, .int .i64 0, .int .i64 0, .int .i64 0, .int .i64 0, .int .i64 0, .int .i64 0, .int .i64 0] : List Value).toArray ?_ ?_ ?_ ?_ (all_oneCell_toArray (one_of zeros_int)) ?_); rfl; rfl; exact T1; exact hi)
    exact bodyPost_ret (v := .tuple #[.agg ([.int .i64 0, .int .i64 0, .int .i64 0, .int .i64 0, .int .i64 0, .int .i64 0, .int .i64 0, .int .i64 0] : List Value).toArray, .int .i64 1]) (results_cell_tmp2 (p := 8) (q := 9) (fn := Try.f18) rfl _ _ _ _ _ (0, 0) _ _ rfl rfl R1.out Try.underlying37 rfl hi) rfl ⟨by rw [HV.out], SB.out⟩
  | true =>
    rw [hv] at HK
    cases hq : okPs zs [d0, d1, d2, d3, d4, d5, d6, d7] with
    | false =>
      rw [hq] at HG
      have HV := hid (bumpV_no (ds := [d0, d1, d2, d3, d4, d5, d6, d7]) (x := x) (y := y) (by rw [hasR_yes hv, hq]))
      clear hv hq hn
      go_enter Try.func18, Try.ntmps18
      go_wp2_with fail
      with_reducible refine (HK.out _ M).mono ?_
      rintro e W1 ⟨rfl, hC⟩
      replace M := M.keep hC
      replace rP := rP.below hC rP.lt
      replace rR := rR.below hC rR.lt
      replace hB := hB.trans (hC.mono hB.size)
      clear hC
      have HRP := hid rP
      go_wp2_with ((with_reducible refine wpList_load_rowG ?_ 37 _ rfl (w.heap.size + 1) ?_ 37 ([.int .i64 d0, .int .i64 d1, .int .i64 d2, .int .i64 d3, .int .i64 d4, .int .i64 d5, .int .i64 d6, .int .i64 d7] : List Value).toArray (0, 0) _ ?_ Try.underlying37 ?_ ?_ ?_); rfl; rfl; exact HRP.out; rfl; exact hi)
      clear HRP
      with_reducible refine (HG.out _ M).mono ?_
      rintro e W2 ⟨rfl, hC⟩
      replace M := M.keep hC
      replace rP := rP.below hC rP.lt
      replace rR := rR.below hC rR.lt
      replace hB := hB.trans (hC.mono hB.size)
      clear hC
      have R1 := hid (rR.setCells (ys := [.int .i64 0, .int .i64 0, .int .i64 0, .int .i64 0, .int .i64 0, .int .i64 0, .int .i64 0, .int .i64 0]) rfl)
      have T1 := rR.there 8 rfl
      have SB := hid (below_setCells [.int .i64 0, .int .i64 0, .int .i64 0, .int .i64 0, .int .i64 0, .int .i64 0, .int .i64 0, .int .i64 0] 0 _ hB (g := w.heap.size + 1 + 1) (by omega))
      clear rP rR hB M
      go_wp2_with ((with_reducible refine wpList_store_mid rfl 37 _ _ rfl (w.heap.size + 1 + 1) 0 ([.int .i64 0, .int .i64 0, .int .i64 0, .int .i64 0, .int .i64 0, .int .i64 0, .int .i64 0, .int .i64 0] : List Value).toArray ?_ ?_ ?_ ?_ (all_oneCell_toArray (one_of zeros_int)) ?_); rfl; rfl; exact T1; exact hi)
      exact bodyPost_ret (v := .tuple #[.agg ([.int .i64 0, .int .i64 0, .int .i64 0, .int .i64 0, .int .i64 0, .int .i64 0, .int .i64 0, .int .i64 0] : List Value).toArray, .int .i64 1]) (results_cell_tmp2 (p := 8) (q := 9) (fn := Try.f18) rfl _ _ _ _ _ (0, 0) _ _ rfl rfl R1.out Try.underlying37 rfl hi) rfl ⟨by rw [HV.out], SB.out⟩
    | true =>
      rw [hq] at HG
      have hR : hasR zs js [d0, d1, d2, d3, d4, d5, d6, d7] = true := by rw [hasR_yes hv, hq]
      by_cases hw : 0 ≤ x ∧ x < n
      · by_cases hy : -1000 ≤ y ∧ y ≤ 1000
        · obtain ⟨k, rfl⟩ := Int.eq_ofNat_of_zero_le hw.1
          have hkn : k < n := by omega
          have hkz : k < zs.length := by omega
          have HV := hid (bumpV_yes hR (show okX zs k y = true by simp only [okX, Bool.and_eq_true, decide_eq_true_eq]; omega))
          obtain ⟨hz1, _, _⟩ := okM_out hv
          have hn8 := (okL_in hz1).1
          have HZB := hid ((okL_in hz1).2 k hkz)
          have hk8 : k < 8 := by omega
          have hdb := okPs_out hq k hk8
          rw [endP_low hkz] at hdb
          have HDB := hid hdb
          have HKZ := hid hkz
          have HK8 := hid hk8
          have h1' : -1000 ≤ y := hy.1
          have h2' : y ≤ 1000 := hy.2
          clear hv hq hn hz1 hdb hkz hR hy hn8 hk8
          go_enter Try.func18, Try.ntmps18
          go_wp2_with fail
          with_reducible refine (HK.out _ M).mono ?_
          rintro e W1 ⟨rfl, hC⟩
          replace M := M.keep hC
          replace rP := rP.below hC rP.lt
          replace rR := rR.below hC rR.lt
          replace hB := hB.trans (hC.mono hB.size)
          clear hC
          have HRP := hid rP
          go_wp2_with ((with_reducible refine wpList_load_rowG ?_ 37 _ rfl (w.heap.size + 1) ?_ 37 ([.int .i64 d0, .int .i64 d1, .int .i64 d2, .int .i64 d3, .int .i64 d4, .int .i64 d5, .int .i64 d6, .int .i64 d7] : List Value).toArray (0, 0) _ ?_ Try.underlying37 ?_ ?_ ?_); rfl; rfl; exact HRP.out; rfl; exact hi)
          clear HRP
          with_reducible refine (HG.out _ M).mono ?_
          rintro e W2 ⟨rfl, hC⟩
          replace M := M.keep hC
          replace rP := rP.below hC rP.lt
          replace rR := rR.below hC rR.lt
          replace hB := hB.trans (hC.mono hB.size)
          clear hC
          obtain ⟨p0, p1⟩ := M.cells
          go_wp2_with fail
          with_reducible refine (inr_yes _ _ _ _ (by omega)).mono ?_
          rintro e W3 ⟨rfl, rfl⟩
          clear p0 p1
          go_wp2_with fail
          with_reducible refine (inr_yes _ _ _ _ ⟨h1', h2'⟩).mono ?_
          rintro e W3 ⟨rfl, rfl⟩
          obtain ⟨z, hz⟩ : ∃ z, z = zs[k]?.getD 0 := ⟨_, rfl⟩
          obtain ⟨d, hd⟩ : ∃ d, d = [d0, d1, d2, d3, d4, d5, d6, d7][k]?.getD 0 := ⟨_, rfl⟩
          have xk := (rP.cell k).trans (dp_at d0 d1 d2 d3 d4 d5 d6 d7 k HK8.out)
          have xz := M.2.1.2.1 k HKZ.out
          obtain ⟨p0, p1⟩ := M.cells
          have hzb := HZB.out
          have hdb := HDB.out
          rw [← hz] at xz hzb hdb HV
          rw [← hd] at xk hdb HV
          have hz0 := hzb.1
          have hz9 := hzb.2
          have hd0 := hdb.1
          have hd9 := hdb.2
          have w1 : IntKind.i64.wrap (d + y) = d + y := IntWalk.i64_in _ (by omega)
          have w2 : IntKind.i64.wrap z = z := IntWalk.i64_in _ (by omega)
          have w3 : IntKind.i64.wrap (z * 1000) = z * 1000 := IntWalk.i64_in _ (by omega)
          have hs0 : 0 ≤ d + y + z * 1000 := by omega
          have hs9 : d + y + z * 1000 ≤ 1000000 := by omega
          have hzz : 0 < z * 1000 := by omega
          have f1 := rP.frozen k
          have hk0 : (0 : Int) ≤ (k : Int) := by omega
          have hk80 : (k : Int) < 8 := by have := HK8.out; omega
          have hkn0 : (k : Int) < (n : Int) := by omega
          have RP := hid (rP.set k (.int .i64 ((d + y) % (z * 1000))))
          have HRR := hid (rR.other (a := ⟨w.heap.size + 1, k, none⟩) (by simp) (.int .i64 ((d + y) % (z * 1000))))
          have HB1 := hid (hB.setCell (p := ⟨w.heap.size + 1, k, none⟩) (by simp) (.int .i64 ((d + y) % (z * 1000))))
          clear hz hd hzb hdb p1 M rP rR hB hw hb0 hg0 HK HG
          go_upto_region 7 with fail
          clear xk xz p0 w1 w2 w3 f1 hs0 hs9 hzz
          have T1 := HRR.out.there (([.int .i64 d0, .int .i64 d1, .int .i64 d2, .int .i64 d3, .int .i64 d4, .int .i64 d5, .int .i64 d6, .int .i64 d7] : List Value).set k (.int .i64 ((d + y) % (z * 1000)))).toArray.size (by simp)
          have R1 := hid (HRR.out.setCells (ys := (([.int .i64 d0, .int .i64 d1, .int .i64 d2, .int .i64 d3, .int .i64 d4, .int .i64 d5, .int .i64 d6, .int .i64 d7] : List Value).set k (.int .i64 ((d + y) % (z * 1000))))) (by simp))
          have SB := hid (below_setCells (([.int .i64 d0, .int .i64 d1, .int .i64 d2, .int .i64 d3, .int .i64 d4, .int .i64 d5, .int .i64 d6, .int .i64 d7] : List Value).set k (.int .i64 ((d + y) % (z * 1000)))) 0 _ HB1.out (g := w.heap.size + 1 + 1) (by omega))
          have hi8 : (Try.prog.info? 37).map (·.size) = some (([.int .i64 d0, .int .i64 d1, .int .i64 d2, .int .i64 d3, .int .i64 d4, .int .i64 d5, .int .i64 d6, .int .i64 d7] : List Value).set k (.int .i64 ((d + y) % (z * 1000)))).toArray.size := by rw [hi]; simp
          clear HB1 HRR
          go_wp2_with (first | ((with_reducible refine wpList_store_mid rfl 37 _ _ rfl (w.heap.size + 1 + 1) 0 ((([.int .i64 d0, .int .i64 d1, .int .i64 d2, .int .i64 d3, .int .i64 d4, .int .i64 d5, .int .i64 d6, .int .i64 d7] : List Value).set k (.int .i64 ((d + y) % (z * 1000)))) : List Value).toArray ?_ ?_ ?_ ?_ (all_oneCell_toArray (one_of (ints_set d0 d1 d2 d3 d4 d5 d6 d7 _ k))) ?_); rfl; rfl; exact T1; exact hi8) | ((with_reducible refine wpList_load_row rfl 37 _ rfl (w.heap.size + 1) ?_ 37 ((([.int .i64 d0, .int .i64 d1, .int .i64 d2, .int .i64 d3, .int .i64 d4, .int .i64 d5, .int .i64 d6, .int .i64 d7] : List Value).set k (.int .i64 ((d + y) % (z * 1000)))) : List Value).toArray (0, 0) _ ?_ Try.underlying37 ?_ ?_ ?_); rfl; exact RP.out; rfl; exact hi8))
          exact bodyPost_ret (v := .tuple #[.agg ((([.int .i64 d0, .int .i64 d1, .int .i64 d2, .int .i64 d3, .int .i64 d4, .int .i64 d5, .int .i64 d6, .int .i64 d7] : List Value).set k (.int .i64 ((d + y) % (z * 1000)))) : List Value).toArray, .int .i64 0]) (results_cell_tmp2 (p := 8) (q := 9) (fn := Try.f18) rfl _ _ _ _ _ (0, 0) _ _ rfl rfl R1.out Try.underlying37 rfl hi8) rfl ⟨by rw [HV.out]; rfl, SB.out⟩
        · have HV := hid (bumpV_out hR (show okX zs x y = false by simp only [okX, Bool.and_eq_false_iff, decide_eq_false_iff_not]; right; omega))
          have hy' : y < -1000 ∨ 1000 < y := by omega
          have HY := hid hy'
          clear hv hq hn hR hy hy'
          go_enter Try.func18, Try.ntmps18
          go_wp2_with fail
          with_reducible refine (HK.out _ M).mono ?_
          rintro e W1 ⟨rfl, hC⟩
          replace M := M.keep hC
          replace rP := rP.below hC rP.lt
          replace rR := rR.below hC rR.lt
          replace hB := hB.trans (hC.mono hB.size)
          clear hC
          have HRP := hid rP
          go_wp2_with ((with_reducible refine wpList_load_rowG ?_ 37 _ rfl (w.heap.size + 1) ?_ 37 ([.int .i64 d0, .int .i64 d1, .int .i64 d2, .int .i64 d3, .int .i64 d4, .int .i64 d5, .int .i64 d6, .int .i64 d7] : List Value).toArray (0, 0) _ ?_ Try.underlying37 ?_ ?_ ?_); rfl; rfl; exact HRP.out; rfl; exact hi)
          clear HRP
          with_reducible refine (HG.out _ M).mono ?_
          rintro e W2 ⟨rfl, hC⟩
          replace M := M.keep hC
          replace rP := rP.below hC rP.lt
          replace rR := rR.below hC rR.lt
          replace hB := hB.trans (hC.mono hB.size)
          clear hC
          obtain ⟨p0, p1⟩ := M.cells
          go_wp2_with fail
          with_reducible refine (inr_yes _ _ _ _ (by omega)).mono ?_
          rintro e W3 ⟨rfl, rfl⟩
          clear p0 p1
          go_wp2_with fail
          with_reducible refine (inr_no _ _ _ _ HY.out).mono ?_
          rintro e W3 ⟨rfl, rfl⟩
          have R1 := hid (rR.setCells (ys := [.int .i64 0, .int .i64 0, .int .i64 0, .int .i64 0, .int .i64 0, .int .i64 0, .int .i64 0, .int .i64 0]) rfl)
          have T1 := rR.there 8 rfl
          have SB := hid (below_setCells [.int .i64 0, .int .i64 0, .int .i64 0, .int .i64 0, .int .i64 0, .int .i64 0, .int .i64 0, .int .i64 0] 0 _ hB (g := w.heap.size + 1 + 1) (by omega))
          clear rP rR hB M
          go_wp2_with ((with_reducible refine wpList_store_mid rfl 37 _ _ rfl (w.heap.size + 1 + 1) 0 ([.int .i64 0, .int .i64 0, .int .i64 0, .int .i64 0, .int .i64 0, .int .i64 0, .int .i64 0, .int .i64 0] : List Value).toArray ?_ ?_ ?_ ?_ (all_oneCell_toArray (one_of zeros_int)) ?_); rfl; rfl; exact T1; exact hi)
          exact bodyPost_ret (v := .tuple #[.agg ([.int .i64 0, .int .i64 0, .int .i64 0, .int .i64 0, .int .i64 0, .int .i64 0, .int .i64 0, .int .i64 0] : List Value).toArray, .int .i64 2]) (results_cell_tmp2 (p := 8) (q := 9) (fn := Try.f18) rfl _ _ _ _ _ (0, 0) _ _ rfl rfl R1.out Try.underlying37 rfl hi) rfl ⟨by rw [HV.out], SB.out⟩
      · have HV := hid (bumpV_out hR (show okX zs x y = false by simp only [okX, Bool.and_eq_false_iff, decide_eq_false_iff_not]; left; omega))
        clear hv hq hn hR
        go_enter Try.func18, Try.ntmps18
        go_wp2_with fail
        with_reducible refine (HK.out _ M).mono ?_
        rintro e W1 ⟨rfl, hC⟩
        replace M := M.keep hC
        replace rP := rP.below hC rP.lt
        replace rR := rR.below hC rR.lt
        replace hB := hB.trans (hC.mono hB.size)
        clear hC
        have HRP := hid rP
        go_wp2_with ((with_reducible refine wpList_load_rowG ?_ 37 _ rfl (w.heap.size + 1) ?_ 37 ([.int .i64 d0, .int .i64 d1, .int .i64 d2, .int .i64 d3, .int .i64 d4, .int .i64 d5, .int .i64 d6, .int .i64 d7] : List Value).toArray (0, 0) _ ?_ Try.underlying37 ?_ ?_ ?_); rfl; rfl; exact HRP.out; rfl; exact hi)
        clear HRP
        with_reducible refine (HG.out _ M).mono ?_
        rintro e W2 ⟨rfl, hC⟩
        replace M := M.keep hC
        replace rP := rP.below hC rP.lt
        replace rR := rR.below hC rR.lt
        replace hB := hB.trans (hC.mono hB.size)
        clear hC
        obtain ⟨p0, p1⟩ := M.cells
        go_wp2_with fail
        with_reducible refine (inr_no _ _ _ _ (by omega)).mono ?_
        rintro e W3 ⟨rfl, rfl⟩
        clear p0 p1
        have R1 := hid (rR.setCells (ys := [.int .i64 0, .int .i64 0, .int .i64 0, .int .i64 0, .int .i64 0, .int .i64 0, .int .i64 0, .int .i64 0]) rfl)
        have T1 := rR.there 8 rfl
        have SB := hid (below_setCells [.int .i64 0, .int .i64 0, .int .i64 0, .int .i64 0, .int .i64 0, .int .i64 0, .int .i64 0, .int .i64 0] 0 _ hB (g := w.heap.size + 1 + 1) (by omega))
        clear rP rR hB M
        go_wp2_with ((with_reducible refine wpList_store_mid rfl 37 _ _ rfl (w.heap.size + 1 + 1) 0 ([.int .i64 0, .int .i64 0, .int .i64 0, .int .i64 0, .int .i64 0, .int .i64 0, .int .i64 0, .int .i64 0] : List Value).toArray ?_ ?_ ?_ ?_ (all_oneCell_toArray (one_of zeros_int)) ?_); rfl; rfl; exact T1; exact hi)
        exact bodyPost_ret (v := .tuple #[.agg ([.int .i64 0, .int .i64 0, .int .i64 0, .int .i64 0, .int .i64 0, .int .i64 0, .int .i64 0, .int .i64 0] : List Value).toArray, .int .i64 2]) (results_cell_tmp2 (p := 8) (q := 9) (fn := Try.f18) rfl _ _ _ _ _ (0, 0) _ _ rfl rfl R1.out Try.underlying37 rfl hi) rfl ⟨by rw [HV.out], SB.out⟩
end Go.Proofs.Ytkgldcjbaghapaa
