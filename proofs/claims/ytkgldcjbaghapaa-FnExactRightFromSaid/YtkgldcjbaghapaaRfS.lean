/- RightFrom: the model's. -/
import Derived.Test.YtkgldcjbaghapaaRfP
namespace Go.Proofs.Ytkgldcjbaghapaa
open Go.RowKit
set_option maxRecDepth 100000 in
set_option maxHeartbeats 1000000 in
theorem specRightFrom_any (b n cap g m cap' : Nat) (zs : List Int) (js : List (Int × Int)) (d0 d1 d2 d3 d4 d5 d6 d7 : Int) (w : World) (hS : Stk w b zs) (hJ : Jst w g js) (hn : n = zs.length) (hm : m = js.length) (hb : ∀ j, j < js.length → (-128 ≤ jk js j ∧ jk js j ≤ 127) ∧ (-32768 ≤ jf js j ∧ jf js j ≤ 32767)) :
    Calls Try.prog 14 #[.agg #[.slice (some ⟨b, 0, none⟩) n cap, .slice (some ⟨g, 0, none⟩) m cap'], .agg #[.int .i64 d0, .int .i64 d1, .int .i64 d2, .int .i64 d3, .int .i64 d4, .int .i64 d5, .int .i64 d6, .int .i64 d7]] w fun e w' => e = .returned (.tuple #[.agg (rfR zs js [d0, d1, d2, d3, d4, d5, d6, d7]).1.toArray, .int .i64 (rfR zs js [d0, d1, d2, d3, d4, d5, d6, d7]).2]) ∧ Below w.heap.size w w' := by
  have bel1 : Below (w.alloc (.cells #[.slice (some ⟨b, 0, none⟩) n cap, .slice (some ⟨g, 0, none⟩) m cap'] 35)).heap.size (w.alloc (.cells #[.slice (some ⟨b, 0, none⟩) n cap, .slice (some ⟨g, 0, none⟩) m cap'] 35)) (((w.alloc (.cells #[.slice (some ⟨b, 0, none⟩) n cap, .slice (some ⟨g, 0, none⟩) m cap'] 35)).alloc (.cells #[.int .i64 d0, .int .i64 d1, .int .i64 d2, .int .i64 d3, .int .i64 d4, .int .i64 d5, .int .i64 d6, .int .i64 d7] 37)).alloc (.cells #[.int .u8 0, .int .u8 0, .int .u8 0, .int .u8 0, .int .u8 0, .int .u8 0, .int .u8 0, .int .u8 0] 29)) := ((Below.refl _ _).alloc (Nat.le_refl _) _).alloc (by first | (simp; done) | (simp; omega)) _
  have hB : Below w.heap.size w (((w.alloc (.cells #[.slice (some ⟨b, 0, none⟩) n cap, .slice (some ⟨g, 0, none⟩) m cap'] 35)).alloc (.cells #[.int .i64 d0, .int .i64 d1, .int .i64 d2, .int .i64 d3, .int .i64 d4, .int .i64 d5, .int .i64 d6, .int .i64 d7] 37)).alloc (.cells #[.int .u8 0, .int .u8 0, .int .u8 0, .int .u8 0, .int .u8 0, .int .u8 0, .int .u8 0, .int .u8 0] 29)) := (((Below.refl _ _).alloc (Nat.le_refl _) _).alloc (by first | (simp; done) | (simp; omega)) _).alloc (by first | (simp; done) | (simp; omega)) _
  have M := (MoAt.new w b n cap g m cap' zs js hS hJ).keep bel1
  have rP := (Row.new (w.alloc (.cells #[.slice (some ⟨b, 0, none⟩) n cap, .slice (some ⟨g, 0, none⟩) m cap'] 35)) 37 [.int .i64 d0, .int .i64 d1, .int .i64 d2, .int .i64 d3, .int .i64 d4, .int .i64 d5, .int .i64 d6, .int .i64 d7]).alloc (.cells #[.int .u8 0, .int .u8 0, .int .u8 0, .int .u8 0, .int .u8 0, .int .u8 0, .int .u8 0, .int .u8 0] 29)
  have rR := Row.new ((w.alloc (.cells #[.slice (some ⟨b, 0, none⟩) n cap, .slice (some ⟨g, 0, none⟩) m cap'] 35)).alloc (.cells #[.int .i64 d0, .int .i64 d1, .int .i64 d2, .int .i64 d3, .int .i64 d4, .int .i64 d5, .int .i64 d6, .int .i64 d7] 37)) 29 [.int .u8 0, .int .u8 0, .int .u8 0, .int .u8 0, .int .u8 0, .int .u8 0, .int .u8 0, .int .u8 0]
  simp only [World.size_alloc] at rP rR
  have hi := Try.infoParts
  have hd := Try.infoDigits8
  have hbl := hS.1
  have hgl := hJ.1
  have HK := hid (fun (W : World) (M : MoAt W w.heap.size b n cap g m cap' zs js) => l02Ok_any w.heap.size b n cap g m cap' zs js W M.1 M.2.1 M.2.2 hn hm hb)
  have HG := hid (fun (W : World) (M : MoAt W w.heap.size b n cap g m cap' zs js) => l02Given_any w.heap.size b n cap g m cap' zs js d0 d1 d2 d3 d4 d5 d6 d7 W M hn)
  clear hS hJ bel1 hb
  cases hv : okM zs js with
  | false =>
    rw [hv] at HK
    have HV := hid (rfR_no (ds := [d0, d1, d2, d3, d4, d5, d6, d7]) (hasR_no hv))
    clear hv hn hm hbl hgl
    go_enter Try.func14, Try.ntmps14
    go_wp2_with fail
    with_reducible refine (HK.out _ M).mono ?_
    rintro e W1 ⟨rfl, hC⟩
    replace M := M.keep hC
    replace rP := rP.below hC rP.lt
    replace rR := rR.below hC rR.lt
    replace hB := hB.trans (hC.mono hB.size)
    clear hC
    have R1 := hid (rR.setCells (ys := [.int .u8 0, .int .u8 0, .int .u8 0, .int .u8 0, .int .u8 0, .int .u8 0, .int .u8 0, .int .u8 0]) rfl)
    have T1 := rR.there 8 rfl
    have SB := hid (below_setCells [.int .u8 0, .int .u8 0, .int .u8 0, .int .u8 0, .int .u8 0, .int .u8 0, .int .u8 0, .int .u8 0] 0 _ hB (g := w.heap.size + 1 + 1) (by omega))
    clear rP rR hB M
    go_wp2_with ((with_reducible refine wpList_store_mid rfl 29 _ _ rfl (w.heap.size + 1 + 1) 0 ([.int .u8 0, .int .u8 0, .int .u8 0, .int .u8 0, .int .u8 0, .int .u8 0, .int .u8 0, .int .u8 0] : List Value).toArray ?_ ?_ ?_ ?_ (all_oneCell_toArray (one_of8 zeros_int8)) ?_); rfl; rfl; exact T1; exact hd)
    exact bodyPost_ret (v := .tuple #[.agg ([.int .u8 0, .int .u8 0, .int .u8 0, .int .u8 0, .int .u8 0, .int .u8 0, .int .u8 0, .int .u8 0] : List Value).toArray, .int .i64 1]) (results_cell_tmp2 (p := 4) (q := 5) (fn := Try.f14) rfl _ _ _ _ _ (0, 0) _ _ rfl rfl R1.out Try.underlying29 rfl hd) rfl ⟨by rw [HV.out], SB.out⟩
  | true =>
    rw [hv] at HK
    cases hq : okPs zs [d0, d1, d2, d3, d4, d5, d6, d7] with
    | false =>
      rw [hq] at HG
      have HV := hid (rfR_no (ds := [d0, d1, d2, d3, d4, d5, d6, d7]) (by rw [hasR_yes hv, hq]))
      clear hv hq hn hm hbl hgl
      go_enter Try.func14, Try.ntmps14
      go_wp2_with fail
      with_reducible refine (HK.out _ M).mono ?_
      rintro e W1 ⟨rfl, hC⟩
      replace M := M.keep hC
      replace rP := rP.below hC rP.lt
      replace rR := rR.below hC rR.lt
      replace hB := hB.trans (hC.mono hB.size)
      clear hC
      have HRP := hid rP
      go_wp2_with ((with_reducible refine wpList_load_rowG ?_ 37 _ rfl (w.heap.size + 1) ?_ 37 ([.int .i64 d0, .int .i64 d1, .int .i64 d2, .int .i64 d3, .int .i64 d4, .int .i64 d5, .int .i64 d6, .int .i64 d7] : List Value).toArray (0, 0) _ ?_ Try.underlying37 ?_ ?_ ?_); rfl; rfl; exact HRP.out; rfl; exact hi)
      clear HRP
      with_reducible refine (HG.out _ M).mono ?_
      rintro e W2 ⟨rfl, hC⟩
      replace M := M.keep hC
      replace rP := rP.below hC rP.lt
      replace rR := rR.below hC rR.lt
      replace hB := hB.trans (hC.mono hB.size)
      clear hC
      have R1 := hid (rR.setCells (ys := [.int .u8 0, .int .u8 0, .int .u8 0, .int .u8 0, .int .u8 0, .int .u8 0, .int .u8 0, .int .u8 0]) rfl)
      have T1 := rR.there 8 rfl
      have SB := hid (below_setCells [.int .u8 0, .int .u8 0, .int .u8 0, .int .u8 0, .int .u8 0, .int .u8 0, .int .u8 0, .int .u8 0] 0 _ hB (g := w.heap.size + 1 + 1) (by omega))
      clear rP rR hB M
      go_wp2_with ((with_reducible refine wpList_store_mid rfl 29 _ _ rfl (w.heap.size + 1 + 1) 0 ([.int .u8 0, .int .u8 0, .int .u8 0, .int .u8 0, .int .u8 0, .int .u8 0, .int .u8 0, .int .u8 0] : List Value).toArray ?_ ?_ ?_ ?_ (all_oneCell_toArray (one_of8 zeros_int8)) ?_); rfl; rfl; exact T1; exact hd)
      exact bodyPost_ret (v := .tuple #[.agg ([.int .u8 0, .int .u8 0, .int .u8 0, .int .u8 0, .int .u8 0, .int .u8 0, .int .u8 0, .int .u8 0] : List Value).toArray, .int .i64 1]) (results_cell_tmp2 (p := 4) (q := 5) (fn := Try.f14) rfl _ _ _ _ _ (0, 0) _ _ rfl rfl R1.out Try.underlying29 rfl hd) rfl ⟨by rw [HV.out], SB.out⟩
    | true =>
      rw [hq] at HG
      have HV := hid (rfR_yes (ds := [d0, d1, d2, d3, d4, d5, d6, d7]) (by rw [hasR_yes hv, hq]))
      rw [← hn] at HV
      obtain ⟨hz1, hl, hjs⟩ := okM_out hv
      obtain ⟨h1, h8, hin, _, _⟩ := okL_out hz1
      have hJJ := fun j hj' => okJs_out hjs j hj'
      have hqb := hid (fun k hk => rq_bd (ds := [d0, d1, d2, d3, d4, d5, d6, d7]) hin hJJ hl h8 hq k hk)
      have hjj := hid hJJ
      have HQ := hid hq
      have HIN := hid hin
      have N := hid hn; have MM := hid hm; have HL := hid hl
      have hn8 : n ≤ 8 := by omega
      have hmn : m + 1 = n := by omega
      have hb0 := okPs_out hq 0 (by omega)
      rw [endP_low (show 0 < zs.length by omega)] at hb0
      have hz0 := hin 0 (by omega)
      have hdd : 0 ≤ d0 ∧ d0 < 100000 := by
        simp only [List.getElem?_cons_zero, Option.getD_some] at hb0
        omega
      have hd1 := hdd.1
      have hd2 := hdd.2
      have hq0 : 0 ≤ d0 / 1000 := by omega
      have hq9 : d0 / 1000 ≤ 255 := by omega
      have hqt : d0.tdiv 1000 = d0 / 1000 := Int.tdiv_eq_ediv_of_nonneg hd1
      have rfo := hid (rfV_one zs js d0 d1 d2 d3 d4 d5 d6 d7)
      have hr0 : Hid (d0 = rq zs js [d0, d1, d2, d3, d4, d5, d6, d7] 0) := hid rfl
      clear hv hq hn hm hz1 hl hjs h1 h8 hin hJJ hb0 hz0 hdd
      go_enter Try.func14, Try.ntmps14
      go_wp2_with fail
      with_reducible refine (HK.out _ M).mono ?_
      rintro e W1 ⟨rfl, hC⟩
      replace M := M.keep hC
      replace rP := rP.below hC rP.lt
      replace rR := rR.below hC rR.lt
      replace hB := hB.trans (hC.mono hB.size)
      clear hC
      have HRP := hid rP
      go_wp2_with ((with_reducible refine wpList_load_rowG ?_ 37 _ rfl (w.heap.size + 1) ?_ 37 ([.int .i64 d0, .int .i64 d1, .int .i64 d2, .int .i64 d3, .int .i64 d4, .int .i64 d5, .int .i64 d6, .int .i64 d7] : List Value).toArray (0, 0) _ ?_ Try.underlying37 ?_ ?_ ?_); rfl; rfl; exact HRP.out; rfl; exact hi)
      clear HRP
      with_reducible refine (HG.out _ M).mono ?_
      rintro e w2 ⟨rfl, hC⟩
      replace M := M.keep hC
      replace rP := rP.below hC rP.lt
      replace rR := rR.below hC rR.lt
      replace hB := hB.trans (hC.mono hB.size)
      clear hC
      have hzw2 := hB.size
      have hPl := rP.lt
      have hRl := rR.lt
      have c0 := rP.cell 0
      simp only [List.getElem?_cons_zero] at c0
      have cA : (w2.alloc (.cells #[.int .u8 0, .int .u8 0, .int .u8 0, .int .u8 0, .int .u8 0, .int .u8 0, .int .u8 0, .int .u8 0] 29)).cell? ⟨w.heap.size + 1, 0, none⟩ = some (.int .i64 d0) := ((rP.alloc (.cells #[.int .u8 0, .int .u8 0, .int .u8 0, .int .u8 0, .int .u8 0, .int .u8 0, .int .u8 0, .int .u8 0] 29)).cell 0).trans rfl
      have bx : Below w2.heap.size w2 (w2.alloc (.cells #[.int .u8 (d0 / 1000), .int .u8 0, .int .u8 0, .int .u8 0, .int .u8 0, .int .u8 0, .int .u8 0, .int .u8 0] 29)) := (Below.refl _ _).alloc (Nat.le_refl _) _
      have rG := Row.new w2 29 [.int .u8 (d0 / 1000), .int .u8 0, .int .u8 0, .int .u8 0, .int .u8 0, .int .u8 0, .int .u8 0, .int .u8 0]
      rw [← rfo.out] at rG
      have HGr := hid rG
      have HP' := hid (rP.below bx rP.lt); have HR := hid (rR.below bx rR.lt); have HM := hid (M.keep bx); have HBw := hid (hB.trans (bx.mono hB.size))
      have cB := HP'.out.cell 0
      simp only [List.getElem?_cons_zero] at cB
      clear M rP rR rG hB bx
      have l1 : w.heap.size + 1 < w2.heap.size := by omega
      have l3 : ¬ w.heap.size + 1 = w2.heap.size := by omega
      go_wp2_with fail
      clear l1 l3 c0 cA cB
      go_loopw [7, 8] (fun q i wr => ∃ k : Nat, k ≤ m ∧ i = .int .i64 ((k : Int) + 1) ∧ q = .int .i64 (rq zs js [d0, d1, d2, d3, d4, d5, d6, d7] k) ∧ Row wr w2.heap.size 29 (rfV zs js [d0, d1, d2, d3, d4, d5, d6, d7] (k + 1)) ∧ Row wr (w.heap.size + 1) 37 [.int .i64 d0, .int .i64 d1, .int .i64 d2, .int .i64 d3, .int .i64 d4, .int .i64 d5, .int .i64 d6, .int .i64 d7] ∧ Row wr (w.heap.size + 1 + 1) 29 [.int .u8 0, .int .u8 0, .int .u8 0, .int .u8 0, .int .u8 0, .int .u8 0, .int .u8 0, .int .u8 0] ∧ MoAt wr w.heap.size b n cap g m cap' zs js ∧ Below w.heap.size w wr) (fun _ i _ => m + 1 - (intOf i).toNat)
      case atStart => exact ⟨0, Nat.zero_le _, rfl, rfl, HGr.out, HP'.out, HR.out, HM.out, HBw.out⟩
      case round =>
      clear HGr HP' HR HM HBw rfo HK HG hq0 hq9 hqt hd1 hd2 hr0
      obtain ⟨k, hk, rfl, rfl, rG, rP, rR, M, hB⟩ := hrel
      have HGr := hid rG; have HP' := hid rP; have HR := hid rR; have HM := hid M
      have hGl := rG.lt; have hPw := rP.lt; have hRw := rR.lt
      have hzw := hB.size
      obtain ⟨p0, p1⟩ := M.cells
      by_cases hlt : k < m
      · have hkj : k < js.length := by rw [← MM.out]; exact hlt
        have hkz : k < zs.length := by have := HL.out; omega
        have hk1 : k + 1 < zs.length := by have := HL.out; omega
        have h8k : k + 1 < 8 := by omega
        have zb := HIN.out k hkz
        have pb := hqb.out k hkz
        have oj := hjj.out k hkj
        have znb := HIN.out (k + 1) hk1
        have pnb := okPs_out HQ.out (k + 1) h8k
        rw [endP_low hk1] at pnb
        have HE : Hid (rgd zs js [d0, d1, d2, d3, d4, d5, d6, d7] (k + 1) = rdn (zs[k + 1]?.getD 0) (beyJ (jk js k) (jf js k) (rq zs js [d0, d1, d2, d3, d4, d5, d6, d7] k) (zs[k]?.getD 0)) ([d0, d1, d2, d3, d4, d5, d6, d7][k + 1]?.getD 0) ∧ rq zs js [d0, d1, d2, d3, d4, d5, d6, d7] (k + 1) = rdn (zs[k + 1]?.getD 0) (beyJ (jk js k) (jf js k) (rq zs js [d0, d1, d2, d3, d4, d5, d6, d7] k) (zs[k]?.getD 0)) ([d0, d1, d2, d3, d4, d5, d6, d7][k + 1]?.getD 0) * 1000 + beyJ (jk js k) (jf js k) (rq zs js [d0, d1, d2, d3, d4, d5, d6, d7] k) (zs[k]?.getD 0)) := hid ⟨rfl, rfl⟩
        have bbd := beyJ_bd oj zb pb
        have HBY := hid (fun (W : World) (hM : MoAt W w.heap.size b n cap g m cap' zs js) => l02Beyond_any w.heap.size b n cap g m cap' zs js k (rq zs js [d0, d1, d2, d3, d4, d5, d6, d7] k) W hM N.out MM.out hkj hkz zb oj pb)
        obtain ⟨zn, hzn⟩ : ∃ z, z = zs[k + 1]?.getD 0 := ⟨_, rfl⟩
        obtain ⟨pn, hpn⟩ : ∃ x, x = [d0, d1, d2, d3, d4, d5, d6, d7][k + 1]?.getD 0 := ⟨_, rfl⟩
        obtain ⟨bb, hbb⟩ : ∃ x, x = beyJ (jk js k) (jf js k) (rq zs js [d0, d1, d2, d3, d4, d5, d6, d7] k) (zs[k]?.getD 0) := ⟨_, rfl⟩
        rw [← hbb] at bbd HE HBY
        rw [← hzn] at znb pnb HE
        rw [← hpn] at pnb HE
        obtain ⟨q, hqq⟩ : ∃ q, q = rq zs js [d0, d1, d2, d3, d4, d5, d6, d7] k := ⟨_, rfl⟩
        rw [← hqq] at HBY ⊢
        have HZN := hid hzn; have HPN := hid hpn
        clear hqq hbb hzn hpn zb pb oj
        have nb : -1 ≤ (pn - bb + 500) / 1000 ∧ (pn - bb + 500) / 1000 ≤ 101 := by omega
        have db := rdn_bd zn bb pn znb
        have HDN := hid (fun w => l02Down_any (2 * (pn - bb) + 1000) 2000 (by omega) (by omega) w)
        rw [near_two] at HDN
        have e2 : (((pn - bb + 500) / 1000).tmod zn + zn).tmod zn = rdn zn bb pn := rem_twice _ _ (by omega)
        have e3 := rem_small ((pn - bb + 500) / 1000) zn (by omega)
        obtain ⟨dn, hdn⟩ : ∃ x, x = rdn zn bb pn := ⟨_, rfl⟩
        rw [← hdn] at db HE e2
        obtain ⟨nr, hnr⟩ : ∃ x, x = (pn - bb + 500) / 1000 := ⟨_, rfl⟩
        rw [← hnr] at nb HDN e2 e3
        obtain ⟨r1, hr1⟩ : ∃ x, x = nr.tmod zn := ⟨_, rfl⟩
        rw [← hr1] at e2 e3
        have e1 : nr.tmod zn = r1 := hr1.symm
        clear hdn hnr hr1
        have hzn0 : zn ≠ 0 := by omega
        have k0 : (0 : Int) ≤ (k : Int) + 1 := by omega
        have k7 : (k : Int) + 1 < 8 := by omega
        have kn1 : (k : Int) + 1 < (n : Int) := by omega
        have kk0 : (0 : Int) ≤ (k : Int) := by omega
        have wzn : IntKind.i64.wrap zn = zn := IntWalk.i64_in zn (by omega)
        have wr1 : IntKind.i64.wrap r1 = r1 := IntWalk.i64_in r1 (by omega)
        have wr2 : IntKind.i64.wrap (r1 + zn) = r1 + zn := IntWalk.i64_in _ (by omega)
        have wdn : IntKind.i64.wrap dn = dn := IntWalk.i64_in dn (by omega)
        have w20 : IntKind.i64.wrap (pn - bb) = pn - bb := IntWalk.i64_in _ (by omega)
        have w21 : IntKind.i64.wrap (2 * (pn - bb)) = 2 * (pn - bb) := IntWalk.i64_in _ (by omega)
        have w22 : IntKind.i64.wrap (2 * (pn - bb) + 1000) = 2 * (pn - bb) + 1000 := IntWalk.i64_in _ (by omega)
        have w23 : IntKind.i64.wrap (dn * 1000) = dn * 1000 := IntWalk.i64_in _ (by omega)
        have w24 : IntKind.i64.wrap (dn * 1000 + bb) = dn * 1000 + bb := IntWalk.i64_in _ (by omega)
        have w25 : IntKind.i64.wrap ((k : Int) + 1) = (k : Int) + 1 := IntWalk.i64_in _ (by omega)
        have pn1 := pnb.1; have pn2 := pnb.2; have zn1 := znb.1; have zn2 := znb.2; have bb1 := bbd.1; have bb2 := bbd.2; have dn1 := db.1; have dn2 := db.2
        clear pnb rG rP rR M p1
        go_wp2_with fail
        with_reducible refine (HBY.out _ HM.out).mono ?_
        rintro e w3 ⟨rfl, hC⟩
        clear p0 HBY
        have rG3 := HGr.out.below hC hGl
        have rP3 := HP'.out.below hC hPw
        have rR3 := HR.out.below hC hRw
        have M3 := HM.out.keep hC
        have B3 := hB.trans (hC.mono hzw)
        have cPn := (rP3.cell (k + 1)).trans (dp_at d0 d1 d2 d3 d4 d5 d6 d7 (k + 1) h8k)
        have cZn := M3.2.1.2.1 (k + 1) hk1
        rw [← HPN.out] at cPn
        rw [← HZN.out] at cZn
        obtain ⟨p0, p1⟩ := M3.cells
        have o1 := (rG3.cell (k + 1)).trans (rfV_at zs js [d0, d1, d2, d3, d4, d5, d6, d7] (k + 1) h8k)
        have f1 := rG3.frozen (k + 1)
        have rG5 := (rG3.set (k + 1) (.int .u8 (rgd zs js [d0, d1, d2, d3, d4, d5, d6, d7] (k + 1))))
        rw [rfV_set zs js [d0, d1, d2, d3, d4, d5, d6, d7] (k + 1) h8k, HE.out.1] at rG5
        have bS : Below w2.heap.size w3 (w3.setCell ⟨w2.heap.size, k + 1, none⟩ (.int .u8 dn)) := (Below.refl _ w3).setCell (p := ⟨w2.heap.size, k + 1, none⟩) (Nat.le_refl _) _
        have G5 := hid rG5
        have P5 := hid (rP3.below bS (by omega))
        have R5 := hid (rR3.below bS (by omega))
        have M5 := hid (M3.below bS (by omega) (by omega) (by omega))
        have B5 := hid (B3.trans (bS.mono (by omega)))
        clear rG3 rG5 rP3 rR3 M3 B3 bS p1 hC
        go_wp2_with (go_at_call 35; refine (HDN.out _).mono ?_; rintro e w' ⟨rfl, rfl⟩)
        go_roundw
        case rel => exact ⟨k + 1, by omega, by go_num, by rw [HE.out.2], G5.out, P5.out, R5.out, M5.out, B5.out⟩
        case measure => simp [intOf]; omega
      · obtain rfl : k = m := by omega
        rw [hmn] at rG
        have T1 := rR.there (rfV zs js [d0, d1, d2, d3, d4, d5, d6, d7] n).toArray.size (by simp [rfV])
        have R1 := hid (rR.setCells (ys := rfV zs js [d0, d1, d2, d3, d4, d5, d6, d7] n) (by simp [rfV]))
        have SB := hid (below_setCells (rfV zs js [d0, d1, d2, d3, d4, d5, d6, d7] n) 0 _ hB (g := w.heap.size + 1 + 1) (by omega))
        have HD := hid rG
        have hd8 : (Try.prog.info? 29).map (·.size) = some (rfV zs js [d0, d1, d2, d3, d4, d5, d6, d7] n).toArray.size := by rw [hd]; simp [rfV]
        have hge : (n : Int) ≤ (k : Int) + 1 := by omega
        have hdec : decide ((k : Int) + 1 < (n : Int)) = false := by simp; omega
        clear M rP rR rG hB p1 HGr HP' HR HM
        go_wp2_with (first | ((with_reducible refine wpList_store_mid rfl 29 _ _ rfl (w.heap.size + 1 + 1) 0 (rfV zs js [d0, d1, d2, d3, d4, d5, d6, d7] n : List Value).toArray ?_ ?_ ?_ ?_ (all_oneCell_toArray (one_of8 (ints_rf _ _ _ _))) ?_); rfl; rfl; exact T1; exact hd8) | ((with_reducible refine wpList_load_row rfl 29 _ rfl w2.heap.size ?_ 29 (rfV zs js [d0, d1, d2, d3, d4, d5, d6, d7] n : List Value).toArray (0, 0) _ ?_ Try.underlying29 ?_ ?_ ?_); rfl; exact HD.out; rfl; exact hd8))
        exact bodyPost_ret (v := .tuple #[.agg (rfV zs js [d0, d1, d2, d3, d4, d5, d6, d7] n : List Value).toArray, .int .i64 0]) (results_cell_tmp2 (p := 4) (q := 5) (fn := Try.f14) rfl _ _ _ _ _ (0, 0) _ _ rfl rfl R1.out Try.underlying29 rfl hd8) rfl ⟨by rw [HV.out], SB.out⟩
end Go.Proofs.Ytkgldcjbaghapaa
