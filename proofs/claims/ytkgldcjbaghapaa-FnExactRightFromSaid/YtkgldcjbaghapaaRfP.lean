/- RightFrom: the program's. -/
import Derived.Test.YtkgldcjbaghapaaRfA
namespace Go.Proofs.Ytkgldcjbaghapaa
open Go.RowKit
set_option maxRecDepth 100000 in
set_option maxHeartbeats 1000000 in
theorem implRightFrom_any (b n cap g m cap' : Nat) (zs : List Int) (js : List (Int × Int)) (d0 d1 d2 d3 d4 d5 d6 d7 : Int) (w : World) (hS : Stk w b zs) (hJ : Jst w g js) (hn : n = zs.length) (hm : m = js.length) :
    Calls Try.prog 15 #[.agg #[.slice (some ⟨b, 0, none⟩) n cap, .slice (some ⟨g, 0, none⟩) m cap'], .agg #[.int .i64 d0, .int .i64 d1, .int .i64 d2, .int .i64 d3, .int .i64 d4, .int .i64 d5, .int .i64 d6, .int .i64 d7]] w fun e w' => e = .returned (.tuple #[.agg (rfR zs js [d0, d1, d2, d3, d4, d5, d6, d7]).1.toArray, .int .i64 (rfR zs js [d0, d1, d2, d3, d4, d5, d6, d7]).2]) ∧ Below w.heap.size w w' := by
  have bel1 : Below (w.alloc (.cells #[.slice (some ⟨b, 0, none⟩) n cap, .slice (some ⟨g, 0, none⟩) m cap'] 35)).heap.size (w.alloc (.cells #[.slice (some ⟨b, 0, none⟩) n cap, .slice (some ⟨g, 0, none⟩) m cap'] 35)) (((w.alloc (.cells #[.slice (some ⟨b, 0, none⟩) n cap, .slice (some ⟨g, 0, none⟩) m cap'] 35)).alloc (.cells #[.int .i64 d0, .int .i64 d1, .int .i64 d2, .int .i64 d3, .int .i64 d4, .int .i64 d5, .int .i64 d6, .int .i64 d7] 37)).alloc (.cells #[.int .u8 0, .int .u8 0, .int .u8 0, .int .u8 0, .int .u8 0, .int .u8 0, .int .u8 0, .int .u8 0] 29)) := ((Below.refl _ _).alloc (Nat.le_refl _) _).alloc (by first | (simp; done) | (simp; omega)) _
  have hB : Below w.heap.size w (((w.alloc (.cells #[.slice (some ⟨b, 0, none⟩) n cap, .slice (some ⟨g, 0, none⟩) m cap'] 35)).alloc (.cells #[.int .i64 d0, .int .i64 d1, .int .i64 d2, .int .i64 d3, .int .i64 d4, .int .i64 d5, .int .i64 d6, .int .i64 d7] 37)).alloc (.cells #[.int .u8 0, .int .u8 0, .int .u8 0, .int .u8 0, .int .u8 0, .int .u8 0, .int .u8 0, .int .u8 0] 29)) := (((Below.refl _ _).alloc (Nat.le_refl _) _).alloc (by first | (simp; done) | (simp; omega)) _).alloc (by first | (simp; done) | (simp; omega)) _
  have M := (MoAt.new w b n cap g m cap' zs js hS hJ).keep bel1
  have rP := (Row.new (w.alloc (.cells #[.slice (some ⟨b, 0, none⟩) n cap, .slice (some ⟨g, 0, none⟩) m cap'] 35)) 37 [.int .i64 d0, .int .i64 d1, .int .i64 d2, .int .i64 d3, .int .i64 d4, .int .i64 d5, .int .i64 d6, .int .i64 d7]).alloc (.cells #[.int .u8 0, .int .u8 0, .int .u8 0, .int .u8 0, .int .u8 0, .int .u8 0, .int .u8 0, .int .u8 0] 29)
  have rR := Row.new ((w.alloc (.cells #[.slice (some ⟨b, 0, none⟩) n cap, .slice (some ⟨g, 0, none⟩) m cap'] 35)).alloc (.cells #[.int .i64 d0, .int .i64 d1, .int .i64 d2, .int .i64 d3, .int .i64 d4, .int .i64 d5, .int .i64 d6, .int .i64 d7] 37)) 29 [.int .u8 0, .int .u8 0, .int .u8 0, .int .u8 0, .int .u8 0, .int .u8 0, .int .u8 0, .int .u8 0]
  simp only [World.size_alloc] at rP rR
  have hi := Try.infoParts
  have hd := Try.infoDigits8
  have hbl := hS.1
  have hgl := hJ.1
  have HP := hid (fun (W : World) (M : MoAt W w.heap.size b n cap g m cap' zs js) => hasParts_any b n cap g m cap' zs js d0 d1 d2 d3 d4 d5 d6 d7 W M.2.1 M.2.2 hn hm)
  clear hS hJ bel1
  cases hv : hasR zs js [d0, d1, d2, d3, d4, d5, d6, d7] with
  | false =>
    rw [hv] at HP
    have HV := hid (rfR_no hv)
    clear hv hn hm hbl hgl
    obtain ⟨p0, p1⟩ := M.cells
    have HRP := hid rP
    go_enter Try.func15, Try.ntmps15
    go_wp2_with ((with_reducible refine wpList_load_row rfl 37 _ rfl (w.heap.size + 1) ?_ 37 ([.int .i64 d0, .int .i64 d1, .int .i64 d2, .int .i64 d3, .int .i64 d4, .int .i64 d5, .int .i64 d6, .int .i64 d7] : List Value).toArray (0, 0) _ ?_ Try.underlying37 ?_ ?_ ?_); rfl; exact HRP.out; rfl; exact hi)
    clear HRP p0 p1
    with_reducible refine (HP.out _ M).mono ?_
    rintro e W1 ⟨rfl, hC⟩
    replace M := M.keep hC
    replace rP := rP.below hC rP.lt
    replace rR := rR.below hC rR.lt
    replace hB := hB.trans (hC.mono hB.size)
    clear hC
    have R1 := hid (rR.setCells (ys := [.int .u8 0, .int .u8 0, .int .u8 0, .int .u8 0, .int .u8 0, .int .u8 0, .int .u8 0, .int .u8 0]) rfl)
    have T1 := rR.there 8 rfl
    have SB := hid (below_setCells [.int .u8 0, .int .u8 0, .int .u8 0, .int .u8 0, .int .u8 0, .int .u8 0, .int .u8 0, .int .u8 0] 0 _ hB (g := w.heap.size + 1 + 1) (by omega))
    clear rP rR hB M
    go_wp2_with ((with_reducible refine wpList_store_mid rfl 29 _ _ rfl (w.heap.size + 1 + 1) 0 ([.int .u8 0, .int .u8 0, .int .u8 0, .int .u8 0, .int .u8 0, .int .u8 0, .int .u8 0, .int .u8 0] : List Value).toArray ?_ ?_ ?_ ?_ (all_oneCell_toArray (one_of8 zeros_int8)) ?_); rfl; rfl; exact T1; exact hd)
    exact bodyPost_ret (v := .tuple #[.agg ([.int .u8 0, .int .u8 0, .int .u8 0, .int .u8 0, .int .u8 0, .int .u8 0, .int .u8 0, .int .u8 0] : List Value).toArray, .int .i64 1]) (results_cell_tmp2 (p := 4) (q := 5) (fn := Try.f15) rfl _ _ _ _ _ (0, 0) _ _ rfl rfl R1.out Try.underlying29 rfl hd) rfl ⟨by rw [HV.out], SB.out⟩
  | true =>
    rw [hv] at HP
    have HV := hid (rfR_yes hv)
    rw [← hn] at HV
    obtain ⟨hv1, hv2⟩ := hasR_out hv
    obtain ⟨hz1, hl, hjs⟩ := okM_out hv1
    obtain ⟨h1, h8, hin, _, _⟩ := okL_out hz1
    have hJJ := fun j hj' => okJs_out hjs j hj'
    have hqb := hid (fun k hk => rq_bd (ds := [d0, d1, d2, d3, d4, d5, d6, d7]) hin hJJ hl h8 hv2 k hk)
    have hjj := hid hJJ
    have HQ := hid hv2
    have HIN := hid hin
    have N := hid hn; have MM := hid hm; have HL := hid hl
    have hn8 : n ≤ 8 := by omega
    have hmn : m + 1 = n := by omega
    have hb0 := okPs_out hv2 0 (by omega)
    rw [endP_low (show 0 < zs.length by omega)] at hb0
    have hz0 := hin 0 (by omega)
    have hdd : 0 ≤ d0 ∧ d0 < 100000 := by
      simp only [List.getElem?_cons_zero, Option.getD_some] at hb0
      omega
    have HPA : Hid (∀ W : World, Calls Try.prog 36 #[.agg ([.int .i64 d0, .int .i64 d1, .int .i64 d2, .int .i64 d3, .int .i64 d4, .int .i64 d5, .int .i64 d6, .int .i64 d7] : List Value).toArray, .int .i64 0] W fun e w' => e = .returned (.int .i64 (d0 / 1000)) ∧ Below W.heap.size W w') := hid (fun W => passed_any d0 d1 d2 d3 d4 d5 d6 d7 0 d0 W (by omega) rfl ⟨hdd.1, by omega⟩)
    have hd1 := hdd.1
    have hd2 := hdd.2
    have hq0 : 0 ≤ d0 / 1000 := by omega
    have hq9 : d0 / 1000 ≤ 255 := by omega
    have rfo := hid (rfV_one zs js d0 d1 d2 d3 d4 d5 d6 d7)
    have rpo := hid (rpV_one zs js d0 d1 d2 d3 d4 d5 d6 d7)
    clear hv hn hm hv1 hv2 hz1 hl hjs h1 h8 hin hJJ hb0 hz0 hdd
    obtain ⟨p0, p1⟩ := M.cells
    have HRP := hid rP
    go_enter Try.func15, Try.ntmps15
    go_wp2_with ((with_reducible refine wpList_load_row rfl 37 _ rfl (w.heap.size + 1) ?_ 37 ([.int .i64 d0, .int .i64 d1, .int .i64 d2, .int .i64 d3, .int .i64 d4, .int .i64 d5, .int .i64 d6, .int .i64 d7] : List Value).toArray (0, 0) _ ?_ Try.underlying37 ?_ ?_ ?_); rfl; exact HRP.out; rfl; exact hi)
    clear HRP p0 p1
    with_reducible refine (HP.out _ M).mono ?_
    rintro e W1 ⟨rfl, hC⟩
    replace M := M.keep hC
    replace rP := rP.below hC rP.lt
    replace rR := rR.below hC rR.lt
    replace hB := hB.trans (hC.mono hB.size)
    clear hC
    have HRP := hid rP
    go_wp2_with ((with_reducible refine wpList_load_row rfl 37 _ rfl (w.heap.size + 1) ?_ 37 ([.int .i64 d0, .int .i64 d1, .int .i64 d2, .int .i64 d3, .int .i64 d4, .int .i64 d5, .int .i64 d6, .int .i64 d7] : List Value).toArray (0, 0) _ ?_ Try.underlying37 ?_ ?_ ?_); rfl; exact HRP.out; rfl; exact hi)
    clear HRP
    with_reducible refine (HPA.out _).mono ?_
    rintro e w2 ⟨rfl, hC⟩
    replace M := M.keep hC
    replace rP := rP.below hC rP.lt
    replace rR := rR.below hC rR.lt
    replace hB := hB.trans (hC.mono hB.size)
    clear hC
    obtain ⟨p0, p1⟩ := M.cells
    have HRP := hid rP
    have hzw2 := hB.size
    have hPl := rP.lt
    have hRl := rR.lt
    have bx : Below w2.heap.size w2 ((w2.alloc (.cells #[.int .u8 (d0 / 1000), .int .u8 0, .int .u8 0, .int .u8 0, .int .u8 0, .int .u8 0, .int .u8 0, .int .u8 0] 29)).alloc (.cells #[.int .i64 d0, .int .i64 d1, .int .i64 d2, .int .i64 d3, .int .i64 d4, .int .i64 d5, .int .i64 d6, .int .i64 d7] 37)) := ((Below.refl _ _).alloc (Nat.le_refl _) _).alloc (by first | (simp; done) | (simp; omega)) _
    have rG := (Row.new w2 29 [.int .u8 (d0 / 1000), .int .u8 0, .int .u8 0, .int .u8 0, .int .u8 0, .int .u8 0, .int .u8 0, .int .u8 0]).alloc (.cells #[.int .i64 d0, .int .i64 d1, .int .i64 d2, .int .i64 d3, .int .i64 d4, .int .i64 d5, .int .i64 d6, .int .i64 d7] 37)
    have rX := Row.new (w2.alloc (.cells #[.int .u8 (d0 / 1000), .int .u8 0, .int .u8 0, .int .u8 0, .int .u8 0, .int .u8 0, .int .u8 0, .int .u8 0] 29)) 37 [.int .i64 d0, .int .i64 d1, .int .i64 d2, .int .i64 d3, .int .i64 d4, .int .i64 d5, .int .i64 d6, .int .i64 d7]
    simp only [World.size_alloc] at rX
    rw [← rfo.out] at rG
    rw [← rpo.out] at rX
    have HG := hid rG; have HX := hid rX
    have HP' := hid (rP.below bx rP.lt); have HR := hid (rR.below bx rR.lt); have HM := hid (M.keep bx); have HB := hid (hB.trans (bx.mono hB.size))
    have HRA := hid (rP.alloc (.cells #[.int .u8 (d0 / 1000), .int .u8 0, .int .u8 0, .int .u8 0, .int .u8 0, .int .u8 0, .int .u8 0, .int .u8 0] 29))
    clear M rP rR rG rX hB bx
    have l1 : w.heap.size < w2.heap.size := by omega
    have l2 : w.heap.size < w2.heap.size + 1 := by omega
    have l3 : ¬ w.heap.size = w2.heap.size := by omega
    have l4 : ¬ w.heap.size = w2.heap.size + 1 := by omega
    go_wp2_with ((with_reducible refine wpList_load_row rfl 37 _ rfl (w.heap.size + 1) ?_ 37 ([.int .i64 d0, .int .i64 d1, .int .i64 d2, .int .i64 d3, .int .i64 d4, .int .i64 d5, .int .i64 d6, .int .i64 d7] : List Value).toArray (0, 0) _ ?_ Try.underlying37 ?_ ?_ ?_); rfl; exact HRA.out; rfl; exact hi)
    clear l1 l2 l3 l4 p0 p1 HRP HRA
    go_loopw [27] (fun i wr => ∃ k : Nat, k ≤ m ∧ i = .int .i64 k ∧ Row wr (w2.heap.size + 1) 37 (rpV zs js [d0, d1, d2, d3, d4, d5, d6, d7] (k + 1)) ∧ Row wr w2.heap.size 29 (rfV zs js [d0, d1, d2, d3, d4, d5, d6, d7] (k + 1)) ∧ Row wr (w.heap.size + 1) 37 [.int .i64 d0, .int .i64 d1, .int .i64 d2, .int .i64 d3, .int .i64 d4, .int .i64 d5, .int .i64 d6, .int .i64 d7] ∧ Row wr (w.heap.size + 1 + 1) 29 [.int .u8 0, .int .u8 0, .int .u8 0, .int .u8 0, .int .u8 0, .int .u8 0, .int .u8 0, .int .u8 0] ∧ MoAt wr w.heap.size b n cap g m cap' zs js ∧ Below w.heap.size w wr) (fun i _ => m - (intOf i).toNat)
    case atStart => exact ⟨0, Nat.zero_le _, rfl, HX.out, HG.out, HP'.out, HR.out, HM.out, HB.out⟩
    case round =>
    clear HX HG HP' HR HM HB rfo rpo HP HPA
    obtain ⟨k, hk, rfl, rX, rG, rP, rR, M, hB⟩ := hrel
    have HX := hid rX; have HG := hid rG; have HP' := hid rP; have HR := hid rR; have HM := hid M
    have hXl := rX.lt; have hGl := rG.lt
    have hzw := hB.size
    by_cases hlt : k < m
    · have hkj : k < js.length := by rw [← MM.out]; exact hlt
      have hkz : k < zs.length := by have := HL.out; omega
      have hk1 : k + 1 < zs.length := by have := HL.out; omega
      have h8k : k + 1 < 8 := by omega
      have g0 := (M.2.2.2.1 k hkj).1
      have g1 := (M.2.2.2.1 k hkj).2
      have hgw := M.2.2.1
      have hbw := M.2.1.1
      have cP := (rX.cell k).trans (rpV_at zs js [d0, d1, d2, d3, d4, d5, d6, d7] k (by omega))
      have cM := M.cells.1
      have cZ := M.2.1.2.1 k hkz
      have zb := HIN.out k hkz
      have pb := hqb.out k hkz
      have oj := hjj.out k hkj
      have znb := HIN.out (k + 1) hk1
      have pnb := okPs_out HQ.out (k + 1) h8k
      rw [endP_low hk1] at pnb
      have HE : Hid (rgd zs js [d0, d1, d2, d3, d4, d5, d6, d7] (k + 1) = rdn (zs[k + 1]?.getD 0) (beyJ (jk js k) (jf js k) (rq zs js [d0, d1, d2, d3, d4, d5, d6, d7] k) (zs[k]?.getD 0)) ([d0, d1, d2, d3, d4, d5, d6, d7][k + 1]?.getD 0) ∧ rq zs js [d0, d1, d2, d3, d4, d5, d6, d7] (k + 1) = rdn (zs[k + 1]?.getD 0) (beyJ (jk js k) (jf js k) (rq zs js [d0, d1, d2, d3, d4, d5, d6, d7] k) (zs[k]?.getD 0)) ([d0, d1, d2, d3, d4, d5, d6, d7][k + 1]?.getD 0) * 1000 + beyJ (jk js k) (jf js k) (rq zs js [d0, d1, d2, d3, d4, d5, d6, d7] k) (zs[k]?.getD 0)) := hid ⟨rfl, rfl⟩
      have bbd := beyJ_bd oj zb pb
      obtain ⟨q, hq⟩ : ∃ q, q = rq zs js [d0, d1, d2, d3, d4, d5, d6, d7] k := ⟨_, rfl⟩
      obtain ⟨z, hzz⟩ : ∃ z, z = zs[k]?.getD 0 := ⟨_, rfl⟩
      obtain ⟨kk, hkk⟩ : ∃ x, x = jk js k := ⟨_, rfl⟩
      obtain ⟨f, hff⟩ : ∃ x, x = jf js k := ⟨_, rfl⟩
      obtain ⟨zn, hzn⟩ : ∃ z, z = zs[k + 1]?.getD 0 := ⟨_, rfl⟩
      obtain ⟨pn, hpn⟩ : ∃ x, x = [d0, d1, d2, d3, d4, d5, d6, d7][k + 1]?.getD 0 := ⟨_, rfl⟩
      rw [← hq] at cP pb bbd HE
      rw [← hzz] at cZ zb pb bbd HE
      rw [← hkk] at g0 oj bbd HE
      rw [← hff] at g1 oj bbd HE
      rw [← hzn] at znb pnb HE
      rw [← hpn] at pnb HE
      have HZN := hid hzn; have HPN := hid hpn
      clear hq hzz hff hkk hzn hpn
      obtain ⟨bb, hbb⟩ : ∃ x, x = beyJ kk f q z := ⟨_, rfl⟩
      rw [← hbb] at bbd HE
      have nb : -1 ≤ (pn - bb + 500) / 1000 ∧ (pn - bb + 500) / 1000 ≤ 101 := by omega
      have db := rdn_bd zn bb pn znb
      have HFD := hid (fun w => floorDiv_any (pn - bb + 500) 1000 (by omega) (by omega) w)
      have HFM := hid (fun w => floorMod_any ((pn - bb + 500) / 1000) zn (by omega) (by omega) w)
      rw [show (pn - bb + 500) / 1000 % zn = rdn zn bb pn from rfl] at HFM
      obtain ⟨dn, hdn⟩ : ∃ x, x = rdn zn bb pn := ⟨_, rfl⟩
      rw [← hdn] at db HFM HE
      obtain ⟨nr, hnr⟩ : ∃ x, x = (pn - bb + 500) / 1000 := ⟨_, rfl⟩
      rw [← hnr] at nb HFD HFM
      clear hdn hnr
      have HN := HE
      have k0 : (0 : Int) ≤ (k : Int) := by omega
      have k8 : (k : Int) < 8 := by omega
      have k7 : (k : Int) + 1 < 8 := by omega
      have km : (k : Int) < (m : Int) := by omega
      have kn : (k : Int) < (n : Int) := by omega
      have kn1 : (k : Int) + 1 < (n : Int) := by omega
      have wz : IntKind.i64.wrap z = z := IntWalk.i64_in z (by omega)
      have wzn : IntKind.i64.wrap zn = zn := IntWalk.i64_in zn (by omega)
      have pn1 := pnb.1; have pn2 := pnb.2; have zn1 := znb.1; have zn2 := znb.2; have bb1 := bbd.1; have bb2 := bbd.2; have dn1 := db.1; have dn2 := db.2
      clear pnb rX rG rP rR M HE
      rcases okJ_out oj with ⟨rfl, rfl⟩ | ⟨rfl, f0, f1⟩
      · clear oj
        have bA : Below w.heap.size w (wr.alloc (.cells #[.int .i8 0, .int .i16 0] 74)) := hB.alloc hzw _
        have zA : (wr.alloc (.cells #[.int .i8 0, .int .i16 0] 74)).heap.size = wr.heap.size + 1 := by simp
        have j0 : (wr.alloc (.cells #[.int .i8 0, .int .i16 0] 74)).cell? ⟨wr.heap.size, 0, none⟩ = some (.int .i8 0) := (Row.new wr 74 [.int .i8 0, .int .i16 0]).cell 0
        have j1 : (wr.alloc (.cells #[.int .i8 0, .int .i16 0] 74)).cell? ⟨wr.heap.size, 1, none⟩ = some (.int .i16 0) := (Row.new wr 74 [.int .i8 0, .int .i16 0]).cell 1
        have bR : Below wr.heap.size wr (wr.alloc (.cells #[.int .i8 0, .int .i16 0] 74)) := (Below.refl _ _).alloc (Nat.le_refl _) _
        have a2 := (bR.cell (p := ⟨w2.heap.size + 1, k, none⟩) (by show w2.heap.size + 1 < _; omega)).trans cP
        have a3 := (bR.cell (p := ⟨w.heap.size, 0, none⟩) (by show w.heap.size < _; omega)).trans cM
        have a4 := (bR.cell (p := ⟨b, k, none⟩) (by show b < _; omega)).trans cZ
        have hm : ∀ w, (method 220 92 (.agg #[]) "loop.example/g01278/impl.beyond").run Try.prog w = .ok (80, .agg #[]) w := fun _ => by kernel_rfl
        have hna : ∀ w, (nilAhead 220 92 (.agg #[]) "loop.example/g01278/impl.beyond").run Try.prog w = .ok (some false) w := fun _ => by kernel_rfl
        have HCY := hid (fun w => carry_even 0 w)
        have HBY := hid (fun w => beyond_even q z w (by omega) zb)
        rw [beyJ_even] at hbb
        rw [← hbb] at HBY
        have HBB := hid hbb
        clear hbb cP cM cZ
        go_wp2_with fail
        go_region_held3 (fun w' => w'.cell? ⟨wr.heap.size, 0, none⟩ = some (.int .i8 0) ∧ w'.cell? ⟨wr.heap.size, 1, none⟩ = some (.int .i16 0) ∧ w'.cell? ⟨w2.heap.size + 1, k, none⟩ = some (.int .i64 q) ∧ w'.cell? ⟨w.heap.size, 0, none⟩ = some (.slice (some ⟨b, 0, none⟩) n cap) ∧ w'.cell? ⟨b, k, none⟩ = some (.int .u8 z)) (first | with_reducible exact hq2 | with_reducible exact hq1 | exact ⟨j0, j1, a2, a3, a4⟩) ((first | (go_at_call 37; have hX := HCY.out (wr.alloc (.cells #[.int .i8 0, .int .i16 0] 74)).drew; refine hX.mono ?_; clear hX; rintro e w4 ⟨rfl, hB2⟩; simp only [World.size_drew, World.size_alloc] at hB2; have hz2 := hB2.size; simp only [World.size_drew, World.size_alloc] at hz2; have hq1 := And.intro ((hB2.cell (p := ⟨wr.heap.size, 0, none⟩) (by show wr.heap.size < _; omega)).trans j0) (And.intro ((hB2.cell (p := ⟨wr.heap.size, 1, none⟩) (by show wr.heap.size < _; omega)).trans j1) (And.intro ((hB2.cell (p := ⟨w2.heap.size + 1, k, none⟩) (by show w2.heap.size + 1 < _; omega)).trans a2) (And.intro ((hB2.cell (p := ⟨w.heap.size, 0, none⟩) (by show w.heap.size < _; omega)).trans a3) ((hB2.cell (p := ⟨b, k, none⟩) (by show b < _; omega)).trans a4))))) | (go_at_call 80; (try rw [wz]); have hX := HBY.out w4; refine hX.mono ?_; clear hX; rintro e w3 ⟨rfl, hB3⟩; have hz3 := hB3.size; have hq2 := And.intro ((hB3.cell (p := ⟨wr.heap.size, 0, none⟩) (by show wr.heap.size < _; omega)).trans hq1.1) (And.intro ((hB3.cell (p := ⟨wr.heap.size, 1, none⟩) (by show wr.heap.size < _; omega)).trans hq1.2.1) (And.intro ((hB3.cell (p := ⟨w2.heap.size + 1, k, none⟩) (by show w2.heap.size + 1 < _; omega)).trans hq1.2.2.1) (And.intro ((hB3.cell (p := ⟨w.heap.size, 0, none⟩) (by show w.heap.size < _; omega)).trans hq1.2.2.2.1) ((hB3.cell (p := ⟨b, k, none⟩) (by show b < _; omega)).trans hq1.2.2.2.2)))))))
        have b3 : Below (wr.heap.size + 1) (wr.alloc (.cells #[.int .i8 0, .int .i16 0] 74)) w3 := (Below.refl _ _).drew.trans (hB2.trans (hB3.mono (by omega)))
        have rX3 := (HX.out.below bR (by omega)).below b3 (by omega)
        have rG3 := (HG.out.below bR (by omega)).below b3 (by omega)
        have rP3 := (HP'.out.below bR (by omega)).below b3 (by omega)
        have rR3 := (HR.out.below bR (by omega)).below b3 (by omega)
        have M3 := (HM.out.below bR (by omega) (by omega) (by omega)).below b3 (by omega) (by omega) (by omega)
        have B3 := bA.trans (b3.mono (by omega))
        clear j0 j1 a2 a3 a4 hq1 hq2 hm hna HCY HBY wz zA bA bR hB2 hB3 b3
        have HEN := HN
        have cPn := (rP3.cell (k + 1)).trans (dp_at d0 d1 d2 d3 d4 d5 d6 d7 (k + 1) h8k)
        have cZn := M3.2.1.2.1 (k + 1) hk1
        rw [← HPN.out] at cPn
        rw [← HZN.out] at cZn
        have cMn := M3.cells.1
        have o1 := (rG3.cell (k + 1)).trans (rfV_at zs js [d0, d1, d2, d3, d4, d5, d6, d7] (k + 1) h8k)
        have f1 := rG3.frozen (k + 1)
        have rX4 := rX3.other (a := ⟨w2.heap.size, k + 1, none⟩) (by show w2.heap.size ≠ w2.heap.size + 1; omega) (.int .u8 dn)
        have o2 := (rX4.cell (k + 1)).trans (rpV_next zs js [d0, d1, d2, d3, d4, d5, d6, d7] (k + 1) h8k)
        have f2 := rX4.frozen (k + 1)
        have o3 := (rX3.cell (k + 1)).trans (rpV_next zs js [d0, d1, d2, d3, d4, d5, d6, d7] (k + 1) h8k)
        have f3 := rX3.frozen (k + 1)
        have rX5 := rX4.set (k + 1) (.int .i64 (rq zs js [d0, d1, d2, d3, d4, d5, d6, d7] (k + 1)))
        rw [rpV_set zs js [d0, d1, d2, d3, d4, d5, d6, d7] (k + 1) h8k, HEN.out.2] at rX5
        have rG5 := (rG3.set (k + 1) (.int .u8 (rgd zs js [d0, d1, d2, d3, d4, d5, d6, d7] (k + 1))))
        rw [rfV_set zs js [d0, d1, d2, d3, d4, d5, d6, d7] (k + 1) h8k, HEN.out.1] at rG5
        have rG6 := rG5.other (a := ⟨w2.heap.size + 1, k + 1, none⟩) (by show w2.heap.size + 1 ≠ w2.heap.size; omega) (.int .i64 (dn * 1000 + bb))
        have bS : Below w2.heap.size w3 ((w3.setCell ⟨w2.heap.size, k + 1, none⟩ (.int .u8 dn)).setCell ⟨w2.heap.size + 1, k + 1, none⟩ (.int .i64 (dn * 1000 + bb))) := ((Below.refl _ w3).setCell (p := ⟨w2.heap.size, k + 1, none⟩) (Nat.le_refl _) _).setCell (p := ⟨w2.heap.size + 1, k + 1, none⟩) (by show w2.heap.size ≤ w2.heap.size + 1; omega) _
        have X5 := hid rX5; have G5 := hid rG6
        have P5 := hid (rP3.below bS (by omega))
        have R5 := hid (rR3.below bS (by omega))
        have M5 := hid (M3.below bS (by omega) (by omega) (by omega))
        have B5 := hid (B3.trans (bS.mono (by omega)))
        clear rX3 rX4 rX5 rG3 rG5 rG6 rP3 rR3 M3 B3 bS
        go_wp2_with (first | (go_at_call 38; refine (HFD.out _).mono ?_; rintro e w' ⟨rfl, rfl⟩) | (go_at_call 39; refine (HFM.out _).mono ?_; rintro e w' ⟨rfl, rfl⟩))
        go_roundw
        case rel => exact ⟨k + 1, by omega, by go_num, X5.out, G5.out, P5.out, R5.out, M5.out, B5.out⟩
        case measure => simp [intOf]; omega
      · clear oj
        have bA : Below w.heap.size w (wr.alloc (.cells #[.int .i8 1, .int .i16 f] 74)) := hB.alloc hzw _
        have zA : (wr.alloc (.cells #[.int .i8 1, .int .i16 f] 74)).heap.size = wr.heap.size + 1 := by simp
        have j0 : (wr.alloc (.cells #[.int .i8 1, .int .i16 f] 74)).cell? ⟨wr.heap.size, 0, none⟩ = some (.int .i8 1) := (Row.new wr 74 [.int .i8 1, .int .i16 f]).cell 0
        have j1 : (wr.alloc (.cells #[.int .i8 1, .int .i16 f] 74)).cell? ⟨wr.heap.size, 1, none⟩ = some (.int .i16 f) := (Row.new wr 74 [.int .i8 1, .int .i16 f]).cell 1
        have bR : Below wr.heap.size wr (wr.alloc (.cells #[.int .i8 1, .int .i16 f] 74)) := (Below.refl _ _).alloc (Nat.le_refl _) _
        have a2 := (bR.cell (p := ⟨w2.heap.size + 1, k, none⟩) (by show w2.heap.size + 1 < _; omega)).trans cP
        have a3 := (bR.cell (p := ⟨w.heap.size, 0, none⟩) (by show w.heap.size < _; omega)).trans cM
        have a4 := (bR.cell (p := ⟨b, k, none⟩) (by show b < _; omega)).trans cZ
        have hm : ∀ w, (method 220 90 (.agg #[.int .i64 f]) "loop.example/g01278/impl.beyond").run Try.prog w = .ok (79, .agg #[.int .i64 f]) w := fun _ => by kernel_rfl
        have hna : ∀ w, (nilAhead 220 90 (.agg #[.int .i64 f]) "loop.example/g01278/impl.beyond").run Try.prog w = .ok (some false) w := fun _ => by kernel_rfl
        have HCY := hid (fun w => carry_late f w ⟨f0, f1⟩)
        have HBY := hid (fun w => beyond_late f q z w ⟨f0, f1⟩ pb zb)
        rw [← hbb] at HBY
        have HBB := hid hbb
        clear hbb cP cM cZ
        go_wp2_with fail
        go_region_held3 (fun w' => w'.cell? ⟨wr.heap.size, 0, none⟩ = some (.int .i8 1) ∧ w'.cell? ⟨wr.heap.size, 1, none⟩ = some (.int .i16 f) ∧ w'.cell? ⟨w2.heap.size + 1, k, none⟩ = some (.int .i64 q) ∧ w'.cell? ⟨w.heap.size, 0, none⟩ = some (.slice (some ⟨b, 0, none⟩) n cap) ∧ w'.cell? ⟨b, k, none⟩ = some (.int .u8 z)) (first | with_reducible exact hq2 | with_reducible exact hq1 | exact ⟨j0, j1, a2, a3, a4⟩) ((first | (go_at_call 37; have hX := HCY.out (wr.alloc (.cells #[.int .i8 1, .int .i16 f] 74)).drew; refine hX.mono ?_; clear hX; rintro e w4 ⟨rfl, hB2⟩; simp only [World.size_drew, World.size_alloc] at hB2; have hz2 := hB2.size; simp only [World.size_drew, World.size_alloc] at hz2; have hq1 := And.intro ((hB2.cell (p := ⟨wr.heap.size, 0, none⟩) (by show wr.heap.size < _; omega)).trans j0) (And.intro ((hB2.cell (p := ⟨wr.heap.size, 1, none⟩) (by show wr.heap.size < _; omega)).trans j1) (And.intro ((hB2.cell (p := ⟨w2.heap.size + 1, k, none⟩) (by show w2.heap.size + 1 < _; omega)).trans a2) (And.intro ((hB2.cell (p := ⟨w.heap.size, 0, none⟩) (by show w.heap.size < _; omega)).trans a3) ((hB2.cell (p := ⟨b, k, none⟩) (by show b < _; omega)).trans a4))))) | (go_at_call 79; (try rw [wz]); have hX := HBY.out w4; refine hX.mono ?_; clear hX; rintro e w3 ⟨rfl, hB3⟩; have hz3 := hB3.size; have hq2 := And.intro ((hB3.cell (p := ⟨wr.heap.size, 0, none⟩) (by show wr.heap.size < _; omega)).trans hq1.1) (And.intro ((hB3.cell (p := ⟨wr.heap.size, 1, none⟩) (by show wr.heap.size < _; omega)).trans hq1.2.1) (And.intro ((hB3.cell (p := ⟨w2.heap.size + 1, k, none⟩) (by show w2.heap.size + 1 < _; omega)).trans hq1.2.2.1) (And.intro ((hB3.cell (p := ⟨w.heap.size, 0, none⟩) (by show w.heap.size < _; omega)).trans hq1.2.2.2.1) ((hB3.cell (p := ⟨b, k, none⟩) (by show b < _; omega)).trans hq1.2.2.2.2)))))))
        have b3 : Below (wr.heap.size + 1) (wr.alloc (.cells #[.int .i8 1, .int .i16 f] 74)) w3 := (Below.refl _ _).drew.trans (hB2.trans (hB3.mono (by omega)))
        have rX3 := (HX.out.below bR (by omega)).below b3 (by omega)
        have rG3 := (HG.out.below bR (by omega)).below b3 (by omega)
        have rP3 := (HP'.out.below bR (by omega)).below b3 (by omega)
        have rR3 := (HR.out.below bR (by omega)).below b3 (by omega)
        have M3 := (HM.out.below bR (by omega) (by omega) (by omega)).below b3 (by omega) (by omega) (by omega)
        have B3 := bA.trans (b3.mono (by omega))
        clear j0 j1 a2 a3 a4 hq1 hq2 hm hna HCY HBY wz zA bA bR hB2 hB3 b3
        have HEN := HN
        have cPn := (rP3.cell (k + 1)).trans (dp_at d0 d1 d2 d3 d4 d5 d6 d7 (k + 1) h8k)
        have cZn := M3.2.1.2.1 (k + 1) hk1
        rw [← HPN.out] at cPn
        rw [← HZN.out] at cZn
        have cMn := M3.cells.1
        have o1 := (rG3.cell (k + 1)).trans (rfV_at zs js [d0, d1, d2, d3, d4, d5, d6, d7] (k + 1) h8k)
        have f1 := rG3.frozen (k + 1)
        have rX4 := rX3.other (a := ⟨w2.heap.size, k + 1, none⟩) (by show w2.heap.size ≠ w2.heap.size + 1; omega) (.int .u8 dn)
        have o2 := (rX4.cell (k + 1)).trans (rpV_next zs js [d0, d1, d2, d3, d4, d5, d6, d7] (k + 1) h8k)
        have f2 := rX4.frozen (k + 1)
        have o3 := (rX3.cell (k + 1)).trans (rpV_next zs js [d0, d1, d2, d3, d4, d5, d6, d7] (k + 1) h8k)
        have f3 := rX3.frozen (k + 1)
        have rX5 := rX4.set (k + 1) (.int .i64 (rq zs js [d0, d1, d2, d3, d4, d5, d6, d7] (k + 1)))
        rw [rpV_set zs js [d0, d1, d2, d3, d4, d5, d6, d7] (k + 1) h8k, HEN.out.2] at rX5
        have rG5 := (rG3.set (k + 1) (.int .u8 (rgd zs js [d0, d1, d2, d3, d4, d5, d6, d7] (k + 1))))
        rw [rfV_set zs js [d0, d1, d2, d3, d4, d5, d6, d7] (k + 1) h8k, HEN.out.1] at rG5
        have rG6 := rG5.other (a := ⟨w2.heap.size + 1, k + 1, none⟩) (by show w2.heap.size + 1 ≠ w2.heap.size; omega) (.int .i64 (dn * 1000 + bb))
        have bS : Below w2.heap.size w3 ((w3.setCell ⟨w2.heap.size, k + 1, none⟩ (.int .u8 dn)).setCell ⟨w2.heap.size + 1, k + 1, none⟩ (.int .i64 (dn * 1000 + bb))) := ((Below.refl _ w3).setCell (p := ⟨w2.heap.size, k + 1, none⟩) (Nat.le_refl _) _).setCell (p := ⟨w2.heap.size + 1, k + 1, none⟩) (by show w2.heap.size ≤ w2.heap.size + 1; omega) _
        have X5 := hid rX5; have G5 := hid rG6
        have P5 := hid (rP3.below bS (by omega))
        have R5 := hid (rR3.below bS (by omega))
        have M5 := hid (M3.below bS (by omega) (by omega) (by omega))
        have B5 := hid (B3.trans (bS.mono (by omega)))
        clear rX3 rX4 rX5 rG3 rG5 rG6 rP3 rR3 M3 B3 bS
        go_wp2_with (first | (go_at_call 38; refine (HFD.out _).mono ?_; rintro e w' ⟨rfl, rfl⟩) | (go_at_call 39; refine (HFM.out _).mono ?_; rintro e w' ⟨rfl, rfl⟩))
        go_roundw
        case rel => exact ⟨k + 1, by omega, by go_num, X5.out, G5.out, P5.out, R5.out, M5.out, B5.out⟩
        case measure => simp [intOf]; omega
    · obtain rfl : k = m := by omega
      rw [hmn] at rG
      have T1 := rR.there (rfV zs js [d0, d1, d2, d3, d4, d5, d6, d7] n).toArray.size (by simp [rfV])
      have R1 := hid (rR.setCells (ys := rfV zs js [d0, d1, d2, d3, d4, d5, d6, d7] n) (by simp [rfV]))
      have SB := hid (below_setCells (rfV zs js [d0, d1, d2, d3, d4, d5, d6, d7] n) 0 _ hB (g := w.heap.size + 1 + 1) (by omega))
      have HD := hid rG
      have hd8 : (Try.prog.info? 29).map (·.size) = some (rfV zs js [d0, d1, d2, d3, d4, d5, d6, d7] n).toArray.size := by rw [hd]; simp [rfV]
      clear M rP rR rG rX hB
      go_wp2_with (first | ((with_reducible refine wpList_store_mid rfl 29 _ _ rfl (w.heap.size + 1 + 1) 0 (rfV zs js [d0, d1, d2, d3, d4, d5, d6, d7] n : List Value).toArray ?_ ?_ ?_ ?_ (all_oneCell_toArray (one_of8 (ints_rf _ _ _ _))) ?_); rfl; rfl; exact T1; exact hd8) | ((with_reducible refine wpList_load_row rfl 29 _ rfl w2.heap.size ?_ 29 (rfV zs js [d0, d1, d2, d3, d4, d5, d6, d7] n : List Value).toArray (0, 0) _ ?_ Try.underlying29 ?_ ?_ ?_); rfl; exact HD.out; rfl; exact hd8))
      exact bodyPost_ret (v := .tuple #[.agg (rfV zs js [d0, d1, d2, d3, d4, d5, d6, d7] n : List Value).toArray, .int .i64 0]) (results_cell_tmp2 (p := 4) (q := 5) (fn := Try.f15) rfl _ _ _ _ _ (0, 0) _ _ rfl rfl R1.out Try.underlying29 rfl hd8) rfl ⟨by rw [HV.out], SB.out⟩
end Go.Proofs.Ytkgldcjbaghapaa
