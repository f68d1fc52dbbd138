/- The parts of all wheels: the model's. -/
import Derived.Test.YtomhmkdfhhmenaaBeyS
namespace Go.Proofs.Ytomhmkdfhhmenaa
open Go.RowKit

set_option maxRecDepth 100000 in
set_option maxHeartbeats 8000000 in
theorem l02Parts_any (B b n cap g m cap' : Nat) (zs : List Int) (js : List (Int × Int)) (turn : Int) (w : World) (hM : MoAt w B b n cap g m cap' zs js) (hn : n = zs.length) (hm : m = js.length) (hcap : n ≤ cap) (hv : okM zs js = true) (ht : turnOk zs turn = true) :
    Calls Try.prog 35 #[.pointer (some ⟨B, 0, none⟩), .int .i64 turn] w fun e w' => e = .returned (.agg #[.int .i64 (dg (partsL zs js turn) 0), .int .i64 (dg (partsL zs js turn) 1), .int .i64 (dg (partsL zs js turn) 2), .int .i64 (dg (partsL zs js turn) 3), .int .i64 (dg (partsL zs js turn) 4), .int .i64 (dg (partsL zs js turn) 5), .int .i64 (dg (partsL zs js turn) 6), .int .i64 (dg (partsL zs js turn) 7)]) ∧ Below w.heap.size w w' := by
  have bel : Below w.heap.size w ((w.alloc (.cells #[.int .i64 0, .int .i64 0, .int .i64 0, .int .i64 0, .int .i64 0, .int .i64 0, .int .i64 0, .int .i64 0] 70)).alloc (.cells #[.int .i64 0, .int .i64 0, .int .i64 0, .int .i64 0, .int .i64 0, .int .i64 0, .int .i64 0, .int .i64 0] 70)) := ((Below.refl _ w).alloc (Nat.le_refl _) _).alloc (by simp) _
  have M0 := hid (hM.keep bel)
  have rR := hid ((Row.new w 70 [.int .i64 0, .int .i64 0, .int .i64 0, .int .i64 0, .int .i64 0, .int .i64 0, .int .i64 0, .int .i64 0]).alloc (.cells #[.int .i64 0, .int .i64 0, .int .i64 0, .int .i64 0, .int .i64 0, .int .i64 0, .int .i64 0, .int .i64 0] 70))
  have rP' := Row.new (w.alloc (.cells #[.int .i64 0, .int .i64 0, .int .i64 0, .int .i64 0, .int .i64 0, .int .i64 0, .int .i64 0, .int .i64 0] 70)) 70 [.int .i64 0, .int .i64 0, .int .i64 0, .int .i64 0, .int .i64 0, .int .i64 0, .int .i64 0, .int .i64 0]
  simp only [World.size_alloc] at rP'
  have rP := hid rP'
  obtain ⟨hv1, hl, hj⟩ := okM_out hv
  obtain ⟨h1, h8, hin, hs1, hs2⟩ := okL_out hv1
  have tb := turnOk_out ht
  have sb := spanL_bd hv1
  have HD := hid (fun w1 (h : Stk w1 b zs) => specDigitsOf_any b n cap zs (turn / 1000) w1 h hn hcap)
  have t0 := Int.ediv_nonneg tb.1 (show (0 : Int) ≤ 1000 by decide)
  have hd := dofR_yes (turn / 1000) hv1 (by unfold spanL at tb; omega)
  rw [hd] at HD
  have HD : Hid (∀ (w1 : World), Stk w1 b zs → Calls Try.prog 33 #[.slice (some ⟨b, 0, none⟩) n cap, .int .i64 (turn / 1000)] w1 fun e w' => e = .returned (.tuple #[.agg #[.int .u8 (dg (dgL zs (turn / 1000)) 0), .int .u8 (dg (dgL zs (turn / 1000)) 1), .int .u8 (dg (dgL zs (turn / 1000)) 2), .int .u8 (dg (dgL zs (turn / 1000)) 3), .int .u8 (dg (dgL zs (turn / 1000)) 4), .int .u8 (dg (dgL zs (turn / 1000)) 5), .int .u8 (dg (dgL zs (turn / 1000)) 6), .int .u8 (dg (dgL zs (turn / 1000)) 7)], .int .i64 0]) ∧ Below w1.heap.size w1 w') := HD
  have hJJ := fun j hj' => okJs_out hj j hj'
  have hpb := hid (fun k hk => pL_bd (turn := turn) hin hJJ hl k hk)
  have hjj := hid hJJ
  have hEQ : ∀ k, k < zs.length → dg (dgL zs (turn / 1000)) k = dgt zs turn k := fun k hk => by
    unfold dg
    rw [dgL_get zs _ k (by omega), if_pos hk]; rfl
  have hDB0 : ∀ k, k < 8 → 0 ≤ dg (dgL zs (turn / 1000)) k ∧ dg (dgL zs (turn / 1000)) k ≤ 99 := fun k hk => dgL_bd zs (turn / 1000) hin k hk
  obtain ⟨e0, he0⟩ : ∃ x, x = dg (dgL zs (turn / 1000)) 0 := ⟨_, rfl⟩
  obtain ⟨e1, he1⟩ : ∃ x, x = dg (dgL zs (turn / 1000)) 1 := ⟨_, rfl⟩
  obtain ⟨e2, he2⟩ : ∃ x, x = dg (dgL zs (turn / 1000)) 2 := ⟨_, rfl⟩
  obtain ⟨e3, he3⟩ : ∃ x, x = dg (dgL zs (turn / 1000)) 3 := ⟨_, rfl⟩
  obtain ⟨e4, he4⟩ : ∃ x, x = dg (dgL zs (turn / 1000)) 4 := ⟨_, rfl⟩
  obtain ⟨e5, he5⟩ : ∃ x, x = dg (dgL zs (turn / 1000)) 5 := ⟨_, rfl⟩
  obtain ⟨e6, he6⟩ : ∃ x, x = dg (dgL zs (turn / 1000)) 6 := ⟨_, rfl⟩
  obtain ⟨e7, he7⟩ : ∃ x, x = dg (dgL zs (turn / 1000)) 7 := ⟨_, rfl⟩
  have hEE : ∀ k, k < zs.length → ([e0, e1, e2, e3, e4, e5, e6, e7] : List Int)[k]?.getD 0 = dgt zs turn k := fun k hk => by
    rw [← hEQ k hk]
    have h : k = 0 ∨ k = 1 ∨ k = 2 ∨ k = 3 ∨ k = 4 ∨ k = 5 ∨ k = 6 ∨ k = 7 := by omega
    rcases h with rfl | rfl | rfl | rfl | rfl | rfl | rfl | rfl
    · exact he0
    · exact he1
    · exact he2
    · exact he3
    · exact he4
    · exact he5
    · exact he6
    · exact he7
  have hDB : ∀ k, k < 8 → 0 ≤ ([e0, e1, e2, e3, e4, e5, e6, e7] : List Int)[k]?.getD 0 ∧ ([e0, e1, e2, e3, e4, e5, e6, e7] : List Int)[k]?.getD 0 ≤ 99 := fun k hk => by
    have := hDB0 k hk
    have h : k = 0 ∨ k = 1 ∨ k = 2 ∨ k = 3 ∨ k = 4 ∨ k = 5 ∨ k = 6 ∨ k = 7 := by omega
    rcases h with rfl | rfl | rfl | rfl | rfl | rfl | rfl | rfl
    · rw [← he0] at this; exact this
    · rw [← he1] at this; exact this
    · rw [← he2] at this; exact this
    · rw [← he3] at this; exact this
    · rw [← he4] at this; exact this
    · rw [← he5] at this; exact this
    · rw [← he6] at this; exact this
    · rw [← he7] at this; exact this
  rw [← he0, ← he1, ← he2, ← he3, ← he4, ← he5, ← he6, ← he7] at HD
  have hEE := hid hEE
  have hDB := hid hDB
  have HBY := hid (fun (k : Nat) (q : Int) (w1 : World) (h : MoAt w1 B b n cap g m cap' zs js) (hk : k < js.length) (hkz : k < zs.length) hz hj hq => l02Beyond_any B b n cap g m cap' zs js k q w1 h hn hm hk hkz hz hj hq)
  have hz0 := hin 0 (by omega)
  have fp := first_parts turn (zs[0]?.getD 0) tb.1 hz0.1
  have HP0 := hid (show turn % (zs[0]?.getD 0 * 1000) = pL zs js turn 0 by rw [fp]; simp [pL, dgt, szL])
  have hBl := hM.1.lt
  have hbl := hM.2.1.1
  have hgl := hM.2.2.1
  have hz0c := hid (fun (w1 : World) (h : MoAt w1 B b n cap g m cap' zs js) => h.2.1.2.1 0 (by omega))
  obtain ⟨z, hzz⟩ : ∃ z, z = zs[0]?.getD 0 := ⟨_, rfl⟩
  rw [← hzz] at hz0c hz0 HP0
  have N := hid hn
  have MM := hid hm
  have HL := hid hl
  have HIN := hid hin
  have hn8 : n ≤ 8 := by omega
  have hn1 : 1 ≤ n := by omega
  have hmn : m + 1 ≤ n := by omega
  have hmn2 : n ≤ m + 1 := by omega
  have tt1 := tb.1
  have tt2 : turn ≤ 1000000000000000 := by omega
  have wz : IntKind.i64.wrap z = z := IntWalk.i64_in z (by omega)
  have hzm : z * 1000 ≠ 0 := by omega
  have tm : turn.tmod (z * 1000) = turn % (z * 1000) := Int.tmod_eq_emod_of_nonneg tb.1
  have tm0 := Int.emod_nonneg turn hzm
  have tm1 := Int.emod_lt_of_pos turn (show 0 < z * 1000 by omega)
  clear hM hn hm hv hv1 hl hj h8 hin hJJ hEQ hDB0 rP' h1 hs1 hs2 tb sb hd ht hzz fp he0 he1 he2 he3 he4 he5 he6 he7
  go_enter Try.func35, Try.ntmps35
  have M00 := M0.out.cells
  obtain ⟨m0, m1⟩ := M00
  go_wp2_with fail
  refine (HD.out _ M0.out.2.1).mono ?_
  rintro e w1 ⟨rfl, hB1⟩
  have hz1 := hB1.size
  have M1 := hid (M0.out.keep hB1)
  simp only [World.size_alloc] at hB1 hz1
  clear m0 m1
  obtain ⟨m0, m1⟩ := M1.out.cells
  have cz := hz0c.out w1 M1.out
  have p0 := (rP.out.below hB1 (by omega)).cell 0
  have f0 := (rP.out.below hB1 (by omega)).frozen 0
  simp only [List.getElem?_cons_zero] at p0
  have l1 : B < w1.heap.size := by omega
  have l3 : ¬ B = w1.heap.size := by omega
  have l4 : b < w1.heap.size := by omega
  have l5 : ¬ b = w1.heap.size := by omega
  have l6 : w.heap.size + 1 < w1.heap.size := by omega
  have l7 : ¬ w.heap.size + 1 = w1.heap.size := by omega
  have v1 := (rP.out.below hB1 (by omega)).set 0 (.int .i64 (pL zs js turn 0))
  have v2 := (rR.out.below hB1 (by omega)).other (a := ⟨w.heap.size + 1, 0, none⟩) (by show w.heap.size + 1 ≠ w.heap.size; omega) (.int .i64 (pL zs js turn 0))
  have v3 := M1.out.below (k := w.heap.size + 1) ((Below.refl _ w1).setCell (p := ⟨w.heap.size + 1, 0, none⟩) (Nat.le_refl _) (.int .i64 (pL zs js turn 0))) (by omega) (by omega) (by omega)
  have v4 := (bel.trans (hB1.mono (by omega))).setCell (p := ⟨w.heap.size + 1, 0, none⟩) (by show w.heap.size ≤ w.heap.size + 1; omega) (.int .i64 (pL zs js turn 0))
  have bx : Below (w1.setCell ⟨w.heap.size + 1, 0, none⟩ (.int .i64 (pL zs js turn 0))).heap.size (w1.setCell ⟨w.heap.size + 1, 0, none⟩ (.int .i64 (pL zs js turn 0))) ((w1.setCell ⟨w.heap.size + 1, 0, none⟩ (.int .i64 (pL zs js turn 0))).alloc (.cells #[.int .u8 e0, .int .u8 e1, .int .u8 e2, .int .u8 e3, .int .u8 e4, .int .u8 e5, .int .u8 e6, .int .u8 e7] 65)) := (Below.refl _ _).alloc (Nat.le_refl _) _
  have hDs0 := Row.new (w1.setCell ⟨w.heap.size + 1, 0, none⟩ (.int .i64 (pL zs js turn 0))) 65 [.int .u8 e0, .int .u8 e1, .int .u8 e2, .int .u8 e3, .int .u8 e4, .int .u8 e5, .int .u8 e6, .int .u8 e7]
  have hsz : (w1.setCell ⟨w.heap.size + 1, 0, none⟩ (.int .i64 (pL zs js turn 0))).heap.size = w1.heap.size := by simp
  rw [hsz] at hDs0 bx
  clear hsz
  have hDs := hid hDs0
  have hPs := hid (v1.below bx (by omega))
  have hRs := hid (v2.below bx (by omega))
  have hMs := hid (v3.below bx (by omega) (by omega) (by omega))
  have hBs := hid (v4.trans (bx.mono (by omega)))
  clear v1 v2 v3 v4 bx hDs0
  go_wp2_with fail
  rw [HP0.out]
  go_loopw [8] (fun i wr => ∃ k : Nat, k ≤ m ∧ i = .int .i64 ((k : Int) + 1) ∧ Row wr (w.heap.size + 1) 70 (pto zs js turn k) ∧ Row wr w1.heap.size 65 [.int .u8 e0, .int .u8 e1, .int .u8 e2, .int .u8 e3, .int .u8 e4, .int .u8 e5, .int .u8 e6, .int .u8 e7] ∧ Row wr w.heap.size 70 [.int .i64 0, .int .i64 0, .int .i64 0, .int .i64 0, .int .i64 0, .int .i64 0, .int .i64 0, .int .i64 0] ∧ MoAt wr B b n cap g m cap' zs js ∧ Below w.heap.size w wr) (fun i _ => m + 1 - (intOf i).toNat)
  case atStart => exact ⟨0, Nat.zero_le _, rfl, hPs.out, hDs.out, hRs.out, hMs.out, hBs.out⟩
  case round =>
    obtain ⟨k, hk, rfl, hP, hD, hR, hM, hB⟩ := hrel
    have HP := hid hP; have HDD := hid hD; have HR := hid hR; have HM := hid hM
    have hlp := hP.lt; have hld := hD.lt
    have hzw := hB.size
    obtain ⟨m0, m1⟩ := hM.cells
    clear hP hD hR hM p0 f0 cz l1 l3 l4 l5 l6 l7 tm tm0 tm1 wz t0 hzm hz0 tt1 tt2
    by_cases hlt : k < m
    · have hkj : k < js.length := by rw [← MM.out]; exact hlt
      have hkz : k < zs.length := by have := HL.out; omega
      have hk1 : k + 1 < zs.length := by have := HL.out; omega
      have cP := (HP.out.cell k).trans (pto_get zs js turn k (by omega))
      have cD := (HDD.out.cell (k + 1)).trans (oct_get e0 e1 e2 e3 e4 e5 e6 e7 (k + 1) (by omega))
      have pb := hpb.out k hkz
      have oj := hjj.out k hkj
      have zb := HIN.out k hkz
      have bbd := beyJ_bd oj zb pb
      have HX := hid (HBY.out k (pL zs js turn k) wr.drew (show MoAt wr.drew B b n cap g m cap' zs js from HM.out) hkj hkz zb oj pb)
      have db := hDB.out (k + 1) (by omega)
      have hEk := hEE.out (k + 1) hk1
      obtain ⟨q, hq⟩ : ∃ q, q = pL zs js turn k := ⟨_, rfl⟩
      obtain ⟨bb, hbb⟩ : ∃ x, x = beyJ (jk js k) (jf js k) (pL zs js turn k) (zs[k]?.getD 0) := ⟨_, rfl⟩
      obtain ⟨dd, hdd⟩ : ∃ x, x = ([e0, e1, e2, e3, e4, e5, e6, e7] : List Int)[k + 1]?.getD 0 := ⟨_, rfl⟩
      rw [← hbb] at HX bbd
      rw [← hq] at HX cP
      rw [← hdd] at cD db hEk
      have HV := hid (show dd * 1000 + bb = pL zs js turn (k + 1) by rw [hEk, hbb]; rfl)
      have HQ := hid hq
      have hPk := hid (show (pto zs js turn k)[k]? = some (.int .i64 q) by rw [hq]; exact pto_get zs js turn k (by omega))
      clear hdd hbb hEk hq pb zb oj
      have fP := HP.out.frozen (k + 1)
      have e1 : (k : Int) + 1 - 1 = (k : Int) := by omega
      have k0 : (0 : Int) ≤ (k : Int) := by omega
      have k8 : (k : Int) + 1 < 8 := by omega
      have k7 : (k : Int) < 8 := by omega
      have w12 : IntKind.i64.wrap ((k : Int) + 1 - 1) = (k : Int) := by rw [e1]; exact IntWalk.i64_in _ (by omega)
      have w13 : IntKind.i64.wrap (k : Int) = (k : Int) := IntWalk.i64_in _ (by omega)
      have k1 : (0 : Int) ≤ (k : Int) + 1 := by omega
      have kt : ((k : Int) + 1).toNat = k + 1 := by omega
      have kd : decide ((k : Int) + 1 < 8) = true := by simp; omega
      have kn : (k : Int) + 1 < (n : Int) := by omega
      have hdec : decide ((k : Int) + 1 < (n : Int)) = true := by simp; omega
      have wd : IntKind.i64.wrap dd = dd := IntWalk.i64_in dd (by omega)
      have w10 : IntKind.i64.wrap (dd * 1000) = dd * 1000 := IntWalk.i64_in _ (by omega)
      have w11 : IntKind.i64.wrap (dd * 1000 + bb) = dd * 1000 + bb := IntWalk.i64_in _ (by omega)
      clear m1
      go_wp2_with fail
      clear hdec
      go_region_held3 (fun w' => w'.cell? ⟨w1.heap.size, k + 1, none⟩ = some (.int .u8 dd) ∧ w'.cell? ⟨w.heap.size + 1, k, none⟩ = some (.int .i64 q)) (first | with_reducible exact hq2 | with_reducible exact hq1 | exact ⟨cD, cP⟩) ((go_at_call 53; have hX := HX.out; refine hX.mono ?_; clear hX; rintro e w3 ⟨rfl, hB3⟩; simp only [World.size_drew] at hB3; have hz3 := hB3.size; simp only [World.size_drew] at hz3; have b3 := (Below.refl wr.heap.size wr).drew.trans hB3; have r3 := HP.out.below b3 hlp; have hq1 := And.intro ((hB3.cell (p := ⟨w1.heap.size, k + 1, none⟩) (by show w1.heap.size < _; omega)).trans cD) ((hB3.cell (p := ⟨w.heap.size + 1, k, none⟩) (by show w.heap.size + 1 < _; omega)).trans cP); have f3 := r3.frozen (k + 1); have o3 := (r3.cell (k + 1)).trans (List.getElem?_eq_getElem (by rw [pto_len]; omega)); have r4 := r3.set (k + 1) (.int .i64 (dd * 1000 + bb)); have hq2 := And.intro ((cell_apart (W := w3) (a := ⟨w.heap.size + 1, k + 1, none⟩) (p := ⟨w1.heap.size, k + 1, none⟩) (u := .int .i64 (dd * 1000 + bb)) (by show w1.heap.size ≠ w.heap.size + 1; omega)).trans hq1.1) ((r4.cell k).trans ((List.getElem?_set_ne (by omega)).trans hPk.out))))
      have r5 := r4
      rw [HV.out, pto_set zs js turn k (by omega)] at r5
      have R5 := hid r5
      have bS : Below (w.heap.size + 1) w3 (w3.setCell ⟨w.heap.size + 1, k + 1, none⟩ (.int .i64 (dd * 1000 + bb))) := (Below.refl _ w3).setCell (p := ⟨w.heap.size + 1, k + 1, none⟩) (Nat.le_refl _) _
      have D5 := hid ((HDD.out.below b3 hld).other (a := ⟨w.heap.size + 1, k + 1, none⟩) (by show w.heap.size + 1 ≠ w1.heap.size; omega) (.int .i64 (dd * 1000 + bb)))
      have Q5 := hid ((HR.out.below b3 (by omega)).other (a := ⟨w.heap.size + 1, k + 1, none⟩) (by show w.heap.size + 1 ≠ w.heap.size; omega) (.int .i64 (dd * 1000 + bb)))
      have M5 := hid ((HM.out.keep b3).below (k := w.heap.size + 1) bS (by omega) (by omega) (by omega))
      have B5 := hid ((hB.trans (b3.mono hzw)).setCell (p := ⟨w.heap.size + 1, k + 1, none⟩) (by show w.heap.size ≤ w.heap.size + 1; omega) (.int .i64 (dd * 1000 + bb)))
      clear r4 r5 bS hq1 hq2 f3 o3 r3
      rw [HV.out] at D5 Q5 M5 B5 ⊢
      go_wp2_with fail
      go_roundw
      case rel => exact ⟨k + 1, by omega, by go_num, R5.out, D5.out, Q5.out, M5.out, B5.out⟩
      case measure => simp [intOf]; omega
    · obtain rfl : k = m := by omega
      have hkn : k = zs.length - 1 := by have := HL.out; have := MM.out; omega
      have hPf := HP.out
      rw [hkn, pto_all (by have := N.out; omega), partsL_list] at hPf
      have HPF := hid hPf
      clear hPf hkn
      have q8 := HPF.out
      have z8 := HR.out
      have p0 := q8.cell 0; have p1 := q8.cell 1; have p2 := q8.cell 2; have p3 := q8.cell 3; have p4 := q8.cell 4; have p5 := q8.cell 5; have p6 := q8.cell 6; have p7 := q8.cell 7
      have g0 := z8.cell 0; have k0 := z8.frozen 0; have g1 := z8.cell 1; have k1 := z8.frozen 1; have g2 := z8.cell 2; have k2 := z8.frozen 2; have g3 := z8.cell 3; have k3 := z8.frozen 3; have g4 := z8.cell 4; have k4 := z8.frozen 4; have g5 := z8.cell 5; have k5 := z8.frozen 5; have g6 := z8.cell 6; have k6 := z8.frozen 6; have g7 := z8.cell 7; have k7 := z8.frozen 7
      simp only [List.getElem?_cons_zero, List.getElem?_cons_succ] at p0 p1 p2 p3 p4 p5 p6 p7 g0 g1 g2 g3 g4 g5 g6 g7
      have r2 := hid (z8.set8 rfl (.int .i64 (dg (partsL zs js turn) 0)) (.int .i64 (dg (partsL zs js turn) 1)) (.int .i64 (dg (partsL zs js turn) 2)) (.int .i64 (dg (partsL zs js turn) 3)) (.int .i64 (dg (partsL zs js turn) 4)) (.int .i64 (dg (partsL zs js turn) 5)) (.int .i64 (dg (partsL zs js turn) 6)) (.int .i64 (dg (partsL zs js turn) 7)))
      have b2 := hid (below_set8 (g := w.heap.size) hB (Nat.le_refl _) (.int .i64 (dg (partsL zs js turn) 0)) (.int .i64 (dg (partsL zs js turn) 1)) (.int .i64 (dg (partsL zs js turn) 2)) (.int .i64 (dg (partsL zs js turn) 3)) (.int .i64 (dg (partsL zs js turn) 4)) (.int .i64 (dg (partsL zs js turn) 5)) (.int .i64 (dg (partsL zs js turn) 6)) (.int .i64 (dg (partsL zs js turn) 7)))
      clear q8 z8
      have hge : (n : Int) ≤ (k : Int) + 1 := by omega
      have hdec : decide ((k : Int) + 1 < (n : Int)) = false := by simp; omega
      clear m1 hBl hbl hgl hlp hld hzw hn8 hn1 hmn hmn2 hk hlt
      go_wp2_with fail
      clear p0 p1 p2 p3 p4 p5 p6 p7 g0 g1 g2 g3 g4 g5 g6 g7 k0 k1 k2 k3 k4 k5 k6 k7
      obtain ⟨W, hW⟩ : ∃ W, W = ((((((((wr.setCell ⟨w.heap.size, 0, none⟩ (.int .i64 (dg (partsL zs js turn) 0))).setCell ⟨w.heap.size, 1, none⟩ (.int .i64 (dg (partsL zs js turn) 1))).setCell ⟨w.heap.size, 2, none⟩ (.int .i64 (dg (partsL zs js turn) 2))).setCell ⟨w.heap.size, 3, none⟩ (.int .i64 (dg (partsL zs js turn) 3))).setCell ⟨w.heap.size, 4, none⟩ (.int .i64 (dg (partsL zs js turn) 4))).setCell ⟨w.heap.size, 5, none⟩ (.int .i64 (dg (partsL zs js turn) 5))).setCell ⟨w.heap.size, 6, none⟩ (.int .i64 (dg (partsL zs js turn) 6))).setCell ⟨w.heap.size, 7, none⟩ (.int .i64 (dg (partsL zs js turn) 7))) := ⟨_, rfl⟩
      rw [← hW] at r2 b2 ⊢
      clear hW
      have r2 := r2.out
      have g0 := r2.cell 0; have g1 := r2.cell 1; have g2 := r2.cell 2; have g3 := r2.cell 3; have g4 := r2.cell 4; have g5 := r2.cell 5; have g6 := r2.cell 6; have g7 := r2.cell 7
      simp only [List.getElem?_cons_zero, List.getElem?_cons_succ] at g0 g1 g2 g3 g4 g5 g6 g7
      exact bodyPost_ret (v := .agg #[.int .i64 (dg (partsL zs js turn) 0), .int .i64 (dg (partsL zs js turn) 1), .int .i64 (dg (partsL zs js turn) 2), .int .i64 (dg (partsL zs js turn) 3), .int .i64 (dg (partsL zs js turn) 4), .int .i64 (dg (partsL zs js turn) 5), .int .i64 (dg (partsL zs js turn) 6), .int .i64 (dg (partsL zs js turn) 7)]) (by simp [results, Try.results35, go_sem, g0, g1, g2, g3, g4, g5, g6, g7]) rfl ⟨rfl, b2.out⟩
end Go.Proofs.Ytomhmkdfhhmenaa
