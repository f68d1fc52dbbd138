/- The law on counts: FnCounts. -/
import Derived.Test.YtigiegdkfgjmcaaCuF
import Derived.Test.YtigiegdkfgjmcaaCuQ
import Derived.Test.YtigiegdkfgjmcaaDrn
namespace Go.Proofs.Ytigiegdkfgjmcaa
open Go.RowKit
set_option linter.unusedVariables false
set_option linter.unusedSimpArgs false
theorem div_bd {x z C : Int} (hz : 1 ≤ z) (hc : 0 ≤ C) (h : -C ≤ x ∧ x ≤ C) : -C ≤ x / z ∧ x / z ≤ C := by
  have e := Int.mul_ediv_add_emod x z
  have r0 := Int.emod_nonneg x (show z ≠ 0 by omega)
  have r1 := Int.emod_lt_of_pos x (show 0 < z by omega)
  constructor
  · apply Int.le_ediv_of_mul_le (by omega)
    have : C * 1 ≤ C * z := Int.mul_le_mul_of_nonneg_left hz hc
    rw [Int.neg_mul]
    omega
  · by_cases h0 : 0 ≤ x
    · exact Int.le_trans (Int.ediv_le_self z h0) h.2
    · have := Int.ediv_neg_of_neg_of_pos (show x < 0 by omega) (show 0 < z by omega)
      omega
theorem mg_bd {Z : List Int} {v a : Int} {k : Nat} (hi : inB Z Z.length) (h8 : Z.length ≤ 8) (hk : k < Z.length) (hv : 0 ≤ v ∧ v ≤ 1000000000) (ha : -1000000 ≤ a ∧ a ≤ 1000000) : -5000000000 ≤ mg (mvL Z v a) k ∧ mg (mvL Z v a) k ≤ 5000000000 := by
  have e := mvL_get Z v a k (by omega)
  rw [if_pos hk] at e
  have hp := szL_pos Z k (by omega) hi
  unfold mg
  rw [e]
  unfold mvK
  have h1 := div_bd (x := v + a) hp (show (0 : Int) ≤ 2000000000 by omega) (by omega)
  have h2 := div_bd (x := v) hp (show (0 : Int) ≤ 2000000000 by omega) (by omega)
  omega
theorem row_dgC {w : World} {g : Nat} {T : TypeId} {l : List Int} (h : Row w g T [.int .u8 (dg l 0), .int .u8 (dg l 1), .int .u8 (dg l 2), .int .u8 (dg l 3), .int .u8 (dg l 4), .int .u8 (dg l 5), .int .u8 (dg l 6), .int .u8 (dg l 7)]) (k : Nat) (hk : k < 8) : w.cell? ⟨g, k, none⟩ = some (.int .u8 (dg l k)) := by
  rw [h.cell k]
  match k, hk with
  | 0, _ => rfl
  | 1, _ => rfl
  | 2, _ => rfl
  | 3, _ => rfl
  | 4, _ => rfl
  | 5, _ => rfl
  | 6, _ => rfl
  | 7, _ => rfl
theorem row_mgC {w : World} {g : Nat} {T : TypeId} {l : List Int} (h : Row w g T [.int .i64 (mg l 0), .int .i64 (mg l 1), .int .i64 (mg l 2), .int .i64 (mg l 3), .int .i64 (mg l 4), .int .i64 (mg l 5), .int .i64 (mg l 6), .int .i64 (mg l 7)]) (k : Nat) (hk : k < 8) : w.cell? ⟨g, k, none⟩ = some (.int .i64 (mg l k)) := by
  rw [h.cell k]
  match k, hk with
  | 0, _ => rfl
  | 1, _ => rfl
  | 2, _ => rfl
  | 3, _ => rfl
  | 4, _ => rfl
  | 5, _ => rfl
  | 6, _ => rfl
  | 7, _ => rfl
set_option maxRecDepth 100000 in
set_option maxHeartbeats 16000000 in
theorem law_FnCounts_in (a : Option Addr) (len cap : Nat) (zs : List Int) (a' : Option Addr) (len' cap' : Nat) (zs' : List Int) (w : World) (h : InB w a len zs) (h' : InB w a' len' zs') (hl : len ≤ 4096) (hl' : len' ≤ 4096) :
    Calls Try.prog 3 #[.slice a len cap, .slice a' len' cap'] w fun e w' => e = .returned (.bool true) ∧ Below w.heap.size w w' := by
  have H1 := hid h; have H2 := hid h'
  have F1 := hid (f6big_no a len cap w hl); have F2 := hid (f6big_no a' len' cap' w hl')
  have PS := hid (p6Stack_any a len cap zs w h hl)
  have PV := hid (fun B n cp Z W (hI : InB W a' len' zs') (hk : Stk W B Z) hn ho => p6Value_any a' len' cap' zs' B n cp Z W hI hl' hk hn ho)
  have PA := hid (fun (n : Int) (W : World) (hI : InB W a len zs) (hn : n ≤ 4611686018427387904) => p6Pick_any a len cap zs n W hI hl hn)
  have PB := hid (fun (n : Int) (W : World) (hI : InB W a' len' zs') (hn : n ≤ 4611686018427387904) => p6Pick_any a' len' cap' zs' n W hI hl' hn)
  clear h h' hl hl'
  go_enter Try.func3, Try.ntmps3
  go_wp2_with fail
  refine F1.out.mono ?_
  rintro e w1 ⟨rfl, hw⟩
  subst hw
  go_wp2_with fail
  refine F2.out.mono ?_
  rintro e w2 ⟨rfl, hw⟩
  subst hw
  go_wp2_with fail
  with_reducible refine PS.out.mono ?_
  rintro e w1 ⟨B, cp, Z, rfl, hn1, hn4, hcp, hok, hst, hBg, hB⟩
  obtain ⟨n, hn⟩ : ∃ n, Z.length = n := ⟨_, rfl⟩
  have HN := hid hn; have HST := hid hst; have B0 := hid hB; have HOK := hid hok; have HLT := hid hst.1
  rw [hn] at hn1 hn4 hcp ⊢
  have HNB := hid (And.intro hn1 hn4); have HCP := hid hcp
  have Q0 := hid (Below.refl w1.heap.size w1)
  clear hn1 hn4 hcp hok hst hBg hB hn PS F1 F2
  go_wp2_with fail
  with_reducible refine (PV.out B n cp Z w1 (H2.out.below B0.out (Nat.le_refl _)) HST.out HN.out.symm HOK.out).mono ?_
  rintro e w2 ⟨v, hv, rfl, hB⟩
  have HVV := hid hv; have Q1 := hid (Q0.out.trans (hB.mono Q0.out.size))
  obtain ⟨D, hD⟩ : ∃ D, dgL Z v = D := ⟨_, rfl⟩
  have HD := hid hD
  have DO := hid (fun W s => cu_dof_s B n cp Z HN.out.symm HCP.out HOK.out.1 v HVV.out W s)
  rw [hD] at DO
  clear hv hB hD PV
  go_wp2_with fail
  with_reducible refine (DO.out w2 (HST.out.below Q1.out HLT.out)).mono ?_
  rintro e w3 ⟨rfl, hB⟩
  have Q2 := hid (Q1.out.trans (hB.mono Q1.out.size))
  clear hB DO
  have rr := Row.new w3 28 [.int .u8 (dg D 0), .int .u8 (dg D 1), .int .u8 (dg D 2), .int .u8 (dg D 3), .int .u8 (dg D 4), .int .u8 (dg D 5), .int .u8 (dg D 6), .int .u8 (dg D 7)]
  have aa : Below w3.heap.size w3 (w3.alloc (.cells #[.int .u8 (dg D 0), .int .u8 (dg D 1), .int .u8 (dg D 2), .int .u8 (dg D 3), .int .u8 (dg D 4), .int .u8 (dg D 5), .int .u8 (dg D 6), .int .u8 (dg D 7)] 28)) := (Below.refl _ _).alloc (Nat.le_refl _) _
  obtain ⟨Gd, hGd⟩ : ∃ y, w3.heap.size = y := ⟨_, rfl⟩
  obtain ⟨V11, hV11⟩ : ∃ X, X = w3.alloc (.cells #[.int .u8 (dg D 0), .int .u8 (dg D 1), .int .u8 (dg D 2), .int .u8 (dg D 3), .int .u8 (dg D 4), .int .u8 (dg D 5), .int .u8 (dg D 6), .int .u8 (dg D 7)] 28) := ⟨_, rfl⟩
  rw [← hV11] at rr aa
  rw [hGd] at rr
  have Q12 := hid (Q2.out.trans (aa.mono Q2.out.size))
  have HRd := hid rr; have HVV11 := hid hV11; have HGd := hid hGd
  clear rr aa hV11 hGd
  go_upto_region 6 with fail
  rw [← HVV11.out, HGd.out]
  clear HVV11 HGd
  go_wp2_with fail
  with_reducible refine (PA.out 5000 V11 (H1.out.below (B0.out.trans (Q12.out.mono B0.out.size)) (Nat.le_refl _)) (by omega)).mono ?_
  rintro e w13 ⟨xa, xa0, xa1, rfl, hB⟩
  have HRd := hid (HRd.out.below hB HRd.out.lt)
  have Q14 := hid (Q12.out.trans (hB.mono Q12.out.size))
  clear hB
  have wa : IntKind.i64.wrap (xa - 2500) = xa - 2500 := IntWalk.i64_in _ (by omega)
  obtain ⟨ca, hca⟩ : ∃ y, xa - 2500 = y := ⟨_, rfl⟩
  rw [hca] at wa
  have HCA := hid (show -2500 ≤ ca ∧ ca ≤ 2500 by omega)
  clear xa0 xa1
  go_wp2_with fail
  with_reducible refine (PB.out 5000 w13 (H2.out.below (B0.out.trans (Q14.out.mono B0.out.size)) (Nat.le_refl _)) (by omega)).mono ?_
  rintro e w15 ⟨xb, xb0, xb1, rfl, hB⟩
  have HRd := hid (HRd.out.below hB HRd.out.lt)
  have Q16 := hid (Q14.out.trans (hB.mono Q14.out.size))
  clear hB
  have wb : IntKind.i64.wrap (xb - 2500) = xb - 2500 := IntWalk.i64_in _ (by omega)
  obtain ⟨cb, hcb⟩ : ∃ y, xb - 2500 = y := ⟨_, rfl⟩
  rw [hcb] at wb
  have HCB := hid (show -2500 ≤ cb ∧ cb ≤ 2500 by omega)
  have wab : IntKind.i64.wrap (ca + cb) = ca + cb := IntWalk.i64_in _ (by have h1 := HCA.out; have h2 := HCB.out; omega)
  clear xb0 xb1
  -- what the calls give
  obtain ⟨z, hz⟩ : ∃ z, szL Z = z := ⟨_, rfl⟩
  have hok := HOK.out
  have hvv := HVV.out
  have hcA := HCA.out; have hcB := HCB.out
  obtain ⟨u1, u2, hin, hs1, u5⟩ := okL_out hok.1
  have hu : 0 ≤ (v + ca) % szL Z ∧ (v + ca) % szL Z < szL Z := ⟨Int.emod_nonneg _ (by omega), Int.emod_lt_of_pos _ (by omega)⟩
  obtain ⟨t1, t2⟩ := add_two (v := v) (a := ca) (b := cb) (show 1 ≤ szL Z by omega)
  obtain ⟨u, hue⟩ : ∃ u, (v + ca) % szL Z = u := ⟨_, rfl⟩
  rw [hue] at hu t1 t2
  have ib := div_bd (x := v + ca) (show 1 ≤ szL Z by omega) (show (0 : Int) ≤ 200000000 by omega) (by omega)
  have nb := div_bd (x := v + (ca + cb)) (show 1 ≤ szL Z by omega) (show (0 : Int) ≤ 200000000 by omega) (by omega)
  obtain ⟨i, hi⟩ : ∃ i, (v + ca) / szL Z = i := ⟨_, rfl⟩
  obtain ⟨nn, hnn⟩ : ∃ i, (v + (ca + cb)) / szL Z = i := ⟨_, rfl⟩
  rw [hi] at ib t2
  rw [hnn] at nb t2
  obtain ⟨K, hK⟩ : ∃ K, nn - i = K := ⟨_, rfl⟩
  rw [hK] at t2
  have wK : IntKind.i64.wrap (nn - i) = K := (IntWalk.i64_in _ (by omega)).trans hK
  obtain ⟨E, hE⟩ : ∃ E, dgL Z u = E := ⟨_, rfl⟩
  obtain ⟨F, hF⟩ : ∃ F, dgL Z ((v + (ca + cb)) % szL Z) = F := ⟨_, rfl⟩
  have AD1i := hid (fun W s => cu_add_i B n cp Z HN.out.symm HCP.out hok.1 v hvv ca (by omega) W s)
  have AD1s := hid (fun W s => cu_add_s B n cp Z HN.out.symm HCP.out hok.1 v hvv ca (by omega) W s)
  have AD2 := hid (fun W s => cu_add_i B n cp Z HN.out.symm HCP.out hok.1 u hu cb (by omega) W s)
  have AD3i := hid (fun W s => cu_add_i B n cp Z HN.out.symm HCP.out hok.1 v hvv (ca + cb) (by omega) W s)
  have AD3s := hid (fun W s => cu_add_s B n cp Z HN.out.symm HCP.out hok.1 v hvv (ca + cb) (by omega) W s)
  rw [HD.out, hue, hE, hi] at AD1i AD1s
  rw [t1, t2, hE, hF] at AD2
  rw [HD.out, hF, hnn] at AD3i AD3s
  have MVi := hid (fun W s => cu_mov_i B n cp Z HN.out.symm HCP.out hok.1 v hvv ca (by omega) W s)
  have MVs := hid (fun W s => cu_mov_s B n cp Z HN.out.symm HCP.out hok.1 v hvv ca (by omega) W s)
  have m0 := mv_zero (zs := Z) (v := v) (a := ca) (by omega)
  have HMB := hid (fun k (hk : k < Z.length) => mg_bd (Z := Z) (v := v) (a := ca) hin u2 hk (by omega) (by omega))
  have HMV := hid (fun k (hk : k < Z.length) => mv_dig (zs := Z) (v := v) (a := ca) hin u2 hk)
  rw [hue, hE, HD.out] at HMV
  obtain ⟨M, hM⟩ : ∃ M, mvL Z v ca = M := ⟨_, rfl⟩
  rw [HD.out, hM] at MVi MVs
  rw [hM] at m0 HMB HMV
  have HM0 := hid m0
  clear m0
  have SZ := hid (fun W s => cu_siz_s B n cp Z HN.out.symm HCP.out hok.1 v hvv W s)
  obtain ⟨g1, g2, hway, hg1, hg2, gb1, gb2⟩ := way_of hok.1 hvv hu
  rw [HN.out] at hway
  have WYi := hid (fun W s => cu_way_i B n cp Z HN.out.symm HCP.out hok.1 v hvv u g1 g2 hway W s)
  have WYs := hid (fun W s => cu_way_s B n cp Z HN.out.symm HCP.out hok.1 v hvv u g1 g2 hway W s)
  rw [HD.out, hE] at WYi WYs
  have AD4 := hid (fun W s => cu_add_i B n cp Z HN.out.symm HCP.out hok.1 v hvv g1 (by omega) W s)
  have AD5 := hid (fun W s => cu_add_i B n cp Z HN.out.symm HCP.out hok.1 v hvv g2 (by omega) W s)
  rw [HD.out, hg1, hE] at AD4
  rw [HD.out, hg2, hE] at AD5
  obtain ⟨c, hcmp, hc1, hc2⟩ := cmp_of hok.1 hvv hu
  rw [HN.out] at hcmp
  have CP := hid (fun W s => cu_cmp_i B n cp Z HN.out.symm HCP.out hok.1 v hvv u c hcmp W s)
  rw [HD.out, hE] at CP
  have VL := hid (fun W s => cu_val_s B n cp Z HN.out.symm HCP.out hok.1 u hu W s)
  rw [hE] at VL
  have HZ := hid hz; have HIN := hid hin
  rw [hz] at SZ gb1 gb2
  have HGB := hid (And.intro gb1 gb2); have HCC := hid (And.intro hc1 hc2)
  have neE : ∀ w, Sem.run Try.prog (binOp .neq 28 (.agg #[.int .u8 (dg E 0), .int .u8 (dg E 1), .int .u8 (dg E 2), .int .u8 (dg E 3), .int .u8 (dg E 4), .int .u8 (dg E 5), .int .u8 (dg E 6), .int .u8 (dg E 7)]) (.agg #[.int .u8 (dg E 0), .int .u8 (dg E 1), .int .u8 (dg E 2), .int .u8 (dg E 3), .int .u8 (dg E 4), .int .u8 (dg E 5), .int .u8 (dg E 6), .int .u8 (dg E 7)])) w = .ok (.bool false) w := fun w => neq_dig _ _ _ _ _ _ _ _ w
  have neF : ∀ w, Sem.run Try.prog (binOp .neq 28 (.agg #[.int .u8 (dg F 0), .int .u8 (dg F 1), .int .u8 (dg F 2), .int .u8 (dg F 3), .int .u8 (dg F 4), .int .u8 (dg F 5), .int .u8 (dg F 6), .int .u8 (dg F 7)]) (.agg #[.int .u8 (dg F 0), .int .u8 (dg F 1), .int .u8 (dg F 2), .int .u8 (dg F 3), .int .u8 (dg F 4), .int .u8 (dg F 5), .int .u8 (dg F 6), .int .u8 (dg F 7)])) w = .ok (.bool false) w := fun w => neq_dig _ _ _ _ _ _ _ _ w
  have neM : ∀ w, Sem.run Try.prog (binOp .neq 34 (.agg #[.int .i64 (mg M 0), .int .i64 (mg M 1), .int .i64 (mg M 2), .int .i64 (mg M 3), .int .i64 (mg M 4), .int .i64 (mg M 5), .int .i64 (mg M 6), .int .i64 (mg M 7)]) (.agg #[.int .i64 (mg M 0), .int .i64 (mg M 1), .int .i64 (mg M 2), .int .i64 (mg M 3), .int .i64 (mg M 4), .int .i64 (mg M 5), .int .i64 (mg M 6), .int .i64 (mg M 7)])) w = .ok (.bool false) w := fun w => neq_i8 _ _ _ _ _ _ _ _ w
  have HZB := hid (show 1 ≤ z ∧ z ≤ 100000000 by omega); have HVB := hid (show 0 ≤ v ∧ v < z by omega)
  have HIB := hid (And.intro ib nb)
  clear hz hok hvv hcA hcB u1 u2 hin hs1 u5 hu t1 t2 hue ib nb hi hnn hK hE hF hM hway hg1 hg2 gb1 gb2 hcmp hc1 hc2
  have d0 := HRd.out.cell 0; have d1 := HRd.out.cell 1; have d2 := HRd.out.cell 2; have d3 := HRd.out.cell 3; have d4 := HRd.out.cell 4; have d5 := HRd.out.cell 5; have d6 := HRd.out.cell 6; have d7 := HRd.out.cell 7
  simp only [List.getElem?_cons_zero, List.getElem?_cons_succ] at d0 d1 d2 d3 d4 d5 d6 d7
  go_wp2_with fail
  with_reducible refine (AD1i.out w15 (HST.out.below Q16.out HLT.out)).mono ?_
  rintro e w17 ⟨rfl, hB⟩
  clear d0 d1 d2 d3 d4 d5 d6 d7
  have HRd := hid (HRd.out.below hB HRd.out.lt)
  have Q18 := hid (Q16.out.trans (hB.mono Q16.out.size))
  clear hB
  have rr := Row.new w17 28 [.int .u8 (dg E 0), .int .u8 (dg E 1), .int .u8 (dg E 2), .int .u8 (dg E 3), .int .u8 (dg E 4), .int .u8 (dg E 5), .int .u8 (dg E 6), .int .u8 (dg E 7)]
  have aa : Below w17.heap.size w17 (w17.alloc (.cells #[.int .u8 (dg E 0), .int .u8 (dg E 1), .int .u8 (dg E 2), .int .u8 (dg E 3), .int .u8 (dg E 4), .int .u8 (dg E 5), .int .u8 (dg E 6), .int .u8 (dg E 7)] 28)) := (Below.refl _ _).alloc (Nat.le_refl _) _
  obtain ⟨Gx, hGx⟩ : ∃ y, w17.heap.size = y := ⟨_, rfl⟩
  obtain ⟨V19, hV19⟩ : ∃ X, X = w17.alloc (.cells #[.int .u8 (dg E 0), .int .u8 (dg E 1), .int .u8 (dg E 2), .int .u8 (dg E 3), .int .u8 (dg E 4), .int .u8 (dg E 5), .int .u8 (dg E 6), .int .u8 (dg E 7)] 28) := ⟨_, rfl⟩
  rw [← hV19] at rr aa
  rw [hGx] at rr
  have HRd := hid (HRd.out.below aa HRd.out.lt)
  have Q20 := hid (Q18.out.trans (aa.mono Q18.out.size))
  have HRx := hid rr; have HVV19 := hid hV19; have HGx := hid hGx
  clear rr aa hV19 hGx
  go_upto_region 9 with fail
  rw [← HVV19.out, HGx.out]
  clear HVV19 HGx
  have d0 := HRd.out.cell 0; have d1 := HRd.out.cell 1; have d2 := HRd.out.cell 2; have d3 := HRd.out.cell 3; have d4 := HRd.out.cell 4; have d5 := HRd.out.cell 5; have d6 := HRd.out.cell 6; have d7 := HRd.out.cell 7
  simp only [List.getElem?_cons_zero, List.getElem?_cons_succ] at d0 d1 d2 d3 d4 d5 d6 d7
  go_wp2_with fail
  with_reducible refine (AD1s.out V19 (HST.out.below Q20.out HLT.out)).mono ?_
  rintro e w21 ⟨rfl, hB⟩
  clear d0 d1 d2 d3 d4 d5 d6 d7
  have HRd := hid (HRd.out.below hB HRd.out.lt)
  have HRx := hid (HRx.out.below hB HRx.out.lt)
  have Q22 := hid (Q20.out.trans (hB.mono Q20.out.size))
  clear hB
  have rr := Row.new w21 28 [.int .u8 (dg E 0), .int .u8 (dg E 1), .int .u8 (dg E 2), .int .u8 (dg E 3), .int .u8 (dg E 4), .int .u8 (dg E 5), .int .u8 (dg E 6), .int .u8 (dg E 7)]
  have aa : Below w21.heap.size w21 (w21.alloc (.cells #[.int .u8 (dg E 0), .int .u8 (dg E 1), .int .u8 (dg E 2), .int .u8 (dg E 3), .int .u8 (dg E 4), .int .u8 (dg E 5), .int .u8 (dg E 6), .int .u8 (dg E 7)] 28)) := (Below.refl _ _).alloc (Nat.le_refl _) _
  obtain ⟨Ge, hGe⟩ : ∃ y, w21.heap.size = y := ⟨_, rfl⟩
  obtain ⟨V23, hV23⟩ : ∃ X, X = w21.alloc (.cells #[.int .u8 (dg E 0), .int .u8 (dg E 1), .int .u8 (dg E 2), .int .u8 (dg E 3), .int .u8 (dg E 4), .int .u8 (dg E 5), .int .u8 (dg E 6), .int .u8 (dg E 7)] 28) := ⟨_, rfl⟩
  rw [← hV23] at rr aa
  rw [hGe] at rr
  have HRd := hid (HRd.out.below aa HRd.out.lt)
  have HRx := hid (HRx.out.below aa HRx.out.lt)
  have Q24 := hid (Q22.out.trans (aa.mono Q22.out.size))
  have HRe := hid rr; have HVV23 := hid hV23; have HGe := hid hGe
  clear rr aa hV23 hGe
  go_upto_region 10 with fail
  rw [← HVV23.out, HGe.out]
  clear HVV23 HGe
  have e0 := HRe.out.cell 0; have e1 := HRe.out.cell 1; have e2 := HRe.out.cell 2; have e3 := HRe.out.cell 3; have e4 := HRe.out.cell 4; have e5 := HRe.out.cell 5; have e6 := HRe.out.cell 6; have e7 := HRe.out.cell 7
  simp only [List.getElem?_cons_zero, List.getElem?_cons_succ] at e0 e1 e2 e3 e4 e5 e6 e7
  go_wp2_with fail
  with_reducible refine (AD2.out V23 (HST.out.below Q24.out HLT.out)).mono ?_
  rintro e w25 ⟨rfl, hB⟩
  clear e0 e1 e2 e3 e4 e5 e6 e7
  have HRd := hid (HRd.out.below hB HRd.out.lt)
  have HRx := hid (HRx.out.below hB HRx.out.lt)
  have HRe := hid (HRe.out.below hB HRe.out.lt)
  have Q26 := hid (Q24.out.trans (hB.mono Q24.out.size))
  clear hB
  have rr := Row.new w25 28 [.int .u8 (dg F 0), .int .u8 (dg F 1), .int .u8 (dg F 2), .int .u8 (dg F 3), .int .u8 (dg F 4), .int .u8 (dg F 5), .int .u8 (dg F 6), .int .u8 (dg F 7)]
  have aa : Below w25.heap.size w25 (w25.alloc (.cells #[.int .u8 (dg F 0), .int .u8 (dg F 1), .int .u8 (dg F 2), .int .u8 (dg F 3), .int .u8 (dg F 4), .int .u8 (dg F 5), .int .u8 (dg F 6), .int .u8 (dg F 7)] 28)) := (Below.refl _ _).alloc (Nat.le_refl _) _
  obtain ⟨Gy, hGy⟩ : ∃ y, w25.heap.size = y := ⟨_, rfl⟩
  obtain ⟨V27, hV27⟩ : ∃ X, X = w25.alloc (.cells #[.int .u8 (dg F 0), .int .u8 (dg F 1), .int .u8 (dg F 2), .int .u8 (dg F 3), .int .u8 (dg F 4), .int .u8 (dg F 5), .int .u8 (dg F 6), .int .u8 (dg F 7)] 28) := ⟨_, rfl⟩
  rw [← hV27] at rr aa
  rw [hGy] at rr
  have HRd := hid (HRd.out.below aa HRd.out.lt)
  have HRx := hid (HRx.out.below aa HRx.out.lt)
  have HRe := hid (HRe.out.below aa HRe.out.lt)
  have Q28 := hid (Q26.out.trans (aa.mono Q26.out.size))
  have HRy := hid rr; have HVV27 := hid hV27; have HGy := hid hGy
  clear rr aa hV27 hGy
  go_upto_region 11 with fail
  rw [← HVV27.out, HGy.out]
  clear HVV27 HGy
  have d0 := HRd.out.cell 0; have d1 := HRd.out.cell 1; have d2 := HRd.out.cell 2; have d3 := HRd.out.cell 3; have d4 := HRd.out.cell 4; have d5 := HRd.out.cell 5; have d6 := HRd.out.cell 6; have d7 := HRd.out.cell 7
  simp only [List.getElem?_cons_zero, List.getElem?_cons_succ] at d0 d1 d2 d3 d4 d5 d6 d7
  go_wp2_with fail
  with_reducible refine (AD3i.out V27 (HST.out.below Q28.out HLT.out)).mono ?_
  rintro e w29 ⟨rfl, hB⟩
  clear d0 d1 d2 d3 d4 d5 d6 d7
  have HRd := hid (HRd.out.below hB HRd.out.lt)
  have HRx := hid (HRx.out.below hB HRx.out.lt)
  have HRe := hid (HRe.out.below hB HRe.out.lt)
  have HRy := hid (HRy.out.below hB HRy.out.lt)
  have Q30 := hid (Q28.out.trans (hB.mono Q28.out.size))
  clear hB
  have rr := Row.new w29 28 [.int .u8 (dg F 0), .int .u8 (dg F 1), .int .u8 (dg F 2), .int .u8 (dg F 3), .int .u8 (dg F 4), .int .u8 (dg F 5), .int .u8 (dg F 6), .int .u8 (dg F 7)]
  have aa : Below w29.heap.size w29 (w29.alloc (.cells #[.int .u8 (dg F 0), .int .u8 (dg F 1), .int .u8 (dg F 2), .int .u8 (dg F 3), .int .u8 (dg F 4), .int .u8 (dg F 5), .int .u8 (dg F 6), .int .u8 (dg F 7)] 28)) := (Below.refl _ _).alloc (Nat.le_refl _) _
  obtain ⟨Gk, hGk⟩ : ∃ y, w29.heap.size = y := ⟨_, rfl⟩
  obtain ⟨V31, hV31⟩ : ∃ X, X = w29.alloc (.cells #[.int .u8 (dg F 0), .int .u8 (dg F 1), .int .u8 (dg F 2), .int .u8 (dg F 3), .int .u8 (dg F 4), .int .u8 (dg F 5), .int .u8 (dg F 6), .int .u8 (dg F 7)] 28) := ⟨_, rfl⟩
  rw [← hV31] at rr aa
  rw [hGk] at rr
  have HRd := hid (HRd.out.below aa HRd.out.lt)
  have HRx := hid (HRx.out.below aa HRx.out.lt)
  have HRe := hid (HRe.out.below aa HRe.out.lt)
  have HRy := hid (HRy.out.below aa HRy.out.lt)
  have Q32 := hid (Q30.out.trans (aa.mono Q30.out.size))
  have HRk := hid rr; have HVV31 := hid hV31; have HGk := hid hGk
  clear rr aa hV31 hGk
  go_upto_region 12 with fail
  rw [← HVV31.out, HGk.out]
  clear HVV31 HGk
  have d0 := HRd.out.cell 0; have d1 := HRd.out.cell 1; have d2 := HRd.out.cell 2; have d3 := HRd.out.cell 3; have d4 := HRd.out.cell 4; have d5 := HRd.out.cell 5; have d6 := HRd.out.cell 6; have d7 := HRd.out.cell 7
  simp only [List.getElem?_cons_zero, List.getElem?_cons_succ] at d0 d1 d2 d3 d4 d5 d6 d7
  go_wp2_with fail
  with_reducible refine (AD3s.out V31 (HST.out.below Q32.out HLT.out)).mono ?_
  rintro e w33 ⟨rfl, hB⟩
  clear d0 d1 d2 d3 d4 d5 d6 d7
  have HRd := hid (HRd.out.below hB HRd.out.lt)
  have HRx := hid (HRx.out.below hB HRx.out.lt)
  have HRe := hid (HRe.out.below hB HRe.out.lt)
  have HRy := hid (HRy.out.below hB HRy.out.lt)
  have HRk := hid (HRk.out.below hB HRk.out.lt)
  have Q34 := hid (Q32.out.trans (hB.mono Q32.out.size))
  clear hB
  have rr := Row.new w33 28 [.int .u8 (dg F 0), .int .u8 (dg F 1), .int .u8 (dg F 2), .int .u8 (dg F 3), .int .u8 (dg F 4), .int .u8 (dg F 5), .int .u8 (dg F 6), .int .u8 (dg F 7)]
  have aa : Below w33.heap.size w33 (w33.alloc (.cells #[.int .u8 (dg F 0), .int .u8 (dg F 1), .int .u8 (dg F 2), .int .u8 (dg F 3), .int .u8 (dg F 4), .int .u8 (dg F 5), .int .u8 (dg F 6), .int .u8 (dg F 7)] 28)) := (Below.refl _ _).alloc (Nat.le_refl _) _
  obtain ⟨Gm, hGm⟩ : ∃ y, w33.heap.size = y := ⟨_, rfl⟩
  obtain ⟨V35, hV35⟩ : ∃ X, X = w33.alloc (.cells #[.int .u8 (dg F 0), .int .u8 (dg F 1), .int .u8 (dg F 2), .int .u8 (dg F 3), .int .u8 (dg F 4), .int .u8 (dg F 5), .int .u8 (dg F 6), .int .u8 (dg F 7)] 28) := ⟨_, rfl⟩
  rw [← hV35] at rr aa
  rw [hGm] at rr
  have HRd := hid (HRd.out.below aa HRd.out.lt)
  have HRx := hid (HRx.out.below aa HRx.out.lt)
  have HRe := hid (HRe.out.below aa HRe.out.lt)
  have HRy := hid (HRy.out.below aa HRy.out.lt)
  have HRk := hid (HRk.out.below aa HRk.out.lt)
  have Q36 := hid (Q34.out.trans (aa.mono Q34.out.size))
  have HRm := hid rr; have HVV35 := hid hV35; have HGm := hid hGm
  clear rr aa hV35 hGm
  go_upto_region 13 with fail
  rw [← HVV35.out, HGm.out]
  clear HVV35 HGm
  have ei : (i != i) = false := by simp
  have en : (nn != nn) = false := by simp
  have eK : (K != K) = false := by simp
  have x0 := HRx.out.cell 0; have x1 := HRx.out.cell 1; have x2 := HRx.out.cell 2; have x3 := HRx.out.cell 3; have x4 := HRx.out.cell 4; have x5 := HRx.out.cell 5; have x6 := HRx.out.cell 6; have x7 := HRx.out.cell 7
  simp only [List.getElem?_cons_zero, List.getElem?_cons_succ] at x0 x1 x2 x3 x4 x5 x6 x7
  have y0 := HRy.out.cell 0; have y1 := HRy.out.cell 1; have y2 := HRy.out.cell 2; have y3 := HRy.out.cell 3; have y4 := HRy.out.cell 4; have y5 := HRy.out.cell 5; have y6 := HRy.out.cell 6; have y7 := HRy.out.cell 7
  simp only [List.getElem?_cons_zero, List.getElem?_cons_succ] at y0 y1 y2 y3 y4 y5 y6 y7
  have k0 := HRk.out.cell 0; have k1 := HRk.out.cell 1; have k2 := HRk.out.cell 2; have k3 := HRk.out.cell 3; have k4 := HRk.out.cell 4; have k5 := HRk.out.cell 5; have k6 := HRk.out.cell 6; have k7 := HRk.out.cell 7
  simp only [List.getElem?_cons_zero, List.getElem?_cons_succ] at k0 k1 k2 k3 k4 k5 k6 k7
  have m0 := HRm.out.cell 0; have m1 := HRm.out.cell 1; have m2 := HRm.out.cell 2; have m3 := HRm.out.cell 3; have m4 := HRm.out.cell 4; have m5 := HRm.out.cell 5; have m6 := HRm.out.cell 6; have m7 := HRm.out.cell 7
  simp only [List.getElem?_cons_zero, List.getElem?_cons_succ] at m0 m1 m2 m3 m4 m5 m6 m7
  have e0 := HRe.out.cell 0; have e1 := HRe.out.cell 1; have e2 := HRe.out.cell 2; have e3 := HRe.out.cell 3; have e4 := HRe.out.cell 4; have e5 := HRe.out.cell 5; have e6 := HRe.out.cell 6; have e7 := HRe.out.cell 7
  simp only [List.getElem?_cons_zero, List.getElem?_cons_succ] at e0 e1 e2 e3 e4 e5 e6 e7
  have d0 := HRd.out.cell 0; have d1 := HRd.out.cell 1; have d2 := HRd.out.cell 2; have d3 := HRd.out.cell 3; have d4 := HRd.out.cell 4; have d5 := HRd.out.cell 5; have d6 := HRd.out.cell 6; have d7 := HRd.out.cell 7
  simp only [List.getElem?_cons_zero, List.getElem?_cons_succ] at d0 d1 d2 d3 d4 d5 d6 d7
  go_wp2_with fail
  with_reducible refine (MVi.out V35 (HST.out.below Q36.out HLT.out)).mono ?_
  rintro e w37 ⟨rfl, hB⟩
  clear d0 d1 d2 d3 d4 d5 d6 d7
  have HRd := hid (HRd.out.below hB HRd.out.lt)
  have HRx := hid (HRx.out.below hB HRx.out.lt)
  have HRe := hid (HRe.out.below hB HRe.out.lt)
  have HRy := hid (HRy.out.below hB HRy.out.lt)
  have HRk := hid (HRk.out.below hB HRk.out.lt)
  have HRm := hid (HRm.out.below hB HRm.out.lt)
  have Q38 := hid (Q36.out.trans (hB.mono Q36.out.size))
  clear hB
  clear x0 x1 x2 x3 x4 x5 x6 x7 y0 y1 y2 y3 y4 y5 y6 y7 k0 k1 k2 k3 k4 k5 k6 k7 m0 m1 m2 m3 m4 m5 m6 m7 e0 e1 e2 e3 e4 e5 e6 e7
  clear ei en eK wK neF AD1i AD1s AD2 AD3i AD3s MVi HIB
  clear HRx
  clear HRy
  clear HRk
  clear HRm
  have rr := Row.new w37 34 [.int .i64 (mg M 0), .int .i64 (mg M 1), .int .i64 (mg M 2), .int .i64 (mg M 3), .int .i64 (mg M 4), .int .i64 (mg M 5), .int .i64 (mg M 6), .int .i64 (mg M 7)]
  have aa : Below w37.heap.size w37 (w37.alloc (.cells #[.int .i64 (mg M 0), .int .i64 (mg M 1), .int .i64 (mg M 2), .int .i64 (mg M 3), .int .i64 (mg M 4), .int .i64 (mg M 5), .int .i64 (mg M 6), .int .i64 (mg M 7)] 34)) := (Below.refl _ _).alloc (Nat.le_refl _) _
  obtain ⟨Gp, hGp⟩ : ∃ y, w37.heap.size = y := ⟨_, rfl⟩
  obtain ⟨V39, hV39⟩ : ∃ X, X = w37.alloc (.cells #[.int .i64 (mg M 0), .int .i64 (mg M 1), .int .i64 (mg M 2), .int .i64 (mg M 3), .int .i64 (mg M 4), .int .i64 (mg M 5), .int .i64 (mg M 6), .int .i64 (mg M 7)] 34) := ⟨_, rfl⟩
  rw [← hV39] at rr aa
  rw [hGp] at rr
  have HRd := hid (HRd.out.below aa HRd.out.lt)
  have HRe := hid (HRe.out.below aa HRe.out.lt)
  have Q40 := hid (Q38.out.trans (aa.mono Q38.out.size))
  have HRp := hid rr; have HVV39 := hid hV39; have HGp := hid hGp
  clear rr aa hV39 hGp
  go_upto_region 16 with fail
  rw [← HVV39.out, HGp.out]
  clear HVV39 HGp
  have d0 := HRd.out.cell 0; have d1 := HRd.out.cell 1; have d2 := HRd.out.cell 2; have d3 := HRd.out.cell 3; have d4 := HRd.out.cell 4; have d5 := HRd.out.cell 5; have d6 := HRd.out.cell 6; have d7 := HRd.out.cell 7
  simp only [List.getElem?_cons_zero, List.getElem?_cons_succ] at d0 d1 d2 d3 d4 d5 d6 d7
  go_wp2_with fail
  with_reducible refine (MVs.out V39 (HST.out.below Q40.out HLT.out)).mono ?_
  rintro e w41 ⟨rfl, hB⟩
  clear d0 d1 d2 d3 d4 d5 d6 d7
  have HRd := hid (HRd.out.below hB HRd.out.lt)
  have HRe := hid (HRe.out.below hB HRe.out.lt)
  have HRp := hid (HRp.out.below hB HRp.out.lt)
  have Q42 := hid (Q40.out.trans (hB.mono Q40.out.size))
  clear hB
  have rr := Row.new w41 34 [.int .i64 (mg M 0), .int .i64 (mg M 1), .int .i64 (mg M 2), .int .i64 (mg M 3), .int .i64 (mg M 4), .int .i64 (mg M 5), .int .i64 (mg M 6), .int .i64 (mg M 7)]
  have aa : Below w41.heap.size w41 (w41.alloc (.cells #[.int .i64 (mg M 0), .int .i64 (mg M 1), .int .i64 (mg M 2), .int .i64 (mg M 3), .int .i64 (mg M 4), .int .i64 (mg M 5), .int .i64 (mg M 6), .int .i64 (mg M 7)] 34)) := (Below.refl _ _).alloc (Nat.le_refl _) _
  obtain ⟨Gq, hGq⟩ : ∃ y, w41.heap.size = y := ⟨_, rfl⟩
  obtain ⟨V43, hV43⟩ : ∃ X, X = w41.alloc (.cells #[.int .i64 (mg M 0), .int .i64 (mg M 1), .int .i64 (mg M 2), .int .i64 (mg M 3), .int .i64 (mg M 4), .int .i64 (mg M 5), .int .i64 (mg M 6), .int .i64 (mg M 7)] 34) := ⟨_, rfl⟩
  rw [← hV43] at rr aa
  rw [hGq] at rr
  have HRd := hid (HRd.out.below aa HRd.out.lt)
  have HRe := hid (HRe.out.below aa HRe.out.lt)
  have HRp := hid (HRp.out.below aa HRp.out.lt)
  have Q44 := hid (Q42.out.trans (aa.mono Q42.out.size))
  have HRq := hid rr; have HVV43 := hid hV43; have HGq := hid hGq
  clear rr aa hV43 hGq
  go_upto_region 17 with fail
  rw [← HVV43.out, HGq.out]
  clear HVV43 HGq
  go_wp2_with fail
  with_reducible refine (SZ.out V43 (HST.out.below Q44.out HLT.out)).mono ?_
  rintro e w45 ⟨rfl, hB⟩
  have HRd := hid (HRd.out.below hB HRd.out.lt)
  have HRe := hid (HRe.out.below hB HRe.out.lt)
  have HRp := hid (HRp.out.below hB HRp.out.lt)
  have HRq := hid (HRq.out.below hB HRq.out.lt)
  have Q46 := hid (Q44.out.trans (hB.mono Q44.out.size))
  clear hB
  have eca : (mg M 0 != ca) = false := by rw [HM0.out]; simp
  have p0 := HRp.out.cell 0; have p1 := HRp.out.cell 1; have p2 := HRp.out.cell 2; have p3 := HRp.out.cell 3; have p4 := HRp.out.cell 4; have p5 := HRp.out.cell 5; have p6 := HRp.out.cell 6; have p7 := HRp.out.cell 7
  simp only [List.getElem?_cons_zero, List.getElem?_cons_succ] at p0 p1 p2 p3 p4 p5 p6 p7
  have q0 := HRq.out.cell 0; have q1 := HRq.out.cell 1; have q2 := HRq.out.cell 2; have q3 := HRq.out.cell 3; have q4 := HRq.out.cell 4; have q5 := HRq.out.cell 5; have q6 := HRq.out.cell 6; have q7 := HRq.out.cell 7
  simp only [List.getElem?_cons_zero, List.getElem?_cons_succ] at q0 q1 q2 q3 q4 q5 q6 q7
  go_upto_region 21 with fail
  clear p0 p1 p2 p3 p4 p5 p6 p7 q0 q1 q2 q3 q4 q5 q6 q7
  clear eca neM MVs SZ HRp
  go_loopw [32] (fun s32 wr => ∃ k : Nat, k ≤ n ∧ s32 = .int .i64 k ∧ Below w45.heap.size w45 wr) (fun i _ => n - (intOf i).toNat)
  case atStart => exact ⟨0, Nat.zero_le _, rfl, Below.refl _ _⟩
  case round =>
    obtain ⟨k, hkn, rfl, qq⟩ := hrel
    by_cases hlt : k < n
    · have hlt' : (k : Int) < (n : Int) := by omega
      have hk0 : (0 : Int) ≤ (k : Int) := by omega
      have hk8 : (k : Int) < 8 := by have := HNB.out; omega
      have hk8' : k < 8 := by have := HNB.out; omega
      have hkZ : k < Z.length := by rw [HN.out]; exact hlt
      have wk : IntKind.i64.wrap ((k : Int) + 1) = ((k + 1 : Nat) : Int) := by rw [IntWalk.i64_in _ (by have := HNB.out; omega)]; omega
      have cd := row_dgC (HRd.out.below qq HRd.out.lt) k hk8'
      have ce := row_dgC (HRe.out.below qq HRe.out.lt) k hk8'
      have cq := row_mgC (HRq.out.below qq HRq.out.lt) k hk8'
      have cs := ((HST.out.below (Q46.out.trans (qq.mono Q46.out.size)) HLT.out).2.1 k hkZ)
      have zb := HIN.out k hkZ
      have mb := HMB.out k hkZ
      have mv := HMV.out k hkZ
      have dd0 := dgL_bd Z v HIN.out k hk8'
      rw [HD.out] at dd0
      have dd : 0 ≤ dg D k ∧ dg D k ≤ 99 := dd0
      obtain ⟨zk, hzk⟩ : ∃ y, Z[k]?.getD 0 = y := ⟨_, rfl⟩
      obtain ⟨dk, hdk⟩ : ∃ y, dg D k = y := ⟨_, rfl⟩
      obtain ⟨mk, hmk⟩ : ∃ y, mg M k = y := ⟨_, rfl⟩
      obtain ⟨ek, hek⟩ : ∃ y, dg E k = y := ⟨_, rfl⟩
      rw [hzk] at cs zb mv
      rw [hdk] at cd dd mv
      rw [hmk] at cq mb mv
      rw [hek] at ce mv
      obtain ⟨y0, y1, y2⟩ := tmod_up (x := dk + mk) (z := zk) (by omega)
      rw [← mv] at y2
      obtain ⟨t, ht⟩ : ∃ y, (dk + mk).tmod zk = y := ⟨_, rfl⟩
      rw [ht] at y0 y1 y2
      have eb : 0 ≤ ek ∧ ek ≤ 100 := by
        have r0 := Int.emod_nonneg (dk + mk) (show zk ≠ 0 by omega)
        have r1 := Int.emod_lt_of_pos (dk + mk) (show 0 < zk by omega)
        omega
      have wd : IntKind.i64.wrap dk = dk := IntWalk.i64_in _ (by omega)
      have wz : IntKind.i64.wrap zk = zk := IntWalk.i64_in _ (by omega)
      have we : IntKind.i64.wrap ek = ek := IntWalk.i64_in _ (by omega)
      have wdm : IntKind.i64.wrap (dk + mk) = dk + mk := IntWalk.i64_in _ (by omega)
      have wt : IntKind.i64.wrap t = t := IntWalk.i64_in _ (by omega)
      have wtz : IntKind.i64.wrap (t + zk) = t + zk := IntWalk.i64_in _ (by omega)
      have zk0 : zk ≠ 0 := by omega
      have ee : (ek != ek) = false := by simp
      have QB := hid qq; have HZK := hid hzk; have HEK := hid hek
      clear hkn hkZ zb mb mv dd dd0 hzk hdk hmk hek y0 y1 eb hk8' qq
      go_upto_region 23 with fail
      go_quiet (fail)
      obtain ⟨X1, hX1⟩ : ∃ X, X = wr.drewN nq := ⟨_, rfl⟩
      have bX : Below wr.heap.size wr X1 := by rw [hX1]; exact below_drewN (Below.refl _ _) _
      rw [← hX1]
      have q2 := QB.out.trans (bX.mono QB.out.size)
      have ce2 := row_dgC (HRe.out.below q2 HRe.out.lt) k (by omega)
      have cs2 := ((HST.out.below (Q46.out.trans (q2.mono Q46.out.size)) HLT.out).2.1 k (by rw [HN.out]; exact hlt))
      rw [HZK.out] at cs2
      rw [HEK.out] at ce2
      clear hX1 bX
      go_upto_region 24 with fail
      go_quiet (fail)
      obtain ⟨X2, hX2⟩ : ∃ X, X = X1.drewN nq := ⟨_, rfl⟩
      have Q9 := hid (show Below w45.heap.size w45 X2 by rw [hX2]; exact below_drewN q2 _)
      rw [← hX2]
      clear hX2 q2 ce2 cs2 cd ce cq cs
      go_wp2_with fail
      go_roundw
      case rel => exact ⟨k + 1, by omega, by first | rfl | exact congrArg (Value.int .i64) (by omega), Q9.out⟩
      case measure => simp [intOf]; omega
    · have hge : ¬ (k : Int) < (n : Int) := by omega
      have HRd := hid (HRd.out.below qq HRd.out.lt); have HRe := hid (HRe.out.below qq HRe.out.lt)
      have QX := hid (Q46.out.trans (qq.mono Q46.out.size))
      clear qq HRq HMV HMB HM0
      have d0 := HRd.out.cell 0; have d1 := HRd.out.cell 1; have d2 := HRd.out.cell 2; have d3 := HRd.out.cell 3; have d4 := HRd.out.cell 4; have d5 := HRd.out.cell 5; have d6 := HRd.out.cell 6; have d7 := HRd.out.cell 7
      simp only [List.getElem?_cons_zero, List.getElem?_cons_succ] at d0 d1 d2 d3 d4 d5 d6 d7
      have e0 := HRe.out.cell 0; have e1 := HRe.out.cell 1; have e2 := HRe.out.cell 2; have e3 := HRe.out.cell 3; have e4 := HRe.out.cell 4; have e5 := HRe.out.cell 5; have e6 := HRe.out.cell 6; have e7 := HRe.out.cell 7
      simp only [List.getElem?_cons_zero, List.getElem?_cons_succ] at e0 e1 e2 e3 e4 e5 e6 e7
      go_wp2_with fail
      with_reducible refine (WYi.out wr (HST.out.below QX.out HLT.out)).mono ?_
      rintro e w147 ⟨rfl, hB⟩
      clear d0 d1 d2 d3 d4 d5 d6 d7 e0 e1 e2 e3 e4 e5 e6 e7
      have HRd := hid (HRd.out.below hB HRd.out.lt)
      have HRe := hid (HRe.out.below hB HRe.out.lt)
      have Q148 := hid (QX.out.trans (hB.mono QX.out.size))
      clear hB
      have d0 := HRd.out.cell 0; have d1 := HRd.out.cell 1; have d2 := HRd.out.cell 2; have d3 := HRd.out.cell 3; have d4 := HRd.out.cell 4; have d5 := HRd.out.cell 5; have d6 := HRd.out.cell 6; have d7 := HRd.out.cell 7
      simp only [List.getElem?_cons_zero, List.getElem?_cons_succ] at d0 d1 d2 d3 d4 d5 d6 d7
      have e0 := HRe.out.cell 0; have e1 := HRe.out.cell 1; have e2 := HRe.out.cell 2; have e3 := HRe.out.cell 3; have e4 := HRe.out.cell 4; have e5 := HRe.out.cell 5; have e6 := HRe.out.cell 6; have e7 := HRe.out.cell 7
      simp only [List.getElem?_cons_zero, List.getElem?_cons_succ] at e0 e1 e2 e3 e4 e5 e6 e7
      go_wp2_with fail
      with_reducible refine (WYs.out w147 (HST.out.below Q148.out HLT.out)).mono ?_
      rintro e w149 ⟨rfl, hB⟩
      clear d0 d1 d2 d3 d4 d5 d6 d7 e0 e1 e2 e3 e4 e5 e6 e7
      have HRd := hid (HRd.out.below hB HRd.out.lt)
      have HRe := hid (HRe.out.below hB HRe.out.lt)
      have Q150 := hid (Q148.out.trans (hB.mono Q148.out.size))
      clear hB
      have d0 := HRd.out.cell 0; have d1 := HRd.out.cell 1; have d2 := HRd.out.cell 2; have d3 := HRd.out.cell 3; have d4 := HRd.out.cell 4; have d5 := HRd.out.cell 5; have d6 := HRd.out.cell 6; have d7 := HRd.out.cell 7
      simp only [List.getElem?_cons_zero, List.getElem?_cons_succ] at d0 d1 d2 d3 d4 d5 d6 d7
      go_wp2_with fail
      with_reducible refine (AD4.out w149 (HST.out.below Q150.out HLT.out)).mono ?_
      rintro e w151 ⟨rfl, hB⟩
      clear d0 d1 d2 d3 d4 d5 d6 d7
      have HRd := hid (HRd.out.below hB HRd.out.lt)
      have HRe := hid (HRe.out.below hB HRe.out.lt)
      have Q152 := hid (Q150.out.trans (hB.mono Q150.out.size))
      clear hB
      have rr := Row.new w151 28 [.int .u8 (dg E 0), .int .u8 (dg E 1), .int .u8 (dg E 2), .int .u8 (dg E 3), .int .u8 (dg E 4), .int .u8 (dg E 5), .int .u8 (dg E 6), .int .u8 (dg E 7)]
      have aa : Below w151.heap.size w151 (w151.alloc (.cells #[.int .u8 (dg E 0), .int .u8 (dg E 1), .int .u8 (dg E 2), .int .u8 (dg E 3), .int .u8 (dg E 4), .int .u8 (dg E 5), .int .u8 (dg E 6), .int .u8 (dg E 7)] 28)) := (Below.refl _ _).alloc (Nat.le_refl _) _
      obtain ⟨Gt, hGt⟩ : ∃ y, w151.heap.size = y := ⟨_, rfl⟩
      obtain ⟨V153, hV153⟩ : ∃ X, X = w151.alloc (.cells #[.int .u8 (dg E 0), .int .u8 (dg E 1), .int .u8 (dg E 2), .int .u8 (dg E 3), .int .u8 (dg E 4), .int .u8 (dg E 5), .int .u8 (dg E 6), .int .u8 (dg E 7)] 28) := ⟨_, rfl⟩
      rw [← hV153] at rr aa
      rw [hGt] at rr
      have HRd := hid (HRd.out.below aa HRd.out.lt)
      have HRe := hid (HRe.out.below aa HRe.out.lt)
      have Q154 := hid (Q152.out.trans (aa.mono Q152.out.size))
      have HRt := hid rr; have HVV153 := hid hV153; have HGt := hid hGt
      clear rr aa hV153 hGt
      go_upto_region 29 with fail
      rw [← HVV153.out, HGt.out]
      clear HVV153 HGt
      have d0 := HRd.out.cell 0; have d1 := HRd.out.cell 1; have d2 := HRd.out.cell 2; have d3 := HRd.out.cell 3; have d4 := HRd.out.cell 4; have d5 := HRd.out.cell 5; have d6 := HRd.out.cell 6; have d7 := HRd.out.cell 7
      simp only [List.getElem?_cons_zero, List.getElem?_cons_succ] at d0 d1 d2 d3 d4 d5 d6 d7
      go_wp2_with fail
      with_reducible refine (AD5.out V153 (HST.out.below Q154.out HLT.out)).mono ?_
      rintro e w155 ⟨rfl, hB⟩
      clear d0 d1 d2 d3 d4 d5 d6 d7
      have HRd := hid (HRd.out.below hB HRd.out.lt)
      have HRe := hid (HRe.out.below hB HRe.out.lt)
      have HRt := hid (HRt.out.below hB HRt.out.lt)
      have Q156 := hid (Q154.out.trans (hB.mono Q154.out.size))
      clear hB
      have rr := Row.new w155 28 [.int .u8 (dg E 0), .int .u8 (dg E 1), .int .u8 (dg E 2), .int .u8 (dg E 3), .int .u8 (dg E 4), .int .u8 (dg E 5), .int .u8 (dg E 6), .int .u8 (dg E 7)]
      have aa : Below w155.heap.size w155 (w155.alloc (.cells #[.int .u8 (dg E 0), .int .u8 (dg E 1), .int .u8 (dg E 2), .int .u8 (dg E 3), .int .u8 (dg E 4), .int .u8 (dg E 5), .int .u8 (dg E 6), .int .u8 (dg E 7)] 28)) := (Below.refl _ _).alloc (Nat.le_refl _) _
      obtain ⟨Gh, hGh⟩ : ∃ y, w155.heap.size = y := ⟨_, rfl⟩
      obtain ⟨V157, hV157⟩ : ∃ X, X = w155.alloc (.cells #[.int .u8 (dg E 0), .int .u8 (dg E 1), .int .u8 (dg E 2), .int .u8 (dg E 3), .int .u8 (dg E 4), .int .u8 (dg E 5), .int .u8 (dg E 6), .int .u8 (dg E 7)] 28) := ⟨_, rfl⟩
      rw [← hV157] at rr aa
      rw [hGh] at rr
      have HRd := hid (HRd.out.below aa HRd.out.lt)
      have HRe := hid (HRe.out.below aa HRe.out.lt)
      have HRt := hid (HRt.out.below aa HRt.out.lt)
      have Q158 := hid (Q156.out.trans (aa.mono Q156.out.size))
      have HRh := hid rr; have HVV157 := hid hV157; have HGh := hid hGh
      clear rr aa hV157 hGh
      go_upto_region 30 with fail
      rw [← HVV157.out, HGh.out]
      clear HVV157 HGh
      have d0 := HRd.out.cell 0; have d1 := HRd.out.cell 1; have d2 := HRd.out.cell 2; have d3 := HRd.out.cell 3; have d4 := HRd.out.cell 4; have d5 := HRd.out.cell 5; have d6 := HRd.out.cell 6; have d7 := HRd.out.cell 7
      simp only [List.getElem?_cons_zero, List.getElem?_cons_succ] at d0 d1 d2 d3 d4 d5 d6 d7
      have e0 := HRe.out.cell 0; have e1 := HRe.out.cell 1; have e2 := HRe.out.cell 2; have e3 := HRe.out.cell 3; have e4 := HRe.out.cell 4; have e5 := HRe.out.cell 5; have e6 := HRe.out.cell 6; have e7 := HRe.out.cell 7
      simp only [List.getElem?_cons_zero, List.getElem?_cons_succ] at e0 e1 e2 e3 e4 e5 e6 e7
      go_wp2_with fail
      with_reducible refine (CP.out V157 (HST.out.below Q158.out HLT.out)).mono ?_
      rintro e w159 ⟨rfl, hB⟩
      clear d0 d1 d2 d3 d4 d5 d6 d7 e0 e1 e2 e3 e4 e5 e6 e7
      have HRd := hid (HRd.out.below hB HRd.out.lt)
      have HRe := hid (HRe.out.below hB HRe.out.lt)
      have HRt := hid (HRt.out.below hB HRt.out.lt)
      have HRh := hid (HRh.out.below hB HRh.out.lt)
      have Q160 := hid (Q158.out.trans (hB.mono Q158.out.size))
      clear hB
      have e0 := HRe.out.cell 0; have e1 := HRe.out.cell 1; have e2 := HRe.out.cell 2; have e3 := HRe.out.cell 3; have e4 := HRe.out.cell 4; have e5 := HRe.out.cell 5; have e6 := HRe.out.cell 6; have e7 := HRe.out.cell 7
      simp only [List.getElem?_cons_zero, List.getElem?_cons_succ] at e0 e1 e2 e3 e4 e5 e6 e7
      go_wp2_with fail
      with_reducible refine (VL.out w159 (HST.out.below Q160.out HLT.out)).mono ?_
      rintro e w161 ⟨rfl, hB⟩
      clear e0 e1 e2 e3 e4 e5 e6 e7
      have HRd := hid (HRd.out.below hB HRd.out.lt)
      have HRe := hid (HRe.out.below hB HRe.out.lt)
      have HRt := hid (HRt.out.below hB HRt.out.lt)
      have HRh := hid (HRh.out.below hB HRh.out.lt)
      have Q162 := hid (Q160.out.trans (hB.mono Q160.out.size))
      clear hB
      have eg1 : (g1 != g1) = false := by simp
      have eg2 : (g2 != g2) = false := by simp
      have gb := HGB.out; have zb := HZB.out
      have k1 : ¬ g1 < 0 := by omega
      have k2 : ¬ z ≤ g1 := by omega
      have k3 : ¬ 0 < g2 := by omega
      have k4 : ¬ g2 ≤ -z := by omega
      have wng : IntKind.i64.wrap (-z) = -z := IntWalk.i64_in _ (by omega)
      have cc := HCC.out
      obtain ⟨b1, hb1, hb1'⟩ : ∃ b, decide (v < u) = b ∧ (b != b) = false := ⟨_, rfl, by simp⟩
      obtain ⟨b2, hb2, hb2'⟩ : ∃ b, decide (u < v) = b ∧ (b != b) = false := ⟨_, rfl, by simp⟩
      have hc1 := cc.1.trans hb1; have hc2 := cc.2.trans hb2
      clear gb zb cc
      have t0 := HRt.out.cell 0; have t1 := HRt.out.cell 1; have t2 := HRt.out.cell 2; have t3 := HRt.out.cell 3; have t4 := HRt.out.cell 4; have t5 := HRt.out.cell 5; have t6 := HRt.out.cell 6; have t7 := HRt.out.cell 7
      simp only [List.getElem?_cons_zero, List.getElem?_cons_succ] at t0 t1 t2 t3 t4 t5 t6 t7
      have h0 := HRh.out.cell 0; have h1 := HRh.out.cell 1; have h2 := HRh.out.cell 2; have h3 := HRh.out.cell 3; have h4 := HRh.out.cell 4; have h5 := HRh.out.cell 5; have h6 := HRh.out.cell 6; have h7 := HRh.out.cell 7
      simp only [List.getElem?_cons_zero, List.getElem?_cons_succ] at h0 h1 h2 h3 h4 h5 h6 h7
      have e0 := HRe.out.cell 0; have e1 := HRe.out.cell 1; have e2 := HRe.out.cell 2; have e3 := HRe.out.cell 3; have e4 := HRe.out.cell 4; have e5 := HRe.out.cell 5; have e6 := HRe.out.cell 6; have e7 := HRe.out.cell 7
      simp only [List.getElem?_cons_zero, List.getElem?_cons_succ] at e0 e1 e2 e3 e4 e5 e6 e7
      go_wp2_with fail
      with_reducible refine (PB.out (n : Int) w161 (H2.out.below (B0.out.trans (Q162.out.mono B0.out.size)) (Nat.le_refl _)) (by have := HNB.out; omega)).mono ?_
      rintro e w163 ⟨kw, kw0, kw1, rfl, hB⟩
      have HRd := hid (HRd.out.below hB HRd.out.lt)
      have HRe := hid (HRe.out.below hB HRe.out.lt)
      have HRt := hid (HRt.out.below hB HRt.out.lt)
      have HRh := hid (HRh.out.below hB HRh.out.lt)
      have Q164 := hid (Q162.out.trans (hB.mono Q162.out.size))
      clear hB
      clear t0 t1 t2 t3 t4 t5 t6 t7 h0 h1 h2 h3 h4 h5 h6 h7 e0 e1 e2 e3 e4 e5 e6 e7
      clear HRt
      clear HRh
      clear HRe
      clear eg1 eg2 k1 k2 k3 k4 wng hb1 hb1' hb2 hb2' hc1 hc2 neE WYi WYs AD4 AD5 CP VL hge
      obtain ⟨k2, rfl⟩ : ∃ k2 : Nat, kw = k2 := ⟨kw.toNat, by omega⟩
      have hk2n : (k2 : Int) < (n : Int) := by have := HNB.out; omega
      have hk20 : (0 : Int) ≤ (k2 : Int) := by omega
      have hk28 : (k2 : Int) < 8 := by have := HNB.out; omega
      have hk2Z : k2 < Z.length := by rw [HN.out]; omega
      have cs := (HST.out.below Q164.out HLT.out).2.1 k2 hk2Z
      have zb := HIN.out k2 hk2Z
      obtain ⟨z2, hz2⟩ : ∃ y, Z[k2]?.getD 0 = y := ⟨_, rfl⟩
      rw [hz2] at cs zb
      have wz2 : IntKind.i64.wrap z2 = z2 := IntWalk.i64_in _ (by omega)
      have HZ2 := hid hz2; have ZB := hid zb; have HKZ := hid hk2Z
      clear kw0 kw1 zb hz2 hk2Z
      go_wp2_with fail
      with_reducible refine (PA.out z2 w163 (H1.out.below (B0.out.trans (Q164.out.mono B0.out.size)) (Nat.le_refl _)) (by have := ZB.out; omega)).mono ?_
      rintro e w165 ⟨x, x0, x1, rfl, hB⟩
      have HRd := hid (HRd.out.below hB HRd.out.lt)
      have Q166 := hid (Q164.out.trans (hB.mono Q164.out.size))
      clear hB
      have xb : 0 ≤ x ∧ x < z2 := by have := ZB.out; omega
      have hvv := HVV.out; have hok := HOK.out
      obtain ⟨f, hf, fb, hfx⟩ := nxt_of hok.1 hvv HKZ.out (x := x) (by rw [HZ2.out]; exact xb)
      have NXi := hid (fun W s => cu_nxt_i B n cp Z HN.out.symm HCP.out hok.1 v hvv k2 x f hf W s)
      have NXs := hid (fun W s => cu_nxt_s B n cp Z HN.out.symm HCP.out hok.1 v hvv k2 x f hf W s)
      have AD6 := hid (fun W s => cu_add_s B n cp Z HN.out.symm HCP.out hok.1 v hvv f (by omega) W s)
      obtain ⟨J, hJ⟩ : ∃ y, dgL Z ((v + f) % szL Z) = y := ⟨_, rfl⟩
      obtain ⟨fi, hfi⟩ : ∃ y, (v + f) / szL Z = y := ⟨_, rfl⟩
      rw [HD.out] at NXi NXs
      rw [HD.out, hJ, hfi] at AD6
      rw [hJ] at hfx
      rw [HZ.out] at fb
      have HFX := hid hfx; have FB := hid fb; have XB := hid xb
      clear x0 x1 xb hvv hok hf hfx hJ hfi fb wz2 cs
      have d0 := HRd.out.cell 0; have d1 := HRd.out.cell 1; have d2 := HRd.out.cell 2; have d3 := HRd.out.cell 3; have d4 := HRd.out.cell 4; have d5 := HRd.out.cell 5; have d6 := HRd.out.cell 6; have d7 := HRd.out.cell 7
      simp only [List.getElem?_cons_zero, List.getElem?_cons_succ] at d0 d1 d2 d3 d4 d5 d6 d7
      go_wp2_with fail
      with_reducible refine (NXi.out w165 (HST.out.below Q166.out HLT.out)).mono ?_
      rintro e w167 ⟨rfl, hB⟩
      clear d0 d1 d2 d3 d4 d5 d6 d7
      have HRd := hid (HRd.out.below hB HRd.out.lt)
      have Q168 := hid (Q166.out.trans (hB.mono Q166.out.size))
      clear hB
      have d0 := HRd.out.cell 0; have d1 := HRd.out.cell 1; have d2 := HRd.out.cell 2; have d3 := HRd.out.cell 3; have d4 := HRd.out.cell 4; have d5 := HRd.out.cell 5; have d6 := HRd.out.cell 6; have d7 := HRd.out.cell 7
      simp only [List.getElem?_cons_zero, List.getElem?_cons_succ] at d0 d1 d2 d3 d4 d5 d6 d7
      go_wp2_with fail
      with_reducible refine (NXs.out w167 (HST.out.below Q168.out HLT.out)).mono ?_
      rintro e w169 ⟨rfl, hB⟩
      clear d0 d1 d2 d3 d4 d5 d6 d7
      have HRd := hid (HRd.out.below hB HRd.out.lt)
      have Q170 := hid (Q168.out.trans (hB.mono Q168.out.size))
      clear hB
      have d0 := HRd.out.cell 0; have d1 := HRd.out.cell 1; have d2 := HRd.out.cell 2; have d3 := HRd.out.cell 3; have d4 := HRd.out.cell 4; have d5 := HRd.out.cell 5; have d6 := HRd.out.cell 6; have d7 := HRd.out.cell 7
      simp only [List.getElem?_cons_zero, List.getElem?_cons_succ] at d0 d1 d2 d3 d4 d5 d6 d7
      go_wp2_with fail
      with_reducible refine (AD6.out w169 (HST.out.below Q170.out HLT.out)).mono ?_
      rintro e w171 ⟨rfl, hB⟩
      clear d0 d1 d2 d3 d4 d5 d6 d7
      have HRd := hid (HRd.out.below hB HRd.out.lt)
      have Q172 := hid (Q170.out.trans (hB.mono Q170.out.size))
      clear hB
      have rr := Row.new w171 28 [.int .u8 (dg J 0), .int .u8 (dg J 1), .int .u8 (dg J 2), .int .u8 (dg J 3), .int .u8 (dg J 4), .int .u8 (dg J 5), .int .u8 (dg J 6), .int .u8 (dg J 7)]
      have aa : Below w171.heap.size w171 (w171.alloc (.cells #[.int .u8 (dg J 0), .int .u8 (dg J 1), .int .u8 (dg J 2), .int .u8 (dg J 3), .int .u8 (dg J 4), .int .u8 (dg J 5), .int .u8 (dg J 6), .int .u8 (dg J 7)] 28)) := (Below.refl _ _).alloc (Nat.le_refl _) _
      obtain ⟨Gg, hGg⟩ : ∃ y, w171.heap.size = y := ⟨_, rfl⟩
      obtain ⟨V173, hV173⟩ : ∃ X, X = w171.alloc (.cells #[.int .u8 (dg J 0), .int .u8 (dg J 1), .int .u8 (dg J 2), .int .u8 (dg J 3), .int .u8 (dg J 4), .int .u8 (dg J 5), .int .u8 (dg J 6), .int .u8 (dg J 7)] 28) := ⟨_, rfl⟩
      rw [← hV173] at rr aa
      rw [hGg] at rr
      have HRd := hid (HRd.out.below aa HRd.out.lt)
      have Q174 := hid (Q172.out.trans (aa.mono Q172.out.size))
      have HRg := hid rr; have HVV173 := hid hV173; have HGg := hid hGg
      clear rr aa hV173 hGg
      go_upto_region 39 with fail
      rw [← HVV173.out, HGg.out]
      clear HVV173 HGg
      have cg := row_dgC HRg.out k2 (by omega)
      rw [HFX.out] at cg
      have xb := XB.out; have fb := FB.out; have zb := HZB.out; have vb := HVB.out; have zb2 := ZB.out
      have wx : IntKind.i64.wrap x = x := IntWalk.i64_in _ (by omega)
      have ex : (x != x) = false := by simp
      have ef : (f != f) = false := by simp
      have f1 : ¬ f < 0 := by omega
      have f2 : ¬ z ≤ f := by omega
      have wz1 : IntKind.i64.wrap (z - 1) = z - 1 := IntWalk.i64_in _ (by omega)
      have wv3 : IntKind.i64.wrap (v + 300) = v + 300 := IntWalk.i64_in _ (by omega)
      obtain ⟨H, hH⟩ : ∃ y, min (z - 1) (v + 300) = y := ⟨_, rfl⟩
      have MN : ∀ w, Sem.run Try.prog (Builtin.min_ #[2, 2] 2 #[.int .i64 (z - 1), .int .i64 (v + 300)]) w = .ok (.int .i64 H) w := fun w => by
        have : (if v + 300 < z - 1 then v + 300 else z - 1) = min (z - 1) (v + 300) := by split <;> omega
        rw [← hH, ← this]; rfl
      have hb : v ≤ H ∧ H < z ∧ H ≤ v + 300 := by omega
      have HB := hid hb
      have zs1 := szL_pos Z k2 (by have := HKZ.out; omega) HIN.out
      obtain ⟨P, hP⟩ : ∃ y, szL (Z.take k2) = y := ⟨_, rfl⟩
      rw [hP] at zs1
      have BLS := hid (fun u (hu : 0 ≤ u) => below_succ (p := P) (z := z2) (x := x) (u := u) zs1 (by omega) xb hu)
      have CT := hid (fun W s => cu_cnt_i B n cp Z HN.out.symm HCP.out HOK.out.1 v HVV.out H x k2 HKZ.out (by rw [HZ2.out]; exact xb) (by rw [HZ.out]; omega) hb.1 W s)
      rw [hP, HZ2.out] at CT
      obtain ⟨C, hC⟩ : ∃ y, belowF P z2 x (H + 1) - belowF P z2 x v = y := ⟨_, rfl⟩
      rw [hC] at CT
      have HC := hid hC; have HP := hid hP
      clear xb fb zb vb zb2 hH hb zs1 hP hC NXi NXs AD6 HFX
      go_wp2_with fail
      with_reducible refine (CT.out V173 (HST.out.below Q174.out HLT.out)).mono ?_
      rintro e w175 ⟨rfl, hB⟩
      have HRd := hid (HRd.out.below hB HRd.out.lt)
      have HRg := hid (HRg.out.below hB HRg.out.lt)
      have Q176 := hid (Q174.out.trans (hB.mono Q174.out.size))
      clear hB
      clear cg ex ef f1 f2 wz1 wv3 MN CT HRg HRd
      go_upto_region 45 with fail
      go_loopw [62, 63] (fun s62 s63 wr => ∃ y o : Int, s62 = .int .i64 o ∧ s63 = .int .i64 y ∧ v ≤ y ∧ y ≤ H + 1 ∧ o = belowF P z2 x y - belowF P z2 x v ∧ 0 ≤ o ∧ o ≤ y - v ∧ Below w175.heap.size w175 wr) (fun _ s63 _ => (H + 1 - intOf s63).toNat)
      case atStart => exact ⟨v, 0, rfl, rfl, Int.le_refl _, by have := HB.out; omega, by omega, by omega, by omega, Below.refl _ _⟩
      case round =>
        obtain ⟨y, o, rfl, rfl, y1, y2, ho, o1, o2, p⟩ := hrel
        have hvb := HVB.out; have hb := HB.out; have hzb := HZB.out
        by_cases hy : y ≤ H
        · have DU := hid (fun W s => cu_dof_s B n cp Z HN.out.symm HCP.out HOK.out.1 y (by rw [HZ.out]; omega) W s)
          have sc := BLS.out y (by omega)
          have hgd := dgL_get Z y k2 (by have := HNB.out; omega)
          rw [if_pos HKZ.out, HP.out, HZ2.out] at hgd
          have hb8 := dgL_bd Z y HIN.out k2 (by have := HNB.out; omega)
          obtain ⟨J, hJ⟩ : ∃ d, dgL Z y = d := ⟨_, rfl⟩
          rw [hJ] at DU hgd hb8
          obtain ⟨dk, hdk⟩ : ∃ d, dg J k2 = d := ⟨_, rfl⟩
          have hdk2 : y / P % z2 = dk := hgd.symm.trans hdk
          have hb9 : 0 ≤ dk ∧ dk ≤ 99 := by rw [← hdk]; exact hb8
          rw [hdk2] at sc
          have wdk : IntKind.i64.wrap dk = dk := IntWalk.i64_in _ (by omega)
          have wy : IntKind.i64.wrap (y + 1) = y + 1 := IntWalk.i64_in _ (by omega)
          have wo : IntKind.i64.wrap (o + 1) = o + 1 := IntWalk.i64_in _ (by omega)
          have QI := hid (Q176.out.trans (p.mono Q176.out.size))
          have QP := hid p; have HDK := hid hdk
          have REL := hid (And.intro y1 (And.intro ho (And.intro o1 o2))); have SC := hid sc
          clear y1 y2 ho o1 o2 p sc hgd hb8 hdk hdk2 hb9 hJ hvb hb hzb
          go_wp2_with fail
          with_reducible refine (DU.out wr (HST.out.below QI.out HLT.out)).mono ?_
          rintro e wJ ⟨rfl, hB⟩
          have PJ := hid (QP.out.trans (hB.mono QP.out.size))
          clear hB DU
          have rr := Row.new wJ 28 [.int .u8 (dg J 0), .int .u8 (dg J 1), .int .u8 (dg J 2), .int .u8 (dg J 3), .int .u8 (dg J 4), .int .u8 (dg J 5), .int .u8 (dg J 6), .int .u8 (dg J 7)]
          have aa : Below wJ.heap.size wJ (wJ.alloc (.cells #[.int .u8 (dg J 0), .int .u8 (dg J 1), .int .u8 (dg J 2), .int .u8 (dg J 3), .int .u8 (dg J 4), .int .u8 (dg J 5), .int .u8 (dg J 6), .int .u8 (dg J 7)] 28)) := (Below.refl _ _).alloc (Nat.le_refl _) _
          have pk := PJ.out.trans (aa.mono PJ.out.size)
          obtain ⟨GJ, hGJ⟩ : ∃ y, wJ.heap.size = y := ⟨_, rfl⟩
          obtain ⟨VK, hVK⟩ : ∃ X, X = wJ.alloc (.cells #[.int .u8 (dg J 0), .int .u8 (dg J 1), .int .u8 (dg J 2), .int .u8 (dg J 3), .int .u8 (dg J 4), .int .u8 (dg J 5), .int .u8 (dg J 6), .int .u8 (dg J 7)] 28) := ⟨_, rfl⟩
          rw [← hVK] at rr pk
          rw [hGJ] at rr
          have cj := row_dgC rr k2 (by omega)
          rw [HDK.out] at cj
          have PK := hid pk; have HVK := hid hVK; have HGJ := hid hGJ
          clear rr aa pk hVK hGJ
          go_upto_region 48 with fail
          rw [← HVK.out, HGJ.out]
          by_cases hd : dk = x
          · have ed : (dk == x) = true := by simpa using hd
            go_wp2_with fail
            go_roundw
            case rel => exact ⟨y + 1, o + 1, rfl, rfl, by have := REL.out; omega, by omega, by have h1 := REL.out; have h2 := SC.out; rw [if_pos hd] at h2; omega, by have := REL.out; omega, by have := REL.out; omega, PK.out⟩
            case measure => simp [intOf]; omega
          · have ed : (dk == x) = false := by simpa using hd
            go_wp2_with fail
            go_roundw
            case rel => exact ⟨y + 1, o, rfl, rfl, by have := REL.out; omega, by omega, by have h1 := REL.out; have h2 := SC.out; rw [if_neg hd] at h2; omega, by have := REL.out; omega, by have := REL.out; omega, PK.out⟩
            case measure => simp [intOf]; omega
        · obtain rfl : y = H + 1 := by omega
          have hoC : o = C := ho.trans HC.out
          subst hoC
          have eC : (o == o) = true := by simp
          have QP := hid p
          clear y1 y2 ho o1 o2 p hvb hb hzb
          go_wp2_with fail
          go_ret
          exact ⟨rfl, B0.out.trans ((Q176.out.trans (QP.out.mono Q176.out.size)).mono B0.out.size)⟩
set_option maxRecDepth 100000 in
set_option maxHeartbeats 1000000 in
theorem law_FnCounts (a : Option Addr) (len cap : Nat) (zs : List Int) (a' : Option Addr) (len' cap' : Nat) (zs' : List Int) (w : World) (h : InB w a len zs) (h' : InB w a' len' zs') :
    Calls Try.prog 3 #[.slice a len cap, .slice a' len' cap'] w fun e w' => e = .returned (.bool true) ∧ Below w.heap.size w w' := by
  by_cases hl : len ≤ 4096
  · by_cases hl' : len' ≤ 4096
    · exact law_FnCounts_in a len cap zs a' len' cap' zs' w h h' hl hl'
    · have F1 := hid (f6big_no a len cap w hl); have F2 := hid (f6big_yes a' len' cap' w (by omega))
      clear h h' hl hl'
      go_enter Try.func3, Try.ntmps3
      go_wp2_with fail
      refine F1.out.mono ?_
      rintro e w1 ⟨rfl, hw⟩
      subst hw
      go_wp2_with fail
      refine F2.out.mono ?_
      rintro e w2 ⟨rfl, hw⟩
      subst hw
      go_wp2_with fail
      go_ret
      exact ⟨rfl, Below.refl _ _⟩
  · have F1 := hid (f6big_yes a len cap w (by omega))
    clear h h' hl
    go_enter Try.func3, Try.ntmps3
    go_wp2_with fail
    refine F1.out.mono ?_
    rintro e w1 ⟨rfl, hw⟩
    subst hw
    go_wp2_with fail
    go_ret
    exact ⟨rfl, Below.refl _ _⟩
end Go.Proofs.Ytigiegdkfgjmcaa
