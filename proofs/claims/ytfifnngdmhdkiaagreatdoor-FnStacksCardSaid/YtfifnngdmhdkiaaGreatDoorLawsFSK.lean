/- The law on stacks: FnStacks. -/
import Derived.Test.YtfifnngdmhdkiaaGreatDoorStF
import Derived.Test.YtfifnngdmhdkiaaGreatDoorStX
import Derived.Test.YtfifnngdmhdkiaaGreatDoorStQ
import Derived.Test.YtfifnngdmhdkiaaGreatDoorDrn
import Derived.Test.YtfifnngdmhdkiaaGreatDoorSame
namespace Go.Proofs.YtfifnngdmhdkiaaGreatDoor
open Go.RowKit
set_option linter.unusedVariables false
set_option linter.unusedSimpArgs false
theorem row_dgC {w : World} {g : Nat} {T : TypeId} {l : List Int} (h : Row w g T [.int .u8 (dg l 0), .int .u8 (dg l 1), .int .u8 (dg l 2), .int .u8 (dg l 3), .int .u8 (dg l 4), .int .u8 (dg l 5), .int .u8 (dg l 6), .int .u8 (dg l 7)]) (k : Nat) (hk : k < 8) : w.cell? ⟨g, k, none⟩ = some (.int .u8 (dg l k)) := by
  rw [h.cell k]
  match k, hk with
  | 0, _ => rfl
  | 1, _ => rfl
  | 2, _ => rfl
  | 3, _ => rfl
  | 4, _ => rfl
  | 5, _ => rfl
  | 6, _ => rfl
  | 7, _ => rfl
set_option maxRecDepth 100000 in
set_option maxHeartbeats 16000000 in
theorem law_FnStacks_in (a : Option Addr) (len cap : Nat) (zs : List Int) (a' : Option Addr) (len' cap' : Nat) (zs' : List Int) (w : World) (h : InB w a len zs) (h' : InB w a' len' zs') (hl : len ≤ 4096) (hl' : len' ≤ 4096) (tS : TypeId) (pS : Value) (tR : TypeId) (pR : Value) (m : Int) (hL : LW w tS pS tR pR m) :
    Calls Tryz.prog 3 #[.slice a len cap, .slice a' len' cap'] w fun e w' => e = .returned (.bool true) ∧ Below w.heap.size w w' := by
  have H1 := hid h; have H2 := hid h'; have HLW := hid hL
  have F1 := hid (f6big_no a len cap w hl); have F2 := hid (f6big_no a' len' cap' w hl')
  have PS := hid (p6Stack_any a len cap zs w h hl)
  have PV := hid (fun B n cp Z W (hI : InB W a' len' zs') (hk : Stk W B Z) hn ho => p6Value_any a' len' cap' zs' B n cp Z W hI hl' hk hn ho)
  clear h h' hl hl' hL
  go_enter Tryz.func3, Tryz.ntmps3
  go_wp2_with fail
  refine F1.out.mono ?_
  rintro e w1 ⟨rfl, hw⟩
  subst hw
  go_wp2_with fail
  refine F2.out.mono ?_
  rintro e w2 ⟨rfl, hw⟩
  subst hw
  go_wp2_with fail
  with_reducible refine PS.out.mono ?_
  rintro e w1 ⟨B, cp, Z, rfl, hn1, hn4, hcp, hok, hst, hBg, hB⟩
  obtain ⟨n, hn⟩ : ∃ n, Z.length = n := ⟨_, rfl⟩
  have HN := hid hn; have HST := hid hst; have B0 := hid hB; have HOK := hid hok; have HLT := hid hst.1
  rw [hn] at hn1 hn4 hcp ⊢
  have HNB := hid (And.intro hn1 hn4); have HCP := hid hcp
  have Q0 := hid (Below.refl w1.heap.size w1)
  clear hn1 hn4 hcp hok hst hBg hB hn PS F1 F2
  go_wp2_with fail
  with_reducible refine (PV.out B n cp Z w1 (H2.out.below B0.out (Nat.le_refl _)) HST.out HN.out.symm HOK.out).mono ?_
  rintro e w2 ⟨v, hv, rfl, hB⟩
  have HVV := hid hv; have Q1 := hid (Q0.out.trans (hB.mono Q0.out.size))
  clear hB PV H1 H2
  -- what the calls give
  have hok := HOK.out.1
  have hs2 := HOK.out.2
  have hc : ∀ W, Stk W B Z → Stk W B Z := fun W h => h
  obtain ⟨u1, u2, hin, hs1, u5⟩ := okL_out hok
  have hu : 0 ≤ (v + 1) % szL Z ∧ (v + 1) % szL Z < szL Z := ⟨Int.emod_nonneg _ (by omega), Int.emod_lt_of_pos _ (by omega)⟩
  have hc' : 0 ≤ szL Z - 1 - v ∧ szL Z - 1 - v < szL Z := by omega
  have SZ := hid (fun W s => cu_siz_i B n cp Z HN.out.symm HCP.out hok v hv W s)
  have DOi := hid (fun W s => cu_dof_i B n cp Z HN.out.symm HCP.out hok v hv W s)
  have DOs := hid (fun W s => cu_dof_s B n cp Z HN.out.symm HCP.out hok v hv W s)
  have VL := hid (fun W s => cu_val_i B n cp Z HN.out.symm HCP.out hok v hv W s)
  have STx := hid (fun W s (hL : LW W tS pS tR pR m) => st_text B n cp Z HN.out.symm W s hL)
  have RS := hid (fun W (hL : LW W tS pS tR pR m) => rs_stack Z hok W hL)
  have DTx := hid (fun W s (hL : LW W tS pS tR pR m) => dt_text B n cp Z HN.out.symm hok v W s hL)
  have RD := hid (fun W s (hL : LW W tS pS tR pR m) => rd_digits B n cp Z HN.out.symm hok v W s hL)
  have SMs := hid (fun W gg cc (h1 : Stk W gg Z) (h2 : Stk W B Z) => specSame_any gg B n n cc cp Z Z W h1 h2 HN.out.symm HN.out.symm)
  have SMi := hid (fun W gg cc (h1 : Stk W gg Z) (h2 : Stk W B Z) => implSame_any gg B n n cc cp Z Z W h1 h2 HN.out.symm HN.out.symm)
  rw [show sameL Z Z = true by simp [sameL]] at SMs SMi
  rw [HN.out] at RS
  have VS := hid (fun W s => validStack_any B n cp Z W s HN.out.symm)
  rw [hok] at VS
  have VD := hid (fun W s => validDigits_any B n cp Z (dg (dgL Z v) 0) (dg (dgL Z v) 1) (dg (dgL Z v) 2) (dg (dgL Z v) 3) (dg (dgL Z v) 4) (dg (dgL Z v) 5) (dg (dgL Z v) 6) (dg (dgL Z v) 7) W s HN.out.symm (octL Z v hok))
  rw [dgs_listC, okV_dgL Z v hok] at VD
  have UPi := hid (fun W s => cu_up_i B n cp Z HN.out.symm HCP.out hok v hv W s)
  have UPs := hid (fun W s => cu_up_s B n cp Z HN.out.symm HCP.out hok v hv W s)
  have DN := hid (fun W s => cu_down_i B n cp Z HN.out.symm HCP.out hok ((v + 1) % szL Z) hu W s)
  rw [step_back hv, movN_comm] at DN
  have CMi := hid (fun W s => cu_com_i B n cp Z HN.out.symm HCP.out hok v hv W s)
  have CMs := hid (fun W s => cu_com_s B n cp Z HN.out.symm HCP.out hok v hv W s)
  have CM2 := hid (fun W s => cu_com_i B n cp Z HN.out.symm HCP.out hok (szL Z - 1 - v) hc' W s)
  rw [show szL Z - 1 - (szL Z - 1 - v) = v by omega] at CM2
  have VL2 := hid (fun W s => cu_val_i B n cp Z HN.out.symm HCP.out hok (szL Z - 1 - v) hc' W s)
  have LSU := hid (fun k (hk : k < Z.length) => last_succ (v := v) hok k hk)
  have PLC := hid (fun k (hk : k < Z.length) W s => cu_plc_i B n cp Z HN.out.symm HCP.out hok v hv k hk W s)
  have LST := hid (fun k (hk : k < Z.length) hw W s => cu_lst_i B n cp Z HN.out.symm HCP.out hok v hv k (by omega) hw W s)
  have PBD := hid (fun k (hk : k ≤ Z.length) => szL_bd Z k hk (fun j hj => hin j (by omega)))
  have PSU := hid (fun k (hk : k < Z.length) => szL_take Z k hk)
  have HDB := hid (fun k hk => dgL_bd Z v hin k hk)
  have HIN := hid hin
  obtain ⟨D, hD⟩ : ∃ D, dgL Z v = D := ⟨_, rfl⟩
  obtain ⟨E, hE⟩ : ∃ D, dgL Z ((v + 1) % szL Z) = D := ⟨_, rfl⟩
  obtain ⟨F, hF⟩ : ∃ D, dgL Z (szL Z - 1 - v) = D := ⟨_, rfl⟩
  rw [hD] at DOi DOs VL DTx RD VD UPi UPs DN CMi CMs CM2 LSU LST HDB
  rw [hE] at UPi UPs DN
  rw [hF] at CMi CMs CM2 VL2
  obtain ⟨mv, hmv⟩ : ∃ y, movN E D Z.length = y := ⟨_, rfl⟩
  rw [hmv] at UPi UPs DN
  obtain ⟨z, hz⟩ : ∃ z, szL Z = z := ⟨_, rfl⟩
  rw [hz] at SZ VL2 hv hs1 hs2
  have HZ := hid hz; have HVB := hid hv; have HZB := hid (And.intro hs1 hs2)
  have wz1 : IntKind.i64.wrap (z - 1) = z - 1 := IntWalk.i64_in _ (by omega)
  have wzv : IntKind.i64.wrap (z - 1 - v) = z - 1 - v := IntWalk.i64_in _ (by omega)
  have neD : ∀ w, Sem.run Tryz.prog (binOp .neq 30 (.agg #[.int .u8 (dg D 0), .int .u8 (dg D 1), .int .u8 (dg D 2), .int .u8 (dg D 3), .int .u8 (dg D 4), .int .u8 (dg D 5), .int .u8 (dg D 6), .int .u8 (dg D 7)]) (.agg #[.int .u8 (dg D 0), .int .u8 (dg D 1), .int .u8 (dg D 2), .int .u8 (dg D 3), .int .u8 (dg D 4), .int .u8 (dg D 5), .int .u8 (dg D 6), .int .u8 (dg D 7)])) w = .ok (.bool false) w := fun w => neq_dig _ _ _ _ _ _ _ _ w
  have neE : ∀ w, Sem.run Tryz.prog (binOp .neq 30 (.agg #[.int .u8 (dg E 0), .int .u8 (dg E 1), .int .u8 (dg E 2), .int .u8 (dg E 3), .int .u8 (dg E 4), .int .u8 (dg E 5), .int .u8 (dg E 6), .int .u8 (dg E 7)]) (.agg #[.int .u8 (dg E 0), .int .u8 (dg E 1), .int .u8 (dg E 2), .int .u8 (dg E 3), .int .u8 (dg E 4), .int .u8 (dg E 5), .int .u8 (dg E 6), .int .u8 (dg E 7)])) w = .ok (.bool false) w := fun w => neq_dig _ _ _ _ _ _ _ _ w
  have neF : ∀ w, Sem.run Tryz.prog (binOp .neq 30 (.agg #[.int .u8 (dg F 0), .int .u8 (dg F 1), .int .u8 (dg F 2), .int .u8 (dg F 3), .int .u8 (dg F 4), .int .u8 (dg F 5), .int .u8 (dg F 6), .int .u8 (dg F 7)]) (.agg #[.int .u8 (dg F 0), .int .u8 (dg F 1), .int .u8 (dg F 2), .int .u8 (dg F 3), .int .u8 (dg F 4), .int .u8 (dg F 5), .int .u8 (dg F 6), .int .u8 (dg F 7)])) w = .ok (.bool false) w := fun w => neq_dig _ _ _ _ _ _ _ _ w
  clear hok hs2 hc u1 u2 hin hs1 u5 hu hc' hD hE hF hmv hz hv
  go_wp2_with fail
  with_reducible refine (SZ.out w2 (HST.out.below Q1.out HLT.out)).mono ?_
  rintro e w11 ⟨rfl, hB⟩
  have Q12 := hid (Q1.out.trans (hB.mono Q1.out.size))
  clear hB
  go_wp2_with fail
  with_reducible refine (DOi.out w11 (HST.out.below Q12.out HLT.out)).mono ?_
  rintro e w13 ⟨rfl, hB⟩
  have Q14 := hid (Q12.out.trans (hB.mono Q12.out.size))
  clear hB
  have rr := Row.new w13 30 [.int .u8 (dg D 0), .int .u8 (dg D 1), .int .u8 (dg D 2), .int .u8 (dg D 3), .int .u8 (dg D 4), .int .u8 (dg D 5), .int .u8 (dg D 6), .int .u8 (dg D 7)]
  have aa : Below w13.heap.size w13 (w13.alloc (.cells #[.int .u8 (dg D 0), .int .u8 (dg D 1), .int .u8 (dg D 2), .int .u8 (dg D 3), .int .u8 (dg D 4), .int .u8 (dg D 5), .int .u8 (dg D 6), .int .u8 (dg D 7)] 30)) := (Below.refl _ _).alloc (Nat.le_refl _) _
  obtain ⟨Gd, hGd⟩ : ∃ y, w13.heap.size = y := ⟨_, rfl⟩
  obtain ⟨V15, hV15⟩ : ∃ X, X = w13.alloc (.cells #[.int .u8 (dg D 0), .int .u8 (dg D 1), .int .u8 (dg D 2), .int .u8 (dg D 3), .int .u8 (dg D 4), .int .u8 (dg D 5), .int .u8 (dg D 6), .int .u8 (dg D 7)] 30) := ⟨_, rfl⟩
  rw [← hV15] at rr aa
  rw [hGd] at rr
  have Q16 := hid (Q14.out.trans (aa.mono Q14.out.size))
  have HRd := hid rr; have HVV15 := hid hV15; have HGd := hid hGd
  clear rr aa hV15 hGd
  go_upto_region 7 with fail
  rw [← HVV15.out, HGd.out]
  clear HVV15 HGd
  go_wp2_with fail
  with_reducible refine (DOs.out V15 (HST.out.below Q16.out HLT.out)).mono ?_
  rintro e w17 ⟨rfl, hB⟩
  have HRd := hid (HRd.out.below hB HRd.out.lt)
  have Q18 := hid (Q16.out.trans (hB.mono Q16.out.size))
  clear hB
  have rr := Row.new w17 30 [.int .u8 (dg D 0), .int .u8 (dg D 1), .int .u8 (dg D 2), .int .u8 (dg D 3), .int .u8 (dg D 4), .int .u8 (dg D 5), .int .u8 (dg D 6), .int .u8 (dg D 7)]
  have aa : Below w17.heap.size w17 (w17.alloc (.cells #[.int .u8 (dg D 0), .int .u8 (dg D 1), .int .u8 (dg D 2), .int .u8 (dg D 3), .int .u8 (dg D 4), .int .u8 (dg D 5), .int .u8 (dg D 6), .int .u8 (dg D 7)] 30)) := (Below.refl _ _).alloc (Nat.le_refl _) _
  obtain ⟨Ge, hGe⟩ : ∃ y, w17.heap.size = y := ⟨_, rfl⟩
  obtain ⟨V19, hV19⟩ : ∃ X, X = w17.alloc (.cells #[.int .u8 (dg D 0), .int .u8 (dg D 1), .int .u8 (dg D 2), .int .u8 (dg D 3), .int .u8 (dg D 4), .int .u8 (dg D 5), .int .u8 (dg D 6), .int .u8 (dg D 7)] 30) := ⟨_, rfl⟩
  rw [← hV19] at rr aa
  rw [hGe] at rr
  have HRd := hid (HRd.out.below aa HRd.out.lt)
  have Q20 := hid (Q18.out.trans (aa.mono Q18.out.size))
  have HRe := hid rr; have HVV19 := hid hV19; have HGe := hid hGe
  clear rr aa hV19 hGe
  go_upto_region 8 with fail
  rw [← HVV19.out, HGe.out]
  clear HVV19 HGe
  have e0 := HRe.out.cell 0; have e1 := HRe.out.cell 1; have e2 := HRe.out.cell 2; have e3 := HRe.out.cell 3; have e4 := HRe.out.cell 4; have e5 := HRe.out.cell 5; have e6 := HRe.out.cell 6; have e7 := HRe.out.cell 7
  simp only [List.getElem?_cons_zero, List.getElem?_cons_succ] at e0 e1 e2 e3 e4 e5 e6 e7
  go_wp2_with fail
  with_reducible refine (VL.out V19 (HST.out.below Q20.out HLT.out)).mono ?_
  rintro e w21 ⟨rfl, hB⟩
  clear e0 e1 e2 e3 e4 e5 e6 e7
  have HRd := hid (HRd.out.below hB HRd.out.lt)
  have HRe := hid (HRe.out.below hB HRe.out.lt)
  have Q22 := hid (Q20.out.trans (hB.mono Q20.out.size))
  clear hB
  go_wp2_with fail
  with_reducible refine (STx.out w21 (HST.out.below Q22.out HLT.out) (HLW.out.below (B0.out.trans (Q22.out.mono B0.out.size)) (Nat.le_refl _))).mono ?_
  rintro e w23 ⟨rfl, hB⟩
  have HRd := hid (HRd.out.below hB HRd.out.lt)
  have HRe := hid (HRe.out.below hB HRe.out.lt)
  have Q24 := hid (Q22.out.trans (hB.mono Q22.out.size))
  clear hB
  go_wp2_with fail
  with_reducible refine (RS.out w23 (HLW.out.below (B0.out.trans (Q24.out.mono B0.out.size)) (Nat.le_refl _))).mono ?_
  rintro e w25 ⟨gs, cs, rfl, hks, hB⟩
  have HRd := hid (HRd.out.below hB HRd.out.lt)
  have HRe := hid (HRe.out.below hB HRe.out.lt)
  have Q26 := hid (Q24.out.trans (hB.mono Q24.out.size))
  clear hB
  have HKS := hid hks; have HKL := hid hks.1
  clear hks
  have e0 := HRe.out.cell 0; have e1 := HRe.out.cell 1; have e2 := HRe.out.cell 2; have e3 := HRe.out.cell 3; have e4 := HRe.out.cell 4; have e5 := HRe.out.cell 5; have e6 := HRe.out.cell 6; have e7 := HRe.out.cell 7
  simp only [List.getElem?_cons_zero, List.getElem?_cons_succ] at e0 e1 e2 e3 e4 e5 e6 e7
  go_wp2_with fail
  with_reducible refine (DTx.out w25 (HST.out.below Q26.out HLT.out) (HLW.out.below (B0.out.trans (Q26.out.mono B0.out.size)) (Nat.le_refl _))).mono ?_
  rintro e w27 ⟨rfl, hB⟩
  clear e0 e1 e2 e3 e4 e5 e6 e7
  have HKS := hid (HKS.out.below hB HKS.out.1)
  have HRd := hid (HRd.out.below hB HRd.out.lt)
  have HRe := hid (HRe.out.below hB HRe.out.lt)
  have Q28 := hid (Q26.out.trans (hB.mono Q26.out.size))
  clear hB
  go_wp2_with fail
  with_reducible refine (RD.out w27 (HST.out.below Q28.out HLT.out) (HLW.out.below (B0.out.trans (Q28.out.mono B0.out.size)) (Nat.le_refl _))).mono ?_
  rintro e w29 ⟨rfl, hB⟩
  have HKS := hid (HKS.out.below hB HKS.out.1)
  have HRd := hid (HRd.out.below hB HRd.out.lt)
  have HRe := hid (HRe.out.below hB HRe.out.lt)
  have Q30 := hid (Q28.out.trans (hB.mono Q28.out.size))
  clear hB
  have rr := Row.new w29 30 [.int .u8 (dg D 0), .int .u8 (dg D 1), .int .u8 (dg D 2), .int .u8 (dg D 3), .int .u8 (dg D 4), .int .u8 (dg D 5), .int .u8 (dg D 6), .int .u8 (dg D 7)]
  have aa : Below w29.heap.size w29 (w29.alloc (.cells #[.int .u8 (dg D 0), .int .u8 (dg D 1), .int .u8 (dg D 2), .int .u8 (dg D 3), .int .u8 (dg D 4), .int .u8 (dg D 5), .int .u8 (dg D 6), .int .u8 (dg D 7)] 30)) := (Below.refl _ _).alloc (Nat.le_refl _) _
  obtain ⟨Gr, hGr⟩ : ∃ y, w29.heap.size = y := ⟨_, rfl⟩
  obtain ⟨V31, hV31⟩ : ∃ X, X = w29.alloc (.cells #[.int .u8 (dg D 0), .int .u8 (dg D 1), .int .u8 (dg D 2), .int .u8 (dg D 3), .int .u8 (dg D 4), .int .u8 (dg D 5), .int .u8 (dg D 6), .int .u8 (dg D 7)] 30) := ⟨_, rfl⟩
  rw [← hV31] at rr aa
  rw [hGr] at rr
  have HKS := hid (HKS.out.below aa HKS.out.1)
  have HRd := hid (HRd.out.below aa HRd.out.lt)
  have HRe := hid (HRe.out.below aa HRe.out.lt)
  have Q32 := hid (Q30.out.trans (aa.mono Q30.out.size))
  have HRr := hid rr; have HVV31 := hid hV31; have HGr := hid hGr
  clear rr aa hV31 hGr
  have eV : (v != v) = false := by simp
  have lv : ¬ z ≤ v := by have := HVB.out; omega
  have d0 := HRd.out.cell 0; have d1 := HRd.out.cell 1; have d2 := HRd.out.cell 2; have d3 := HRd.out.cell 3; have d4 := HRd.out.cell 4; have d5 := HRd.out.cell 5; have d6 := HRd.out.cell 6; have d7 := HRd.out.cell 7
  simp only [List.getElem?_cons_zero, List.getElem?_cons_succ] at d0 d1 d2 d3 d4 d5 d6 d7
  have e0 := HRe.out.cell 0; have e1 := HRe.out.cell 1; have e2 := HRe.out.cell 2; have e3 := HRe.out.cell 3; have e4 := HRe.out.cell 4; have e5 := HRe.out.cell 5; have e6 := HRe.out.cell 6; have e7 := HRe.out.cell 7
  simp only [List.getElem?_cons_zero, List.getElem?_cons_succ] at e0 e1 e2 e3 e4 e5 e6 e7
  rw [HVV31.out] at d0 d1 d2 d3 d4 d5 d6 d7 e0 e1 e2 e3 e4 e5 e6 e7
  go_wp2_with (rw [← HVV31.out, HGr.out]; with_reducible refine (SMs.out V31 gs cs HKS.out (HST.out.below Q32.out HLT.out)).mono ?_)
  rintro e w33 ⟨rfl, hB⟩
  have HKS := hid (HKS.out.below hB HKS.out.1)
  have HRd := hid (HRd.out.below hB HRd.out.lt)
  have HRe := hid (HRe.out.below hB HRe.out.lt)
  have HRr := hid (HRr.out.below hB HRr.out.lt)
  have Q34 := hid (Q32.out.trans (hB.mono Q32.out.size))
  clear hB
  clear d0 d1 d2 d3 d4 d5 d6 d7 e0 e1 e2 e3 e4 e5 e6 e7
  go_wp2_with fail
  with_reducible refine (SMi.out w33 gs cs HKS.out (HST.out.below Q34.out HLT.out)).mono ?_
  rintro e w35 ⟨rfl, hB⟩
  have HKS := hid (HKS.out.below hB HKS.out.1)
  have HRd := hid (HRd.out.below hB HRd.out.lt)
  have HRe := hid (HRe.out.below hB HRe.out.lt)
  have HRr := hid (HRr.out.below hB HRr.out.lt)
  have Q36 := hid (Q34.out.trans (hB.mono Q34.out.size))
  clear hB
  have r0 := HRr.out.cell 0; have r1 := HRr.out.cell 1; have r2 := HRr.out.cell 2; have r3 := HRr.out.cell 3; have r4 := HRr.out.cell 4; have r5 := HRr.out.cell 5; have r6 := HRr.out.cell 6; have r7 := HRr.out.cell 7
  simp only [List.getElem?_cons_zero, List.getElem?_cons_succ] at r0 r1 r2 r3 r4 r5 r6 r7
  have e0 := HRe.out.cell 0; have e1 := HRe.out.cell 1; have e2 := HRe.out.cell 2; have e3 := HRe.out.cell 3; have e4 := HRe.out.cell 4; have e5 := HRe.out.cell 5; have e6 := HRe.out.cell 6; have e7 := HRe.out.cell 7
  simp only [List.getElem?_cons_zero, List.getElem?_cons_succ] at e0 e1 e2 e3 e4 e5 e6 e7
  go_wp2_with fail
  with_reducible refine (VS.out w35 (HST.out.below Q36.out HLT.out)).mono ?_
  rintro e wv ⟨rfl, hw⟩
  subst hw
  clear r0 r1 r2 r3 r4 r5 r6 r7
  go_wp2_with fail
  with_reducible refine (VD.out w35 (HST.out.below Q36.out HLT.out)).mono ?_
  rintro e w37 ⟨rfl, hB⟩
  clear e0 e1 e2 e3 e4 e5 e6 e7
  have HKS := hid (HKS.out.below hB HKS.out.1)
  have HRd := hid (HRd.out.below hB HRd.out.lt)
  have HRe := hid (HRe.out.below hB HRe.out.lt)
  have HRr := hid (HRr.out.below hB HRr.out.lt)
  have Q38 := hid (Q36.out.trans (hB.mono Q36.out.size))
  clear hB HRr HRd SMs SMi VS VD STx RS DTx RD DOi DOs VL SZ HKL
  clear HKS
  have e0 := HRe.out.cell 0; have e1 := HRe.out.cell 1; have e2 := HRe.out.cell 2; have e3 := HRe.out.cell 3; have e4 := HRe.out.cell 4; have e5 := HRe.out.cell 5; have e6 := HRe.out.cell 6; have e7 := HRe.out.cell 7
  simp only [List.getElem?_cons_zero, List.getElem?_cons_succ] at e0 e1 e2 e3 e4 e5 e6 e7
  go_wp2_with fail
  with_reducible refine (UPi.out w37 (HST.out.below Q38.out HLT.out)).mono ?_
  rintro e w39 ⟨rfl, hB⟩
  clear e0 e1 e2 e3 e4 e5 e6 e7
  have HRe := hid (HRe.out.below hB HRe.out.lt)
  have Q40 := hid (Q38.out.trans (hB.mono Q38.out.size))
  clear hB
  clear eV lv
  have rr := Row.new w39 30 [.int .u8 (dg E 0), .int .u8 (dg E 1), .int .u8 (dg E 2), .int .u8 (dg E 3), .int .u8 (dg E 4), .int .u8 (dg E 5), .int .u8 (dg E 6), .int .u8 (dg E 7)]
  have aa : Below w39.heap.size w39 (w39.alloc (.cells #[.int .u8 (dg E 0), .int .u8 (dg E 1), .int .u8 (dg E 2), .int .u8 (dg E 3), .int .u8 (dg E 4), .int .u8 (dg E 5), .int .u8 (dg E 6), .int .u8 (dg E 7)] 30)) := (Below.refl _ _).alloc (Nat.le_refl _) _
  obtain ⟨Gx, hGx⟩ : ∃ y, w39.heap.size = y := ⟨_, rfl⟩
  obtain ⟨V41, hV41⟩ : ∃ X, X = w39.alloc (.cells #[.int .u8 (dg E 0), .int .u8 (dg E 1), .int .u8 (dg E 2), .int .u8 (dg E 3), .int .u8 (dg E 4), .int .u8 (dg E 5), .int .u8 (dg E 6), .int .u8 (dg E 7)] 30) := ⟨_, rfl⟩
  rw [← hV41] at rr aa
  rw [hGx] at rr
  have HRe := hid (HRe.out.below aa HRe.out.lt)
  have Q42 := hid (Q40.out.trans (aa.mono Q40.out.size))
  have HRx := hid rr; have HVV41 := hid hV41; have HGx := hid hGx
  clear rr aa hV41 hGx
  go_upto_region 14 with fail
  rw [← HVV41.out, HGx.out]
  clear HVV41 HGx
  have e0 := HRe.out.cell 0; have e1 := HRe.out.cell 1; have e2 := HRe.out.cell 2; have e3 := HRe.out.cell 3; have e4 := HRe.out.cell 4; have e5 := HRe.out.cell 5; have e6 := HRe.out.cell 6; have e7 := HRe.out.cell 7
  simp only [List.getElem?_cons_zero, List.getElem?_cons_succ] at e0 e1 e2 e3 e4 e5 e6 e7
  go_wp2_with fail
  with_reducible refine (UPs.out V41 (HST.out.below Q42.out HLT.out)).mono ?_
  rintro e w43 ⟨rfl, hB⟩
  clear e0 e1 e2 e3 e4 e5 e6 e7
  have HRe := hid (HRe.out.below hB HRe.out.lt)
  have HRx := hid (HRx.out.below hB HRx.out.lt)
  have Q44 := hid (Q42.out.trans (hB.mono Q42.out.size))
  clear hB
  have rr := Row.new w43 30 [.int .u8 (dg E 0), .int .u8 (dg E 1), .int .u8 (dg E 2), .int .u8 (dg E 3), .int .u8 (dg E 4), .int .u8 (dg E 5), .int .u8 (dg E 6), .int .u8 (dg E 7)]
  have aa : Below w43.heap.size w43 (w43.alloc (.cells #[.int .u8 (dg E 0), .int .u8 (dg E 1), .int .u8 (dg E 2), .int .u8 (dg E 3), .int .u8 (dg E 4), .int .u8 (dg E 5), .int .u8 (dg E 6), .int .u8 (dg E 7)] 30)) := (Below.refl _ _).alloc (Nat.le_refl _) _
  obtain ⟨Gy, hGy⟩ : ∃ y, w43.heap.size = y := ⟨_, rfl⟩
  obtain ⟨V45, hV45⟩ : ∃ X, X = w43.alloc (.cells #[.int .u8 (dg E 0), .int .u8 (dg E 1), .int .u8 (dg E 2), .int .u8 (dg E 3), .int .u8 (dg E 4), .int .u8 (dg E 5), .int .u8 (dg E 6), .int .u8 (dg E 7)] 30) := ⟨_, rfl⟩
  rw [← hV45] at rr aa
  rw [hGy] at rr
  have HRe := hid (HRe.out.below aa HRe.out.lt)
  have HRx := hid (HRx.out.below aa HRx.out.lt)
  have Q46 := hid (Q44.out.trans (aa.mono Q44.out.size))
  have HRy := hid rr; have HVV45 := hid hV45; have HGy := hid hGy
  clear rr aa hV45 hGy
  go_upto_region 15 with fail
  rw [← HVV45.out, HGy.out]
  clear HVV45 HGy
  have y0 := HRy.out.cell 0; have y1 := HRy.out.cell 1; have y2 := HRy.out.cell 2; have y3 := HRy.out.cell 3; have y4 := HRy.out.cell 4; have y5 := HRy.out.cell 5; have y6 := HRy.out.cell 6; have y7 := HRy.out.cell 7
  simp only [List.getElem?_cons_zero, List.getElem?_cons_succ] at y0 y1 y2 y3 y4 y5 y6 y7
  go_wp2_with fail
  with_reducible refine (DN.out V45 (HST.out.below Q46.out HLT.out)).mono ?_
  rintro e w47 ⟨rfl, hB⟩
  clear y0 y1 y2 y3 y4 y5 y6 y7
  have HRe := hid (HRe.out.below hB HRe.out.lt)
  have HRx := hid (HRx.out.below hB HRx.out.lt)
  have HRy := hid (HRy.out.below hB HRy.out.lt)
  have Q48 := hid (Q46.out.trans (hB.mono Q46.out.size))
  clear hB
  have rr := Row.new w47 30 [.int .u8 (dg D 0), .int .u8 (dg D 1), .int .u8 (dg D 2), .int .u8 (dg D 3), .int .u8 (dg D 4), .int .u8 (dg D 5), .int .u8 (dg D 6), .int .u8 (dg D 7)]
  have aa : Below w47.heap.size w47 (w47.alloc (.cells #[.int .u8 (dg D 0), .int .u8 (dg D 1), .int .u8 (dg D 2), .int .u8 (dg D 3), .int .u8 (dg D 4), .int .u8 (dg D 5), .int .u8 (dg D 6), .int .u8 (dg D 7)] 30)) := (Below.refl _ _).alloc (Nat.le_refl _) _
  obtain ⟨Go, hGo⟩ : ∃ y, w47.heap.size = y := ⟨_, rfl⟩
  obtain ⟨V49, hV49⟩ : ∃ X, X = w47.alloc (.cells #[.int .u8 (dg D 0), .int .u8 (dg D 1), .int .u8 (dg D 2), .int .u8 (dg D 3), .int .u8 (dg D 4), .int .u8 (dg D 5), .int .u8 (dg D 6), .int .u8 (dg D 7)] 30) := ⟨_, rfl⟩
  rw [← hV49] at rr aa
  rw [hGo] at rr
  have HRe := hid (HRe.out.below aa HRe.out.lt)
  have HRx := hid (HRx.out.below aa HRx.out.lt)
  have HRy := hid (HRy.out.below aa HRy.out.lt)
  have Q50 := hid (Q48.out.trans (aa.mono Q48.out.size))
  have HRo := hid rr; have HVV49 := hid hV49; have HGo := hid hGo
  clear rr aa hV49 hGo
  go_upto_region 16 with fail
  rw [← HVV49.out, HGo.out]
  clear HVV49 HGo
  have e0 := HRe.out.cell 0; have e1 := HRe.out.cell 1; have e2 := HRe.out.cell 2; have e3 := HRe.out.cell 3; have e4 := HRe.out.cell 4; have e5 := HRe.out.cell 5; have e6 := HRe.out.cell 6; have e7 := HRe.out.cell 7
  simp only [List.getElem?_cons_zero, List.getElem?_cons_succ] at e0 e1 e2 e3 e4 e5 e6 e7
  go_wp2_with fail
  with_reducible refine (CMi.out V49 (HST.out.below Q50.out HLT.out)).mono ?_
  rintro e w51 ⟨rfl, hB⟩
  clear e0 e1 e2 e3 e4 e5 e6 e7
  have HRe := hid (HRe.out.below hB HRe.out.lt)
  have HRx := hid (HRx.out.below hB HRx.out.lt)
  have HRy := hid (HRy.out.below hB HRy.out.lt)
  have HRo := hid (HRo.out.below hB HRo.out.lt)
  have Q52 := hid (Q50.out.trans (hB.mono Q50.out.size))
  clear hB
  have rr := Row.new w51 30 [.int .u8 (dg F 0), .int .u8 (dg F 1), .int .u8 (dg F 2), .int .u8 (dg F 3), .int .u8 (dg F 4), .int .u8 (dg F 5), .int .u8 (dg F 6), .int .u8 (dg F 7)]
  have aa : Below w51.heap.size w51 (w51.alloc (.cells #[.int .u8 (dg F 0), .int .u8 (dg F 1), .int .u8 (dg F 2), .int .u8 (dg F 3), .int .u8 (dg F 4), .int .u8 (dg F 5), .int .u8 (dg F 6), .int .u8 (dg F 7)] 30)) := (Below.refl _ _).alloc (Nat.le_refl _) _
  obtain ⟨Gp, hGp⟩ : ∃ y, w51.heap.size = y := ⟨_, rfl⟩
  obtain ⟨V53, hV53⟩ : ∃ X, X = w51.alloc (.cells #[.int .u8 (dg F 0), .int .u8 (dg F 1), .int .u8 (dg F 2), .int .u8 (dg F 3), .int .u8 (dg F 4), .int .u8 (dg F 5), .int .u8 (dg F 6), .int .u8 (dg F 7)] 30) := ⟨_, rfl⟩
  rw [← hV53] at rr aa
  rw [hGp] at rr
  have HRe := hid (HRe.out.below aa HRe.out.lt)
  have HRx := hid (HRx.out.below aa HRx.out.lt)
  have HRy := hid (HRy.out.below aa HRy.out.lt)
  have HRo := hid (HRo.out.below aa HRo.out.lt)
  have Q54 := hid (Q52.out.trans (aa.mono Q52.out.size))
  have HRp := hid rr; have HVV53 := hid hV53; have HGp := hid hGp
  clear rr aa hV53 hGp
  go_upto_region 17 with fail
  rw [← HVV53.out, HGp.out]
  clear HVV53 HGp
  have e0 := HRe.out.cell 0; have e1 := HRe.out.cell 1; have e2 := HRe.out.cell 2; have e3 := HRe.out.cell 3; have e4 := HRe.out.cell 4; have e5 := HRe.out.cell 5; have e6 := HRe.out.cell 6; have e7 := HRe.out.cell 7
  simp only [List.getElem?_cons_zero, List.getElem?_cons_succ] at e0 e1 e2 e3 e4 e5 e6 e7
  go_wp2_with fail
  with_reducible refine (CMs.out V53 (HST.out.below Q54.out HLT.out)).mono ?_
  rintro e w55 ⟨rfl, hB⟩
  clear e0 e1 e2 e3 e4 e5 e6 e7
  have HRe := hid (HRe.out.below hB HRe.out.lt)
  have HRx := hid (HRx.out.below hB HRx.out.lt)
  have HRy := hid (HRy.out.below hB HRy.out.lt)
  have HRo := hid (HRo.out.below hB HRo.out.lt)
  have HRp := hid (HRp.out.below hB HRp.out.lt)
  have Q56 := hid (Q54.out.trans (hB.mono Q54.out.size))
  clear hB
  have rr := Row.new w55 30 [.int .u8 (dg F 0), .int .u8 (dg F 1), .int .u8 (dg F 2), .int .u8 (dg F 3), .int .u8 (dg F 4), .int .u8 (dg F 5), .int .u8 (dg F 6), .int .u8 (dg F 7)]
  have aa : Below w55.heap.size w55 (w55.alloc (.cells #[.int .u8 (dg F 0), .int .u8 (dg F 1), .int .u8 (dg F 2), .int .u8 (dg F 3), .int .u8 (dg F 4), .int .u8 (dg F 5), .int .u8 (dg F 6), .int .u8 (dg F 7)] 30)) := (Below.refl _ _).alloc (Nat.le_refl _) _
  obtain ⟨Gq, hGq⟩ : ∃ y, w55.heap.size = y := ⟨_, rfl⟩
  obtain ⟨V57, hV57⟩ : ∃ X, X = w55.alloc (.cells #[.int .u8 (dg F 0), .int .u8 (dg F 1), .int .u8 (dg F 2), .int .u8 (dg F 3), .int .u8 (dg F 4), .int .u8 (dg F 5), .int .u8 (dg F 6), .int .u8 (dg F 7)] 30) := ⟨_, rfl⟩
  rw [← hV57] at rr aa
  rw [hGq] at rr
  have HRe := hid (HRe.out.below aa HRe.out.lt)
  have HRx := hid (HRx.out.below aa HRx.out.lt)
  have HRy := hid (HRy.out.below aa HRy.out.lt)
  have HRo := hid (HRo.out.below aa HRo.out.lt)
  have HRp := hid (HRp.out.below aa HRp.out.lt)
  have Q58 := hid (Q56.out.trans (aa.mono Q56.out.size))
  have HRq := hid rr; have HVV57 := hid hV57; have HGq := hid hGq
  clear rr aa hV57 hGq
  go_upto_region 18 with fail
  rw [← HVV57.out, HGq.out]
  clear HVV57 HGq
  have q0 := HRq.out.cell 0; have q1 := HRq.out.cell 1; have q2 := HRq.out.cell 2; have q3 := HRq.out.cell 3; have q4 := HRq.out.cell 4; have q5 := HRq.out.cell 5; have q6 := HRq.out.cell 6; have q7 := HRq.out.cell 7
  simp only [List.getElem?_cons_zero, List.getElem?_cons_succ] at q0 q1 q2 q3 q4 q5 q6 q7
  go_wp2_with fail
  with_reducible refine (CM2.out V57 (HST.out.below Q58.out HLT.out)).mono ?_
  rintro e w59 ⟨rfl, hB⟩
  clear q0 q1 q2 q3 q4 q5 q6 q7
  have HRe := hid (HRe.out.below hB HRe.out.lt)
  have HRx := hid (HRx.out.below hB HRx.out.lt)
  have HRy := hid (HRy.out.below hB HRy.out.lt)
  have HRo := hid (HRo.out.below hB HRo.out.lt)
  have HRp := hid (HRp.out.below hB HRp.out.lt)
  have HRq := hid (HRq.out.below hB HRq.out.lt)
  have Q60 := hid (Q58.out.trans (hB.mono Q58.out.size))
  clear hB
  have rr := Row.new w59 30 [.int .u8 (dg D 0), .int .u8 (dg D 1), .int .u8 (dg D 2), .int .u8 (dg D 3), .int .u8 (dg D 4), .int .u8 (dg D 5), .int .u8 (dg D 6), .int .u8 (dg D 7)]
  have aa : Below w59.heap.size w59 (w59.alloc (.cells #[.int .u8 (dg D 0), .int .u8 (dg D 1), .int .u8 (dg D 2), .int .u8 (dg D 3), .int .u8 (dg D 4), .int .u8 (dg D 5), .int .u8 (dg D 6), .int .u8 (dg D 7)] 30)) := (Below.refl _ _).alloc (Nat.le_refl _) _
  obtain ⟨Gs, hGs⟩ : ∃ y, w59.heap.size = y := ⟨_, rfl⟩
  obtain ⟨V61, hV61⟩ : ∃ X, X = w59.alloc (.cells #[.int .u8 (dg D 0), .int .u8 (dg D 1), .int .u8 (dg D 2), .int .u8 (dg D 3), .int .u8 (dg D 4), .int .u8 (dg D 5), .int .u8 (dg D 6), .int .u8 (dg D 7)] 30) := ⟨_, rfl⟩
  rw [← hV61] at rr aa
  rw [hGs] at rr
  have HRe := hid (HRe.out.below aa HRe.out.lt)
  have HRx := hid (HRx.out.below aa HRx.out.lt)
  have HRy := hid (HRy.out.below aa HRy.out.lt)
  have HRo := hid (HRo.out.below aa HRo.out.lt)
  have HRp := hid (HRp.out.below aa HRp.out.lt)
  have HRq := hid (HRq.out.below aa HRq.out.lt)
  have Q62 := hid (Q60.out.trans (aa.mono Q60.out.size))
  have HRs := hid rr; have HVV61 := hid hV61; have HGs := hid hGs
  clear rr aa hV61 hGs
  go_upto_region 19 with fail
  rw [← HVV61.out, HGs.out]
  clear HVV61 HGs
  have q0 := HRq.out.cell 0; have q1 := HRq.out.cell 1; have q2 := HRq.out.cell 2; have q3 := HRq.out.cell 3; have q4 := HRq.out.cell 4; have q5 := HRq.out.cell 5; have q6 := HRq.out.cell 6; have q7 := HRq.out.cell 7
  simp only [List.getElem?_cons_zero, List.getElem?_cons_succ] at q0 q1 q2 q3 q4 q5 q6 q7
  go_wp2_with fail
  with_reducible refine (VL2.out V61 (HST.out.below Q62.out HLT.out)).mono ?_
  rintro e w63 ⟨rfl, hB⟩
  clear q0 q1 q2 q3 q4 q5 q6 q7
  have HRe := hid (HRe.out.below hB HRe.out.lt)
  have HRx := hid (HRx.out.below hB HRx.out.lt)
  have HRy := hid (HRy.out.below hB HRy.out.lt)
  have HRo := hid (HRo.out.below hB HRo.out.lt)
  have HRp := hid (HRp.out.below hB HRp.out.lt)
  have HRq := hid (HRq.out.below hB HRq.out.lt)
  have HRs := hid (HRs.out.below hB HRs.out.lt)
  have Q64 := hid (Q62.out.trans (hB.mono Q62.out.size))
  clear hB
  have emv : (mv != mv) = false := by simp
  have ezv : (z - 1 - v != z - 1 - v) = false := by simp
  have x0 := HRx.out.cell 0; have x1 := HRx.out.cell 1; have x2 := HRx.out.cell 2; have x3 := HRx.out.cell 3; have x4 := HRx.out.cell 4; have x5 := HRx.out.cell 5; have x6 := HRx.out.cell 6; have x7 := HRx.out.cell 7
  simp only [List.getElem?_cons_zero, List.getElem?_cons_succ] at x0 x1 x2 x3 x4 x5 x6 x7
  have y0 := HRy.out.cell 0; have y1 := HRy.out.cell 1; have y2 := HRy.out.cell 2; have y3 := HRy.out.cell 3; have y4 := HRy.out.cell 4; have y5 := HRy.out.cell 5; have y6 := HRy.out.cell 6; have y7 := HRy.out.cell 7
  simp only [List.getElem?_cons_zero, List.getElem?_cons_succ] at y0 y1 y2 y3 y4 y5 y6 y7
  have o0 := HRo.out.cell 0; have o1 := HRo.out.cell 1; have o2 := HRo.out.cell 2; have o3 := HRo.out.cell 3; have o4 := HRo.out.cell 4; have o5 := HRo.out.cell 5; have o6 := HRo.out.cell 6; have o7 := HRo.out.cell 7
  simp only [List.getElem?_cons_zero, List.getElem?_cons_succ] at o0 o1 o2 o3 o4 o5 o6 o7
  have e0 := HRe.out.cell 0; have e1 := HRe.out.cell 1; have e2 := HRe.out.cell 2; have e3 := HRe.out.cell 3; have e4 := HRe.out.cell 4; have e5 := HRe.out.cell 5; have e6 := HRe.out.cell 6; have e7 := HRe.out.cell 7
  simp only [List.getElem?_cons_zero, List.getElem?_cons_succ] at e0 e1 e2 e3 e4 e5 e6 e7
  have p0 := HRp.out.cell 0; have p1 := HRp.out.cell 1; have p2 := HRp.out.cell 2; have p3 := HRp.out.cell 3; have p4 := HRp.out.cell 4; have p5 := HRp.out.cell 5; have p6 := HRp.out.cell 6; have p7 := HRp.out.cell 7
  simp only [List.getElem?_cons_zero, List.getElem?_cons_succ] at p0 p1 p2 p3 p4 p5 p6 p7
  have q0 := HRq.out.cell 0; have q1 := HRq.out.cell 1; have q2 := HRq.out.cell 2; have q3 := HRq.out.cell 3; have q4 := HRq.out.cell 4; have q5 := HRq.out.cell 5; have q6 := HRq.out.cell 6; have q7 := HRq.out.cell 7
  simp only [List.getElem?_cons_zero, List.getElem?_cons_succ] at q0 q1 q2 q3 q4 q5 q6 q7
  have s0 := HRs.out.cell 0; have s1 := HRs.out.cell 1; have s2 := HRs.out.cell 2; have s3 := HRs.out.cell 3; have s4 := HRs.out.cell 4; have s5 := HRs.out.cell 5; have s6 := HRs.out.cell 6; have s7 := HRs.out.cell 7
  simp only [List.getElem?_cons_zero, List.getElem?_cons_succ] at s0 s1 s2 s3 s4 s5 s6 s7
  go_upto_region 25 with fail
  clear x0 x1 x2 x3 x4 x5 x6 x7 y0 y1 y2 y3 y4 y5 y6 y7 o0 o1 o2 o3 o4 o5 o6 o7 e0 e1 e2 e3 e4 e5 e6 e7 p0 p1 p2 p3 p4 p5 p6 p7 q0 q1 q2 q3 q4 q5 q6 q7 s0 s1 s2 s3 s4 s5 s6 s7
  clear emv ezv neD neE neF UPi UPs DN CMi CMs CM2 VL2 wz1 wzv HRx HRy HRo HRp HRq HRs
  go_loopw [36, 37, 38] (fun s36 s37 s38 wr => ∃ (k : Nat) (al pl : Int), k ≤ n ∧ s38 = .int .i64 k ∧ s36 = .int .i64 al ∧ s37 = .int .i64 pl ∧ al = v % szL (Z.take k) ∧ pl = szL (Z.take k) ∧ Below w63.heap.size w63 wr) (fun _ _ s38 _ => n - (intOf s38).toNat)
  case atStart => exact ⟨0, 0, 1, Nat.zero_le _, rfl, rfl, rfl, by rw [List.take_zero, szL_nil]; omega, by rw [List.take_zero, szL_nil], Below.refl _ _⟩
  case round =>
    obtain ⟨k, al, pl, hkn, rfl, rfl, rfl, hal, hpl, qq⟩ := hrel
    by_cases hlt : k < n
    · have hlt' : (k : Int) < (n : Int) := by omega
      have hk0 : (0 : Int) ≤ (k : Int) := by omega
      have hk8 : (k : Int) < 8 := by have := HNB.out; omega
      have hkZ : k < Z.length := by rw [HN.out]; exact hlt
      have wk : IntKind.i64.wrap ((k : Int) + 1) = ((k + 1 : Nat) : Int) := by rw [IntWalk.i64_in _ (by have := HNB.out; omega)]; omega
      have QA := hid (Q64.out.trans (qq.mono Q64.out.size))
      have PC := hid (fun W s => PLC.out k hkZ W s)
      have LC := hid (fun W s => LST.out k hkZ (by simp [Lit.wf]; have := HNB.out; exact ⟨by show -9223372036854775808 ≤ (k : Int); omega, by show (k : Int) ≤ 9223372036854775807; omega⟩) W s)
      rw [← hpl] at PC LC
      rw [← hpl] at hal
      rw [← hal] at LC
      have pb := PBD.out k (by omega)
      have zb := HIN.out k hkZ
      have lsu := LSU.out k hkZ
      have psu := PSU.out k hkZ
      have pb2 := PBD.out (k + 1) (by omega)
      have db := HDB.out k (by omega)
      have dd : 0 ≤ dg D k ∧ dg D k ≤ 99 := db
      have zlt : szL (Z.take (k + 1)) ≤ z := by
        obtain ⟨R, hR⟩ := szL_rest Z (k + 1) (Z.length - (k + 1)) (by omega)
        rw [show k + 1 + (Z.length - (k + 1)) = Z.length by omega, List.take_length, HZ.out] at hR
        have hp := pb2.1
        by_cases h1 : 1 ≤ R
        · have := Int.mul_le_mul_of_nonneg_left h1 (show 0 ≤ szL (Z.take (k + 1)) by omega)
          rw [Int.mul_one, ← hR] at this; exact this
        · have := Int.mul_nonpos_of_nonneg_of_nonpos (show 0 ≤ szL (Z.take (k + 1)) by omega) (show R ≤ 0 by omega)
          have := HZB.out; omega
      have cs := ((HST.out.below QA.out HLT.out).2.1 k hkZ)
      have ce := row_dgC (HRe.out.below qq HRe.out.lt) k (by omega)
      rw [← hpl, ← hal] at lsu
      rw [← hpl] at psu pb
      have zbb := HZB.out; have vbb := HVB.out
      have al0 : 0 ≤ al ∧ al < pl := by rw [hal]; exact ⟨Int.emod_nonneg _ (by omega), Int.emod_lt_of_pos _ (by omega)⟩
      have tm : v.tmod pl = al := by rw [Int.tmod_eq_emod_of_nonneg (by omega)]; exact hal.symm
      have lb2 : 0 ≤ v % szL (Z.take (k + 1)) ∧ v % szL (Z.take (k + 1)) < szL (Z.take (k + 1)) := ⟨Int.emod_nonneg _ (by omega), Int.emod_lt_of_pos _ (by omega)⟩
      obtain ⟨zk, hzk⟩ : ∃ y, Z[k]?.getD 0 = y := ⟨_, rfl⟩
      obtain ⟨dk, hdk⟩ : ∃ y, dg D k = y := ⟨_, rfl⟩
      rw [hzk] at cs zb psu
      rw [hdk] at ce lsu dd
      have dp : 0 ≤ dk * pl := Int.mul_nonneg dd.1 (by omega)
      have wd : IntKind.i64.wrap dk = dk := IntWalk.i64_in _ (by omega)
      have wzk : IntKind.i64.wrap zk = zk := IntWalk.i64_in _ (by omega)
      have wdp : IntKind.i64.wrap (dk * pl) = dk * pl := IntWalk.i64_in _ (by omega)
      have was : IntKind.i64.wrap (al + dk * pl) = al + dk * pl := IntWalk.i64_in _ (by omega)
      have wpz : IntKind.i64.wrap (pl * zk) = pl * zk := IntWalk.i64_in _ (by rw [← psu]; omega)
      have wal : IntKind.i64.wrap al = al := IntWalk.i64_in _ (by omega)
      have pl0 : pl ≠ 0 := by omega
      have ep : (pl != pl) = false := by simp
      have ea : (al != al) = false := by simp
      have REL := hid (And.intro lsu psu)
      have QQ := hid qq; have CE := hid ce; have CS := hid cs
      have CEK := hid (fun W (hb : Below wr.heap.size wr W) => show W.cell? ⟨Ge, k, none⟩ = some (.int .u8 dk) from (hb.cell (p := ⟨Ge, k, none⟩) (Nat.lt_of_lt_of_le HRe.out.lt qq.size)).trans ce)
      have CSK := hid (fun W (hb : Below wr.heap.size wr W) => show W.cell? ⟨B, k, none⟩ = some (.int .u8 zk) from (hb.cell (p := ⟨B, k, none⟩) (Nat.lt_of_lt_of_le HLT.out QA.out.size)).trans cs)
      have HRw := hid (HRe.out.below qq HRe.out.lt)
      clear hkn hal hpl pb zb lsu psu pb2 db dd zlt cs ce zbb vbb al0 lb2 hzk hdk dp qq
      go_wp2_with fail
      with_reducible refine (PC.out wr (HST.out.below QA.out HLT.out)).mono ?_
      rintro e wA ⟨rfl, hB⟩
      have QB := hid (QA.out.trans (hB.mono QA.out.size)); have PB1 := hid hB
      have HRw := hid (HRw.out.below hB HRw.out.lt)
      clear hB
      have c0 := HRw.out.cell 0; have c1 := HRw.out.cell 1; have c2 := HRw.out.cell 2; have c3 := HRw.out.cell 3; have c4 := HRw.out.cell 4; have c5 := HRw.out.cell 5; have c6 := HRw.out.cell 6; have c7 := HRw.out.cell 7
      simp only [List.getElem?_cons_zero, List.getElem?_cons_succ] at c0 c1 c2 c3 c4 c5 c6 c7
      go_wp2_with fail
      with_reducible refine (LC.out wA (HST.out.below QB.out HLT.out)).mono ?_
      rintro e wC ⟨rfl, hB⟩
      have PB2 := hid (PB1.out.trans (hB.mono PB1.out.size))
      clear hB c0 c1 c2 c3 c4 c5 c6 c7
      have ce := CEK.out wC PB2.out
      have cs := CSK.out wC PB2.out
      go_wp2_with fail
      go_roundw
      case rel => exact ⟨k + 1, al + dk * pl, pl * zk, by omega, by first | rfl | exact congrArg (Value.int .i64) (by omega), rfl, rfl, REL.out.1.symm, REL.out.2.symm, QQ.out.trans (PB2.out.mono QQ.out.size)⟩
      case measure => simp [intOf]; omega
    · obtain rfl : k = n := by omega
      have hge : ¬ (k : Int) < (k : Int) := by omega
      have et : Z.take k = Z := by rw [← HN.out]; exact List.take_length
      rw [et, HZ.out] at hal hpl
      rw [Int.emod_eq_of_lt HVB.out.1 HVB.out.2] at hal
      subst hal
      subst hpl
      have QE := hid (Q64.out.trans (qq.mono Q64.out.size))
      have e1 : (al == al) = true := by simp
      have e2 : (pl == pl) = true := by simp
      clear qq hkn
      go_wp2_with fail
      go_ret
      exact ⟨rfl, B0.out.trans (QE.out.mono B0.out.size)⟩
set_option maxRecDepth 100000 in
set_option maxHeartbeats 1000000 in
theorem law_FnStacks (a : Option Addr) (len cap : Nat) (zs : List Int) (a' : Option Addr) (len' cap' : Nat) (zs' : List Int) (w : World) (h : InB w a len zs) (h' : InB w a' len' zs') (tS : TypeId) (pS : Value) (tR : TypeId) (pR : Value) (m : Int) (hL : LW w tS pS tR pR m) :
    Calls Tryz.prog 3 #[.slice a len cap, .slice a' len' cap'] w fun e w' => e = .returned (.bool true) ∧ Below w.heap.size w w' := by
  by_cases hl : len ≤ 4096
  · by_cases hl' : len' ≤ 4096
    · exact law_FnStacks_in a len cap zs a' len' cap' zs' w h h' hl hl' tS pS tR pR m hL
    · have F1 := hid (f6big_no a len cap w hl); have F2 := hid (f6big_yes a' len' cap' w (by omega))
      clear h h' hl hl' hL
      go_enter Tryz.func3, Tryz.ntmps3
      go_wp2_with fail
      refine F1.out.mono ?_
      rintro e w1 ⟨rfl, hw⟩
      subst hw
      go_wp2_with fail
      refine F2.out.mono ?_
      rintro e w2 ⟨rfl, hw⟩
      subst hw
      go_wp2_with fail
      go_ret
      exact ⟨rfl, Below.refl _ _⟩
  · have F1 := hid (f6big_yes a len cap w (by omega))
    clear h h' hl hL
    go_enter Tryz.func3, Tryz.ntmps3
    go_wp2_with fail
    refine F1.out.mono ?_
    rintro e w1 ⟨rfl, hw⟩
    subst hw
    go_wp2_with fail
    go_ret
    exact ⟨rfl, Below.refl _ _⟩
end Go.Proofs.YtfifnngdmhdkiaaGreatDoor
