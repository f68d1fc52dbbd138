/- Texts of this seat, merged: LcPrintTicket LawsPT Ld4. -/
import Derived.Stop.LaidErr
import Derived.Test.YthifegbmpmialaaDoorMgFnExactPrintTicket

namespace Go.Proofs.YthifegbmpmialaaDoor
open Go.RowKit
set_option linter.unusedVariables false
set_option linter.unusedSimpArgs false
theorem eqTicketL (m : Int) (tds : List Int) (ch : Int) (w : World) : Calls Tryd.prog 25 #[.agg (tkC m tds ch).toArray, .agg (tkC m tds ch).toArray] w fun e w' => e = .returned (.bool true) ∧ Below w.heap.size w w' := eqTicket_same _ _ _ _ _ _ _ _ _ _ w
set_option maxRecDepth 100000 in
set_option maxHeartbeats 16000000 in
theorem lawc_FnExactPrintTicket (a : Option Addr) (len cap : Nat) (zs ds : List Int) (pr : Int) (st : Bool) (tk : Int) (w : World) (hle : len ≤ 1048576) (hI : InB w a len zs) (hn : len = zs.length) (E es : List Int) (P : Int) (St : Bool) (T m : Int) (tds : List Int) (ch c : Int) (a0 a1 a2 a3 : Addr) (hSN : SN w a0 a1 a2 a3)
    (HS : ∀ (B : Nat) (w1 : World), Stk w1 B zs → Calls Tryd.prog 23 #[.agg (dvC (.slice (some ⟨B, 0, none⟩) len len) ds pr st tk).toArray] w1 (PrtG E es P St T m tds ch c w1))
    (HM : ∀ (B : Nat) (w1 : World), Stk w1 B zs → SN w1 a0 a1 a2 a3 → Calls Tryd.prog 24 #[.agg (dvC (.slice (some ⟨B, 0, none⟩) len len) ds pr st tk).toArray] w1 (PrtG E es P St T m tds ch c w1)) :
    Calls Tryd.prog 5 #[.agg (dvC (.slice a len cap) ds pr st tk).toArray] w fun e w' => e = .returned (.bool true) ∧ Below w.heap.size w w' := by
  have hID : (Tryd.prog.info? 33).map (·.size) = some 12 := Tryd.infoDev
  have hIL : (Tryd.prog.info? 25).map (·.size) = some 12 := Tryd.infoDevL
  have hIK : (Tryd.prog.info? 52).map (·.size) = some 10 := by kernel_rfl
  obtain ⟨V0, hV0⟩ : ∃ V, V = (w.alloc (.cells (dvC (.slice a len cap) ds pr st tk).toArray 25)) := ⟨_, rfl⟩
  have b0 : Below w.heap.size w V0 := by rw [hV0]; exact (Below.refl _ _).alloc (Nat.le_refl _) _
  have QA0 : Row V0 w.heap.size 25 (dvC (.slice a len cap) ds pr st tk) := by rw [hV0]; exact Row.new w _ _
  have q : Below V0.heap.size V0 V0 := Below.refl _ _
  have HV0 := hid hV0; have HI := hid hI; have HN := hid hn; have HSP := hid HS; have HIM := hid HM; have HSN := hid hSN
  have HSTK := hid (fun (b : Nat) (w1 : World) (r : Row w1 b 5 (zs.map (Value.int .u8))) => r.stk HI.out.2.1 (by rw [← HN.out]; exact hle))
  have fc : (c != c) = false := by simp
  have fE : ((1 + (E.length : Int)) != (1 + (E.length : Int))) = false := by simp
  have f3 : (0 : Int) ≤ 1 + (E.length : Int) := by omega
  have f4 : (0 : Int) ≤ 1 + (len : Int) := by omega
  have hz : (0 : Int) ≤ 1048576 - (len : Int) := by omega
  clear hV0 hI hn HS HM hSN
  go_enter Tryd.func5, Tryd.ntmps5
  go_wp2_with ((with_reducible refine wpList_load_row rfl 25 _ rfl w.heap.size ?_ 25 (dvC (.slice a len cap) ds pr st tk).toArray (0, 0) _ ?_ Tryd.underlying25 ?_ ?_ ?_); rfl; exact (by rw [← HV0.out]; exact QA0); rfl; exact hIL)
  rw [← HV0.out]
  with_reducible refine (szDeviceL a len cap ds pr st tk _ hle).mono ?_
  rintro e w1 ⟨rfl, hB⟩
  replace q := q.trans (hB.mono q.size)
  clear hB
  go_wp2_with ((with_reducible refine wpList_load_row rfl 25 _ rfl w.heap.size ?_ 25 (dvC (.slice a len cap) ds pr st tk).toArray (0, 0) _ ?_ Tryd.underlying25 ?_ ?_ ?_); rfl; exact (QA0.below q QA0.lt); rfl; exact hIL)
  with_reducible refine (toDeviceL a len cap zs ds pr st tk _ (HI.out.below (b0.trans (q.mono b0.size)) (Nat.le_refl _)) hle).mono ?_
  rintro e w3 ⟨X1, rfl, hB, hX, _⟩
  replace q := q.trans (hB.mono q.size)
  clear hB
  go_wp2_with fail
  with_reducible refine (HSP.out X1 w3 (HSTK.out X1 w3 hX)).mono ?_
  rintro e w5 ⟨a3s, n3, c3, rfl, O3, hB⟩
  replace q := q.trans (hB.mono q.size)
  clear hB hX
  obtain ⟨Va, hVa⟩ : ∃ zz, zz = (w5.alloc (.cells #[.slice none 0 0, .int .u8 0, .int .u8 0, .int .u8 0, .int .u8 0, .int .u8 0, .int .u8 0, .int .u8 0, .int .u8 0, .int .i64 0, .bool false, .int .i64 0] 33)).alloc (.cells #[.int .i64 0, .int .u8 0, .int .u8 0, .int .u8 0, .int .u8 0, .int .u8 0, .int .u8 0, .int .u8 0, .int .u8 0, .int .u16 0] 52) := ⟨_, rfl⟩
  have ra : Row Va w5.heap.size 33 dvZ := by rw [hVa]; exact (Row.new w5 _ dvZ).alloc _
  have rb : Row Va (w5.heap.size + 1) 52 tkZ := by
    have h := Row.new (w5.alloc (.cells #[.slice none 0 0, .int .u8 0, .int .u8 0, .int .u8 0, .int .u8 0, .int .u8 0, .int .u8 0, .int .u8 0, .int .u8 0, .int .i64 0, .bool false, .int .i64 0] 33)) 52 tkZ
    simp only [World.size_alloc] at h
    rw [hVa]; exact h
  have hA : Below w5.heap.size w5 Va := by rw [hVa]; exact ((Below.refl _ _).alloc (Nat.le_refl _) _).alloc (by simp) _
  have TT := ra.thereO 0 12 (by rw [dvZ_len]; omega)
  have TU := (rb.setCellsO (g := w5.heap.size) (by omega) (dvC (.slice a3s n3 c3) es P St T) 0).thereO 0 10 (by rw [tkZ_len]; omega)
  rw [hVa] at TT TU
  obtain ⟨V3, hV⟩ : ∃ zz, zz = (Va.setCells w5.heap.size 0 (dvC (.slice a3s n3 c3) es P St T)).setCells (w5.heap.size + 1) 0 (tkC m tds ch) := ⟨_, rfl⟩
  have R0 : Row V3 w5.heap.size 33 (dvC (.slice a3s n3 c3) es P St T) := by rw [hV]; exact (ra.setAll (ys := (dvC (.slice a3s n3 c3) es P St T)) rfl).setCellsO (by omega) _ _
  have K0 : Row V3 (w5.heap.size + 1) 52 (tkC m tds ch) := by rw [hV]; exact (rb.setCellsO (by omega) (dvC (.slice a3s n3 c3) es P St T) 0).setAll rfl
  have hB : Below w5.heap.size w5 V3 := by rw [hV]; exact below_setCellsD _ 0 _ (below_setCellsD (dvC (.slice a3s n3 c3) es P St T) 0 _ hA (Nat.le_refl _)) (by omega)
  have hEq : World.setCells (World.setCells ((w5.alloc (.cells #[.slice none 0 0, .int .u8 0, .int .u8 0, .int .u8 0, .int .u8 0, .int .u8 0, .int .u8 0, .int .u8 0, .int .u8 0, .int .i64 0, .bool false, .int .i64 0] 33)).alloc (.cells #[.int .i64 0, .int .u8 0, .int .u8 0, .int .u8 0, .int .u8 0, .int .u8 0, .int .u8 0, .int .u8 0, .int .u8 0, .int .u16 0] 52)) w5.heap.size 0 (dvC (.slice a3s n3 c3) es P St T).toArray.toList) (w5.heap.size + 1) 0 (tkC m tds ch).toArray.toList = V3 := by rw [← hVa]; exact hV.symm
  have HEQ := hid hEq
  clear hEq hV hVa hA ra rb
  replace q := q.trans (hB.mono q.size)
  replace O3 := O3.keep hB
  clear hB
  have c3b : Below V3.heap.size V3 V3 := Below.refl _ _
  have HQ3 := hid q.size
  obtain ⟨g0, heqg0⟩ : ∃ y, y = w5.heap.size := ⟨_, rfl⟩
  obtain ⟨k0, heqk0⟩ : ∃ y, y = w5.heap.size + 1 := ⟨_, rfl⟩
  go_upto_region 6 with (first | ((with_reducible refine wpList_store_mid rfl 33 _ _ rfl (w5.heap.size) 0 (dvC (.slice a3s n3 c3) es P St T).toArray ?_ ?_ ?_ ?_ (all_oneCell_toArray (dvC_one _ _ _ _ _ _ _)) ?_); rfl; rfl; exact TT; exact hID) | ((with_reducible refine wpList_store_mid rfl 52 _ _ rfl (w5.heap.size + 1) 0 (tkC m tds ch).toArray ?_ ?_ ?_ ?_ (all_oneCell_toArray (tkC_one _ _ _)) ?_); rfl; rfl; exact TU; exact hIK))
  rw [HEQ.out]
  try simp only [Act.put]
  rw [← heqk0] at K0 ⊢
  rw [← heqg0] at R0 ⊢
  clear TT TU HEQ heqg0 heqk0
  go_wp2_with ((with_reducible refine wpList_load_row rfl 25 _ rfl w.heap.size ?_ 25 (dvC (.slice a len cap) ds pr st tk).toArray (0, 0) _ ?_ Tryd.underlying25 ?_ ?_ ?_); rfl; exact (QA0.below q QA0.lt); rfl; exact hIL)
  with_reducible refine (toDeviceL a len cap zs ds pr st tk _ (HI.out.below (b0.trans (q.mono b0.size)) (Nat.le_refl _)) hle).mono ?_
  rintro e w7 ⟨X, rfl, hB, hX, hXl⟩
  replace q := q.trans (hB.mono q.size)
  replace c3b := c3b.trans (hB.mono c3b.size)
  clear hB
  have HXL := hid (show V3.heap.size ≤ X from hXl)
  obtain ⟨V8', hV8'⟩ : ∃ zz, zz = w7.alloc (.cells #[.slice none 0 0, .int .u8 0, .int .u8 0, .int .u8 0, .int .u8 0, .int .u8 0, .int .u8 0, .int .u8 0, .int .u8 0, .int .i64 0, .bool false, .int .i64 0] 33) := ⟨_, rfl⟩
  have QX : Row V8' w7.heap.size 33 dvZ := by rw [hV8']; exact Row.new w7 _ dvZ
  have hA : Below w7.heap.size w7 V8' := by rw [hV8']; exact (Below.refl _ _).alloc (Nat.le_refl _) _
  have TT := QX.thereO 0 12 (by rw [dvZ_len]; omega)
  rw [hV8'] at TT
  obtain ⟨V8, hV8⟩ : ∃ zz, zz = V8'.setCells w7.heap.size 0 (dvC (.slice (some ⟨X, 0, none⟩) len len) ds pr st tk) := ⟨_, rfl⟩
  replace QX : Row V8 w7.heap.size 33 (dvC (.slice (some ⟨X, 0, none⟩) len len) ds pr st tk) := by rw [hV8]; exact QX.setAll (by rw [dvC_len, dvZ_len])
  have hB : Below w7.heap.size w7 V8 := by rw [hV8]; exact below_setCellsD (dvC (.slice (some ⟨X, 0, none⟩) len len) ds pr st tk) 0 _ hA (Nat.le_refl _)
  have hEq : World.setCells (w7.alloc (.cells #[.slice none 0 0, .int .u8 0, .int .u8 0, .int .u8 0, .int .u8 0, .int .u8 0, .int .u8 0, .int .u8 0, .int .u8 0, .int .i64 0, .bool false, .int .i64 0] 33)) w7.heap.size 0 (dvC (.slice (some ⟨X, 0, none⟩) len len) ds pr st tk).toArray.toList = V8 := by rw [← hV8']; exact hV8.symm
  have HEQ := hid hEq
  clear hEq hV8 hV8' hA
  have hXlt := hX.lt
  replace q := q.trans (hB.mono q.size)
  replace c3b := c3b.trans (hB.mono c3b.size)
  replace hX := hX.below hB hX.lt
  have lt8 : w7.heap.size < V8.heap.size := QX.lt
  clear hB
  obtain ⟨g9, hg9⟩ : ∃ y, y = w7.heap.size := ⟨_, rfl⟩
  go_upto_region 7 with ((with_reducible refine wpList_store_mid rfl 33 _ _ rfl (w7.heap.size) 0 (dvC (.slice (some ⟨X, 0, none⟩) len len) ds pr st tk).toArray ?_ ?_ ?_ ?_ (all_oneCell_toArray (dvC_one _ _ _ _ _ _ _)) ?_); rfl; rfl; exact TT; exact hID)
  rw [HEQ.out]
  try simp only [Act.put]
  rw [← hg9] at QX lt8 hXlt ⊢
  clear TT HEQ hg9 hXl
  have HX9 := hid (show X < g9 from hXlt)
  clear hXlt lt8
  have d : Below V8.heap.size V8 V8 := Below.refl _ _
  have HQ5 := hid q.size
  have HC5 := hid c3b.size
  go_wp2_with ((with_reducible refine wpList_load_row rfl 33 _ rfl g9 ?_ 33 (dvC (.slice (some ⟨X, 0, none⟩) len len) ds pr st tk).toArray (0, 0) _ ?_ Tryd.underlying33 ?_ ?_ ?_); rfl; exact QX; rfl; exact hID)
  with_reducible refine (HIM.out X V8 (HSTK.out X V8 hX) (HSN.out.below (b0.trans (q.mono b0.size)) trivial)).mono ?_
  rintro e w10 ⟨a6s, n6, c6, rfl, G6, hB1⟩
  obtain ⟨Va, hVa⟩ : ∃ zz, zz = (w10.alloc (.cells #[.slice none 0 0, .int .u8 0, .int .u8 0, .int .u8 0, .int .u8 0, .int .u8 0, .int .u8 0, .int .u8 0, .int .u8 0, .int .i64 0, .bool false, .int .i64 0] 33)).alloc (.cells #[.int .i64 0, .int .u8 0, .int .u8 0, .int .u8 0, .int .u8 0, .int .u8 0, .int .u8 0, .int .u8 0, .int .u8 0, .int .u16 0] 52) := ⟨_, rfl⟩
  have ra : Row Va w10.heap.size 33 dvZ := by rw [hVa]; exact (Row.new w10 _ dvZ).alloc _
  have rb : Row Va (w10.heap.size + 1) 52 tkZ := by
    have h := Row.new (w10.alloc (.cells #[.slice none 0 0, .int .u8 0, .int .u8 0, .int .u8 0, .int .u8 0, .int .u8 0, .int .u8 0, .int .u8 0, .int .u8 0, .int .i64 0, .bool false, .int .i64 0] 33)) 52 tkZ
    simp only [World.size_alloc] at h
    rw [hVa]; exact h
  have hA : Below w10.heap.size w10 Va := by rw [hVa]; exact ((Below.refl _ _).alloc (Nat.le_refl _) _).alloc (by simp) _
  have TT := ra.thereO 0 12 (by rw [dvZ_len]; omega)
  have TU := (rb.setCellsO (g := w10.heap.size) (by omega) (dvC (.slice a6s n6 c6) es P St T) 0).thereO 0 10 (by rw [tkZ_len]; omega)
  rw [hVa] at TT TU
  obtain ⟨V6, hV⟩ : ∃ zz, zz = (Va.setCells w10.heap.size 0 (dvC (.slice a6s n6 c6) es P St T)).setCells (w10.heap.size + 1) 0 (tkC m tds ch) := ⟨_, rfl⟩
  have RG : Row V6 w10.heap.size 33 (dvC (.slice a6s n6 c6) es P St T) := by rw [hV]; exact (ra.setAll (ys := (dvC (.slice a6s n6 c6) es P St T)) rfl).setCellsO (by omega) _ _
  have KG : Row V6 (w10.heap.size + 1) 52 (tkC m tds ch) := by rw [hV]; exact (rb.setCellsO (by omega) (dvC (.slice a6s n6 c6) es P St T) 0).setAll rfl
  have hB : Below w10.heap.size w10 V6 := by rw [hV]; exact below_setCellsD _ 0 _ (below_setCellsD (dvC (.slice a6s n6 c6) es P St T) 0 _ hA (Nat.le_refl _)) (by omega)
  have hEq : World.setCells (World.setCells ((w10.alloc (.cells #[.slice none 0 0, .int .u8 0, .int .u8 0, .int .u8 0, .int .u8 0, .int .u8 0, .int .u8 0, .int .u8 0, .int .u8 0, .int .i64 0, .bool false, .int .i64 0] 33)).alloc (.cells #[.int .i64 0, .int .u8 0, .int .u8 0, .int .u8 0, .int .u8 0, .int .u8 0, .int .u8 0, .int .u8 0, .int .u8 0, .int .u16 0] 52)) w10.heap.size 0 (dvC (.slice a6s n6 c6) es P St T).toArray.toList) (w10.heap.size + 1) 0 (tkC m tds ch).toArray.toList = V6 := by rw [← hVa]; exact hV.symm
  have HEQ := hid hEq
  clear hEq hV hVa hA ra rb
  replace G6 := G6.keep hB
  have hB2 := hB1.trans (hB.mono hB1.size)
  have hg10 : V8.heap.size ≤ w10.heap.size := hB1.size
  clear hB hB1
  have hB := hB2
  clear hB2
  replace q := q.trans (hB.mono q.size)
  replace c3b := c3b.trans (hB.mono c3b.size)
  replace d := d.trans (hB.mono d.size)
  clear hB
  have e : Below V6.heap.size V6 V6 := Below.refl _ _
  obtain ⟨g10, heqg10⟩ : ∃ y, y = w10.heap.size := ⟨_, rfl⟩
  obtain ⟨k10, heqk10⟩ : ∃ y, y = w10.heap.size + 1 := ⟨_, rfl⟩
  go_upto_region 8 with (first | ((with_reducible refine wpList_store_mid rfl 33 _ _ rfl (w10.heap.size) 0 (dvC (.slice a6s n6 c6) es P St T).toArray ?_ ?_ ?_ ?_ (all_oneCell_toArray (dvC_one _ _ _ _ _ _ _)) ?_); rfl; rfl; exact TT; exact hID) | ((with_reducible refine wpList_store_mid rfl 52 _ _ rfl (w10.heap.size + 1) 0 (tkC m tds ch).toArray ?_ ?_ ?_ ?_ (all_oneCell_toArray (tkC_one _ _ _)) ?_); rfl; rfl; exact TU; exact hIK))
  rw [HEQ.out]
  try simp only [Act.put]
  rw [← heqk10] at KG ⊢
  rw [← heqg10] at RG hg10 ⊢
  clear TT TU HEQ heqg10 heqk10
  have HG10 := hid (show V8.heap.size ≤ g10 from hg10)
  clear hg10

  go_wp2_with (first | ((with_reducible refine wpList_load_row rfl 33 _ rfl g10 ?_ 33 (dvC (.slice a6s n6 c6) es P St T).toArray (0, 0) _ ?_ Tryd.underlying33 ?_ ?_ ?_); rfl; exact (RG.below e RG.lt); rfl; exact hID) | ((with_reducible refine wpList_load_row rfl 33 _ rfl g0 ?_ 33 (dvC (.slice a3s n3 c3) es P St T).toArray (0, 0) _ ?_ Tryd.underlying33 ?_ ?_ ?_); rfl; exact (R0.below c3b R0.lt); rfl; exact hID))
  with_reducible refine (eqDevO _ _ a6s n6 c6 a3s n3 c3 E es P St T _ (G6.keep e) (O3.keep c3b)).mono ?_
  rintro e w11a ⟨rfl, hB⟩
  replace q := q.trans (hB.mono q.size)
  replace c3b := c3b.trans (hB.mono c3b.size)
  replace d := d.trans (hB.mono d.size)
  replace e := e.trans (hB.mono e.size)
  clear hB
  go_wp2_with (first | ((with_reducible refine wpList_load_rowG ?_ 52 _ rfl k10 ?_ 52 (tkC m tds ch).toArray (0, 0) _ ?_ Tryd.underlying52 ?_ ?_ ?_); rfl; rfl; exact (KG.below e KG.lt); rfl; exact hIK) | ((with_reducible refine wpList_load_rowG ?_ 52 _ rfl k0 ?_ 52 (tkC m tds ch).toArray (0, 0) _ ?_ Tryd.underlying52 ?_ ?_ ?_); rfl; rfl; exact (K0.below c3b K0.lt); rfl; exact hIK))
  with_reducible refine (eqTicketL m tds ch _).mono ?_
  rintro e w11 ⟨rfl, hB⟩
  replace q := q.trans (hB.mono q.size)
  replace c3b := c3b.trans (hB.mono c3b.size)
  replace d := d.trans (hB.mono d.size)
  replace e := e.trans (hB.mono e.size)
  clear hB
  go_upto_region 10 with fail
  have QA := QA0.below q QA0.lt
  have QY := QX.below d QX.lt
  refine wp_region_held (S := fun W' : World => Row W' g9 33 (dvC (.slice (some ⟨X, 0, none⟩) len len) ds pr st tk) ∧ Row W' w.heap.size 25 (dvC (.slice a len cap) ds pr st tk)) (by kernel_rfl) ?_
  change wpAnyH _ _ _ _ _ _ _ _ (World.drew _)
  obtain ⟨W0, hW0⟩ : ∃ X, X = World.drew (w11) := ⟨_, rfl⟩
  have hD0 : Below (w11).heap.size (w11) W0 := by rw [hW0]; exact (Below.refl _ _).drew
  replace QY := QY.below hD0 QY.lt
  replace QA := QA.below hD0 QA.lt
  replace q := q.trans (hD0.mono q.size)
  replace c3b := c3b.trans (hD0.mono c3b.size)
  replace d := d.trans (hD0.mono d.size)
  replace e := e.trans (hD0.mono e.size)
  have bR : Below W0.heap.size W0 W0 := Below.refl _ _
  rw [← hW0]
  clear hW0 hD0
  have hS0 : (fun W' : World => Row W' g9 33 (dvC (.slice (some ⟨X, 0, none⟩) len len) ds pr st tk) ∧ Row W' w.heap.size 25 (dvC (.slice a len cap) ds pr st tk)) W0 := ⟨QY.below bR QY.lt, QA.below bR QA.lt⟩
  refine wpAnyH_takeD (some 52) (i := 0) (v := .agg ((dvC (.slice (some ⟨X, 0, none⟩) len len) ds pr st tk)).toArray) rfl rfl (by kernel_rfl) (by kernel_rfl) (by kernel_rfl) (fun _ _ _ h => h) (.inl ⟨by kernel_rfl, ?_⟩) hS0 ?_
  · intro w' hw'; exact exec_load_row 33 _ rfl g9 rfl 33 ((dvC (.slice (some ⟨X, 0, none⟩) len len) ds pr st tk)).toArray _ (hw'.1) Tryd.underlying33 rfl hID
  try simp only [Act.put, List.setIfInBounds_toArray, List.set_cons_zero, List.set_cons_succ]
  refine wpAnyH_takeD (some 53) (i := 1) (v := .agg ((dvC (.slice a len cap) ds pr st tk)).toArray) rfl rfl (by kernel_rfl) (by kernel_rfl) (by kernel_rfl) (fun _ _ _ h => h) (.inl ⟨by kernel_rfl, ?_⟩) hS0 ?_
  · intro w' hw'; exact exec_load_row 25 _ rfl w.heap.size rfl 25 ((dvC (.slice a len cap) ds pr st tk)).toArray _ (hw'.2) Tryd.underlying25 rfl hIL
  try simp only [Act.put, List.setIfInBounds_toArray, List.set_cons_zero, List.set_cons_succ]
  refine wpAnyH_all (rs := [2]) (by kernel_rfl) (by simp) ?_
  intro i hi; simp only [List.mem_cons, List.not_mem_nil, or_false] at hi
  subst hi
  refine wpOp_step rfl (fun K hK => ?_)
  go_simp
  with_reducible refine (toDeviceL a len cap zs ds pr st tk W0 (HI.out.below (b0.trans ((q.trans (bR.mono q.size)).mono b0.size)) (Nat.le_refl _)) hle).mono ?_
  rintro e v1 ⟨X2, rfl, hB1, hX2, _⟩
  replace bR := bR.trans (hB1.mono bR.size)
  have hS1 : (fun W' : World => Row W' g9 33 (dvC (.slice (some ⟨X, 0, none⟩) len len) ds pr st tk) ∧ Row W' w.heap.size 25 (dvC (.slice a len cap) ds pr st tk)) v1 := ⟨QY.below bR QY.lt, QA.below bR QA.lt⟩
  refine hK _ _ ⟨hS1, ?_⟩
  try simp only [Act.put, List.setIfInBounds_toArray, List.set_cons_zero, List.set_cons_succ]
  clear hB1 hK K hS0
  refine wpAnyH_all (rs := [3]) (by kernel_rfl) (by simp) ?_
  intro i hi; simp only [List.mem_cons, List.not_mem_nil, or_false] at hi
  subst hi
  refine wpOp_step rfl (fun K hK => ?_)
  go_simp
  with_reducible refine (eqDeviceL X X2 len len len zs ds pr st tk v1 (HSTK.out X v1 (hX.below (d.trans (bR.mono d.size)) hX.lt)) (HSTK.out X2 v1 hX2) HN.out).mono ?_
  rintro e v2 ⟨rfl, hB2⟩
  replace hX2 := hX2.below hB2 hX2.lt
  replace bR := bR.trans (hB2.mono bR.size)
  have hS2 : (fun W' : World => Row W' g9 33 (dvC (.slice (some ⟨X, 0, none⟩) len len) ds pr st tk) ∧ Row W' w.heap.size 25 (dvC (.slice a len cap) ds pr st tk)) v2 := ⟨QY.below bR QY.lt, QA.below bR QA.lt⟩
  refine hK _ _ ⟨hS2, ?_⟩
  try simp only [Act.put, List.setIfInBounds_toArray, List.set_cons_zero, List.set_cons_succ]
  clear hB2 hK K hS1
  refine wpAnyH_takeD (some 56) (i := 4) (v := ?_) rfl rfl (by kernel_rfl) (by kernel_rfl) (by kernel_rfl) (fun _ _ _ h => h) (.inl ⟨by kernel_rfl, ?_⟩) hS2 ?_
  rotate_left
  · intro w' hw'; clear hw'; go_simp; try with_reducible rfl
  try simp only [Act.put, List.setIfInBounds_toArray, List.set_cons_zero, List.set_cons_succ]
  refine wpAnyH_done (by kernel_rfl) ?_ _
  replace q := q.trans (bR.mono q.size)
  replace c3b := c3b.trans (bR.mono c3b.size)
  replace d := d.trans (bR.mono d.size)
  replace e := e.trans (bR.mono e.size)
  clear bR hX2 QA QY
  go_wp2_with ((with_reducible refine wpList_load_row rfl 33 _ rfl g9 ?_ 33 (dvC (.slice (some ⟨X, 0, none⟩) len len) ds pr st tk).toArray (0, 0) _ ?_ Tryd.underlying33 ?_ ?_ ?_); rfl; exact (QX.below d QX.lt); rfl; exact hID)
  with_reducible refine (markDeviceL X len len _ ds pr st tk (by rw [List.length_map]; exact HN.out.symm) hle _ (hX.below d hX.lt)).mono ?_
  rintro e1 w13 ⟨rfl, h10⟩
  have hXV : V3.heap.size ≤ X := HXL.out
  have hq0 := HQ5.out
  have hg10 := HG10.out
  have hX5 : X < V8.heap.size := hX.lt
  have hX0 := hX.below d hX.lt
  have hKG0 := KG.below e KG.lt
  obtain ⟨wv, hwv⟩ : ∃ z, OnlyB X z w13 ∧ Below v2.heap.size v2 z := ⟨_, h10, (Below.refl _ _).alloc (Nat.le_refl _) _⟩
  obtain ⟨ho, hB⟩ := hwv
  clear h10
  replace q := q.trans (hB.mono q.size)
  replace c3b := c3b.trans (hB.mono c3b.size)
  replace d := d.trans (hB.mono d.size)
  replace e := e.trans (hB.mono e.size)
  clear hB
  replace G6 := (G6.keep e).only ho hX5
  replace RG := ho.row (RG.below e RG.lt) (by omega)
  replace KG := ho.row (KG.below e KG.lt) (fun hh => by rw [hh] at hKG0; exact absurd (row_type hKG0 hX0) (by decide))
  have hHS := ho.1
  have hq3 : V0.heap.size ≤ V3.heap.size := HQ3.out
  replace q := q.trans (ho.2.2.mono (by omega))
  replace c3b := c3b.trans (ho.2.2.mono hXV)
  have hb5 : V8.heap.size ≤ w13.heap.size := by rw [hHS]; exact d.size
  clear d e ho hHS hX0 hKG0
  have e : Below w13.heap.size w13 w13 := Below.refl _ _
  go_wp2_with (first | ((with_reducible refine wpList_load_rowG ?_ 33 _ rfl g10 ?_ 33 (dvC (.slice a6s n6 c6) es P St T).toArray (0, 0) _ ?_ Tryd.underlying33 ?_ ?_ ?_); rfl; rfl; exact (RG.below e RG.lt); rfl; exact hID) | ((with_reducible refine wpList_load_rowG ?_ 33 _ rfl g0 ?_ 33 (dvC (.slice a3s n3 c3) es P St T).toArray (0, 0) _ ?_ Tryd.underlying33 ?_ ?_ ?_); rfl; rfl; exact (R0.below c3b R0.lt); rfl; exact hID))
  with_reducible refine (eqDevO _ _ a6s n6 c6 a3s n3 c3 E es P St T _ (G6.keep e) (O3.keep c3b)).mono ?_
  rintro e w15a ⟨rfl, hB⟩
  replace q := q.trans (hB.mono q.size)
  replace c3b := c3b.trans (hB.mono c3b.size)
  replace e := e.trans (hB.mono e.size)
  clear hB
  go_wp2_with (first | ((with_reducible refine wpList_load_rowG ?_ 52 _ rfl k10 ?_ 52 (tkC m tds ch).toArray (0, 0) _ ?_ Tryd.underlying52 ?_ ?_ ?_); rfl; rfl; exact (KG.below e KG.lt); rfl; exact hIK) | ((with_reducible refine wpList_load_rowG ?_ 52 _ rfl k0 ?_ 52 (tkC m tds ch).toArray (0, 0) _ ?_ Tryd.underlying52 ?_ ?_ ?_); rfl; rfl; exact (K0.below c3b K0.lt); rfl; exact hIK))
  with_reducible refine (eqTicketL m tds ch _).mono ?_
  rintro e w15 ⟨rfl, hB⟩
  replace q := q.trans (hB.mono q.size)
  replace c3b := c3b.trans (hB.mono c3b.size)
  replace e := e.trans (hB.mono e.size)
  clear hB
  go_wp2_with ((with_reducible refine wpList_load_row rfl 33 _ rfl g10 ?_ 33 (dvC (.slice a6s n6 c6) es P St T).toArray (0, 0) _ ?_ Tryd.underlying33 ?_ ?_ ?_); rfl; exact (RG.below e RG.lt); rfl; exact hID)
  with_reducible refine (markDevO V8.heap.size a6s n6 c6 E es P St T _ (G6.keep e) (Nat.le_trans hb5 e.size)).mono ?_
  rintro e1 w16 ⟨rfl, M16, hB, hK⟩
  replace RG := hK _ _ (RG.below e RG.lt)
  replace q := q.trans (hB.mono (by omega))
  replace c3b := c3b.trans (hB.mono (by omega))
  clear hB hK e G6
  have e : Below w16.heap.size w16 w16 := Below.refl _ _
  go_wp2_with ((with_reducible refine wpList_load_row rfl 33 _ rfl g10 ?_ 33 (dvC (.slice a6s n6 c6) es P St T).toArray (0, 0) _ ?_ Tryd.underlying33 ?_ ?_ ?_); rfl; exact (RG.below e RG.lt); rfl; exact hID)
  with_reducible refine (heldDevO V8.heap.size a6s n6 c6 E.length es P St T _ (M16.keep e)).mono ?_
  rintro e w17 ⟨rfl, hB⟩
  replace q := q.trans (hB.mono q.size)
  replace c3b := c3b.trans (hB.mono c3b.size)
  replace e := e.trans (hB.mono e.size)
  clear hB
  go_wp2_with ((with_reducible refine wpList_load_row rfl 25 _ rfl w.heap.size ?_ 25 (dvC (.slice a len cap) ds pr st tk).toArray (0, 0) _ ?_ Tryd.underlying25 ?_ ?_ ?_); rfl; exact (QA0.below q QA0.lt); rfl; exact hIL)
  with_reducible refine (toDeviceL a len cap zs ds pr st tk _ (HI.out.below (b0.trans (q.mono b0.size)) (Nat.le_refl _)) hle).mono ?_
  rintro e w18 ⟨X3, rfl, hB, hX3, _⟩
  replace q := q.trans (hB.mono q.size)
  replace c3b := c3b.trans (hB.mono c3b.size)
  replace e := e.trans (hB.mono e.size)
  clear hB
  go_wp2_with fail
  with_reducible refine (HIM.out X3 w18 (HSTK.out X3 w18 hX3) (HSN.out.below (b0.trans (q.mono b0.size)) trivial)).mono ?_
  rintro e1 w20 ⟨a9s, n9, c9, rfl, H9, hB⟩
  replace q := q.trans (hB.mono q.size)
  replace c3b := c3b.trans (hB.mono c3b.size)
  replace e := e.trans (hB.mono e.size)
  clear hB
  obtain ⟨Va, hVa⟩ : ∃ zz, zz = (w20.alloc (.cells #[.slice none 0 0, .int .u8 0, .int .u8 0, .int .u8 0, .int .u8 0, .int .u8 0, .int .u8 0, .int .u8 0, .int .u8 0, .int .i64 0, .bool false, .int .i64 0] 33)).alloc (.cells #[.int .i64 0, .int .u8 0, .int .u8 0, .int .u8 0, .int .u8 0, .int .u8 0, .int .u8 0, .int .u8 0, .int .u8 0, .int .u16 0] 52) := ⟨_, rfl⟩
  have ra : Row Va w20.heap.size 33 dvZ := by rw [hVa]; exact (Row.new w20 _ dvZ).alloc _
  have rb : Row Va (w20.heap.size + 1) 52 tkZ := by
    have h := Row.new (w20.alloc (.cells #[.slice none 0 0, .int .u8 0, .int .u8 0, .int .u8 0, .int .u8 0, .int .u8 0, .int .u8 0, .int .u8 0, .int .u8 0, .int .i64 0, .bool false, .int .i64 0] 33)) 52 tkZ
    simp only [World.size_alloc] at h
    rw [hVa]; exact h
  have hA : Below w20.heap.size w20 Va := by rw [hVa]; exact ((Below.refl _ _).alloc (Nat.le_refl _) _).alloc (by simp) _
  have TT := ra.thereO 0 12 (by rw [dvZ_len]; omega)
  have TU := (rb.setCellsO (g := w20.heap.size) (by omega) (dvC (.slice a9s n9 c9) es P St T) 0).thereO 0 10 (by rw [tkZ_len]; omega)
  rw [hVa] at TT TU
  obtain ⟨V15, hV⟩ : ∃ zz, zz = (Va.setCells w20.heap.size 0 (dvC (.slice a9s n9 c9) es P St T)).setCells (w20.heap.size + 1) 0 (tkC m tds ch) := ⟨_, rfl⟩
  have R16 : Row V15 w20.heap.size 33 (dvC (.slice a9s n9 c9) es P St T) := by rw [hV]; exact (ra.setAll (ys := (dvC (.slice a9s n9 c9) es P St T)) rfl).setCellsO (by omega) _ _
  have K16 : Row V15 (w20.heap.size + 1) 52 (tkC m tds ch) := by rw [hV]; exact (rb.setCellsO (by omega) (dvC (.slice a9s n9 c9) es P St T) 0).setAll rfl
  have hB : Below w20.heap.size w20 V15 := by rw [hV]; exact below_setCellsD _ 0 _ (below_setCellsD (dvC (.slice a9s n9 c9) es P St T) 0 _ hA (Nat.le_refl _)) (by omega)
  have hEq : World.setCells (World.setCells ((w20.alloc (.cells #[.slice none 0 0, .int .u8 0, .int .u8 0, .int .u8 0, .int .u8 0, .int .u8 0, .int .u8 0, .int .u8 0, .int .u8 0, .int .i64 0, .bool false, .int .i64 0] 33)).alloc (.cells #[.int .i64 0, .int .u8 0, .int .u8 0, .int .u8 0, .int .u8 0, .int .u8 0, .int .u8 0, .int .u8 0, .int .u8 0, .int .u16 0] 52)) w20.heap.size 0 (dvC (.slice a9s n9 c9) es P St T).toArray.toList) (w20.heap.size + 1) 0 (tkC m tds ch).toArray.toList = V15 := by rw [← hVa]; exact hV.symm
  have HEQ := hid hEq
  clear hEq hV hVa hA ra rb
  replace H9 := H9.keep hB
  replace q := q.trans (hB.mono q.size)
  replace c3b := c3b.trans (hB.mono c3b.size)
  replace e := e.trans (hB.mono e.size)
  clear hB
  obtain ⟨g16, heqg16⟩ : ∃ y, y = w20.heap.size := ⟨_, rfl⟩
  obtain ⟨k16, heqk16⟩ : ∃ y, y = w20.heap.size + 1 := ⟨_, rfl⟩
  go_upto_region 25 with (first | ((with_reducible refine wpList_store_mid rfl 33 _ _ rfl (w20.heap.size) 0 (dvC (.slice a9s n9 c9) es P St T).toArray ?_ ?_ ?_ ?_ (all_oneCell_toArray (dvC_one _ _ _ _ _ _ _)) ?_); rfl; rfl; exact TT; exact hID) | ((with_reducible refine wpList_store_mid rfl 52 _ _ rfl (w20.heap.size + 1) 0 (tkC m tds ch).toArray ?_ ?_ ?_ ?_ (all_oneCell_toArray (tkC_one _ _ _)) ?_); rfl; rfl; exact TU; exact hIK))
  rw [HEQ.out]
  try simp only [Act.put]
  rw [← heqk16] at K16 ⊢
  rw [← heqg16] at R16 ⊢
  clear TT TU HEQ heqg16 heqk16
  have s16 : Below V15.heap.size V15 V15 := Below.refl _ _
  go_wp2_with (first | ((with_reducible refine wpList_load_row rfl 33 _ rfl g16 ?_ 33 (dvC (.slice a9s n9 c9) es P St T).toArray (0, 0) _ ?_ Tryd.underlying33 ?_ ?_ ?_); rfl; exact (R16.below s16 R16.lt); rfl; exact hID) | ((with_reducible refine wpList_load_row rfl 33 _ rfl g0 ?_ 33 (dvC (.slice a3s n3 c3) es P St T).toArray (0, 0) _ ?_ Tryd.underlying33 ?_ ?_ ?_); rfl; exact (R0.below c3b R0.lt); rfl; exact hID))
  with_reducible refine (eqDevO _ _ a9s n9 c9 a3s n3 c3 E es P St T _ (H9.keep s16) (O3.keep c3b)).mono ?_
  rintro e w21a ⟨rfl, hB⟩
  replace q := q.trans (hB.mono q.size)
  replace c3b := c3b.trans (hB.mono c3b.size)
  replace e := e.trans (hB.mono e.size)
  replace s16 := s16.trans (hB.mono s16.size)
  clear hB
  go_wp2_with (first | ((with_reducible refine wpList_load_rowG ?_ 52 _ rfl k16 ?_ 52 (tkC m tds ch).toArray (0, 0) _ ?_ Tryd.underlying52 ?_ ?_ ?_); rfl; rfl; exact (K16.below s16 K16.lt); rfl; exact hIK) | ((with_reducible refine wpList_load_rowG ?_ 52 _ rfl k0 ?_ 52 (tkC m tds ch).toArray (0, 0) _ ?_ Tryd.underlying52 ?_ ?_ ?_); rfl; rfl; exact (K0.below c3b K0.lt); rfl; exact hIK))
  with_reducible refine (eqTicketL m tds ch _).mono ?_
  rintro e w21 ⟨rfl, hB⟩
  replace q := q.trans (hB.mono q.size)
  replace c3b := c3b.trans (hB.mono c3b.size)
  replace e := e.trans (hB.mono e.size)
  replace s16 := s16.trans (hB.mono s16.size)
  clear hB
  go_wp2_with ((with_reducible refine wpList_load_row rfl 33 _ rfl g10 ?_ 33 (dvC (.slice a6s n6 c6) es P St T).toArray (0, 0) _ ?_ Tryd.underlying33 ?_ ?_ ?_); rfl; exact (RG.below e RG.lt); rfl; exact hID)
  with_reducible refine (heldDevO V8.heap.size a6s n6 c6 E.length es P St T _ (M16.keep e)).mono ?_
  rintro e w22 ⟨rfl, hB⟩
  replace q := q.trans (hB.mono q.size)
  replace c3b := c3b.trans (hB.mono c3b.size)
  replace e := e.trans (hB.mono e.size)
  replace s16 := s16.trans (hB.mono s16.size)
  clear hB
  go_wp2_with fail
  go_ret
  exact ⟨rfl, b0.trans (q.mono b0.size)⟩
end Go.Proofs.YthifegbmpmialaaDoor

namespace Go.Proofs.YthifegbmpmialaaDoor
open Go.RowKit
set_option linter.unusedVariables false
set_option linter.unusedSimpArgs false
set_option maxRecDepth 100000 in
set_option maxHeartbeats 1000000 in
theorem law_FnExactPrintTicket (a : Option Addr) (len cap : Nat) (zs : List Int) (d0 d1 d2 d3 d4 d5 d6 d7 : Int) (pr : Int) (st : Bool) (tk : Int) (w : World) (hl : len ≤ 9223372036854775807) (h : InB w a len zs) (ho : Oct d0 d1 d2 d3 d4 d5 d6 d7) (hp : I64 pr) (ht : I64 tk) (a0 a1 a2 a3 : Addr) (hSN : SN w a0 a1 a2 a3) :
    Calls Tryd.prog 5 #[.agg #[.slice a len cap, .int .u8 d0, .int .u8 d1, .int .u8 d2, .int .u8 d3, .int .u8 d4, .int .u8 d5, .int .u8 d6, .int .u8 d7, .int .i64 pr, .bool st, .int .i64 tk]] w fun e w' => e = .returned (.bool true) ∧ Below w.heap.size w w' := by
  by_cases hs : 1048576 < len
  · have HZ := hid (fun w => szDevice_no a len cap d0 d1 d2 d3 d4 d5 d6 d7 pr st tk w hs hl)
    have bel : Below w.heap.size w ((w.alloc (.cells #[.slice a len cap, .int .u8 d0, .int .u8 d1, .int .u8 d2, .int .u8 d3, .int .u8 d4, .int .u8 d5, .int .u8 d6, .int .u8 d7, .int .i64 pr, .bool st, .int .i64 tk] 25)).alloc (.cells #[.slice a len cap, .int .u8 d0, .int .u8 d1, .int .u8 d2, .int .u8 d3, .int .u8 d4, .int .u8 d5, .int .u8 d6, .int .u8 d7, .int .i64 pr, .bool st, .int .i64 tk] 25)) := ((Below.refl _ _).alloc (Nat.le_refl _) _).alloc (by simp) _
    clear h hs hl ho hp ht hSN
    go_enter Tryd.func5, Tryd.ntmps5
    go_wp2_with fail
    refine (HZ.out _).mono ?_
    rintro e w' ⟨rfl, rfl⟩
    go_wp2_with fail
    go_ret
    exact ⟨rfl, bel⟩
  · have hle : len ≤ 1048576 := by omega
    have hn : len = zs.length := h.1.symm
    have hvv : okDev zs [d0, d1, d2, d3, d4, d5, d6, d7] pr st tk = true → [d0, d1, d2, d3, d4, d5, d6, d7] = dgL zs (valL zs [d0, d1, d2, d3, d4, d5, d6, d7] zs.length) ∧ okS (szL zs) ((valL zs [d0, d1, d2, d3, d4, d5, d6, d7] zs.length), pr, st, tk) := fun hv => dev_state rfl ho hv
    exact lawc_FnExactPrintTicket a len cap zs [d0, d1, d2, d3, d4, d5, d6, d7] pr st tk w hle h hn _ _ _ _ _ _ _ _ _ a0 a1 a2 a3 hSN
      (fun B w1 hS => specPrintTicket_any B len len zs [d0, d1, d2, d3, d4, d5, d6, d7] (valL zs [d0, d1, d2, d3, d4, d5, d6, d7] zs.length) pr st tk w1 hS hn rfl ho hvv)
      (fun B w1 hS hN => implPrintTicket_any B len len zs [d0, d1, d2, d3, d4, d5, d6, d7] (valL zs [d0, d1, d2, d3, d4, d5, d6, d7] zs.length) pr st tk w1 hS hn rfl ho hvv a0 a1 a2 a3 hN)
end Go.Proofs.YthifegbmpmialaaDoor

namespace Go.Proofs.YthifegbmpmialaaDoor
open Go
theorem laid_sentinels4 {P : Program} {n0 n1 n2 n3 nm : String} {text0 text1 text2 text3 : List UInt8} {r : List (String × DataW Unit)} {W : World} {g0 g1 g2 g3 : Nat} {ti tp te ts : TypeId} {ms : Array (String × TypeId)} {f : Field}
    (h : laidMet P ((n0, .iface nm (.ptr (.agg [.lit (.string text0)]))) :: (n1, .iface nm (.ptr (.agg [.lit (.string text1)]))) :: (n2, .iface nm (.ptr (.agg [.lit (.string text2)]))) :: (n3, .iface nm (.ptr (.agg [.lit (.string text3)]))) :: r) W) (hg0 : P.globalNamed n0 = some g0) (ht0 : (P.globals[g0]?).map (·.type) = some ti) (hg1 : P.globalNamed n1 = some g1) (ht1 : (P.globals[g1]?).map (·.type) = some ti) (hg2 : P.globalNamed n2 = some g2) (ht2 : (P.globals[g2]?).map (·.type) = some ti) (hg3 : P.globalNamed n3 = some g3) (ht3 : (P.globals[g3]?).map (·.type) = some ti)
    (hi : P.underlying ti = some (.interface ms)) (hrow : ∀ u, P.typeName? 3 u = some nm → u = tp)
    (hp : P.underlying tp = some (.pointer te)) (he : P.underlying te = some (.struct #[f])) (hft : f.type = ts) (hfo : f.offset = 0) (hs : P.underlying ts = some .string) (hc : P.cellsOf te = 1) (hcs : P.cellsOf ts = 1) :
    ∃ (a0 a1 a2 a3 : Addr) (s0 s1 s2 s3 : ByteArray) (c0 c1 c2 c3 : Array Value) (t0 t1 t2 t3 : TypeId),
      W.var? P n0 = some #[.iface tp (.pointer (some a0))] ∧ W.var? P n1 = some #[.iface tp (.pointer (some a1))] ∧ W.var? P n2 = some #[.iface tp (.pointer (some a2))] ∧ W.var? P n3 = some #[.iface tp (.pointer (some a3))] ∧ W.cell? a0 = some (.string s0) ∧ W.cell? a1 = some (.string s1) ∧ W.cell? a2 = some (.string s2) ∧ W.cell? a3 = some (.string s3) ∧ a0 ≠ a1 ∧ a0 ≠ a2 ∧ a0 ≠ a3 ∧ a1 ≠ a2 ∧ a1 ≠ a3 ∧ a2 ≠ a3 ∧ W.heap[a0.block]? = some (.cells c0 t0 (0, 0)) ∧ W.heap[a1.block]? = some (.cells c1 t1 (0, 0)) ∧ W.heap[a2.block]? = some (.cells c2 t2 (0, 0)) ∧ W.heap[a3.block]? = some (.cells c3 t3 (0, 0)) := by
  obtain ⟨ps, ⟨g0', t0', cs0, f0, p0, q0, hg0', ht0', hv0, hd0, ⟨g1', t1', cs1, f1, p1, q1, hg1', ht1', hv1, hd1, ⟨g2', t2', cs2, f2, p2, q2, hg2', ht2', hv2, hd2, ⟨g3', t3', cs3, f3, p3, q3, hg3', ht3', hv3, hd3, _, e3⟩, e2⟩, e1⟩, e0⟩, hnd, hrows⟩ := h
  obtain rfl := Option.some.inj (hg0.symm.trans hg0')
  obtain rfl := Option.some.inj (ht0.symm.trans ht0')
  obtain rfl := Option.some.inj (hg1.symm.trans hg1')
  obtain rfl := Option.some.inj (ht1.symm.trans ht1')
  obtain rfl := Option.some.inj (hg2.symm.trans hg2')
  obtain rfl := Option.some.inj (ht2.symm.trans ht2')
  obtain rfl := Option.some.inj (hg3.symm.trans hg3')
  obtain rfl := Option.some.inj (ht3.symm.trans ht3')
  subst e3
  subst e2
  subst e1
  subst e0
  obtain ⟨l0⟩ := cs0
  obtain ⟨l1⟩ := cs1
  obtain ⟨l2⟩ := cs2
  obtain ⟨l3⟩ := cs3
  have ok0 : ∀ u v, l0 = [.iface u v] → Value.okWide P W .any 0 u v := fun u v e => by
    subst e
    exact (hrows g0 0 (by simp [MemPlace.row])).2 u v (by simpa using World.var?_cell hg0' hv0 0)
  have ok1 : ∀ u v, l1 = [.iface u v] → Value.okWide P W .any 0 u v := fun u v e => by
    subst e
    exact (hrows g1 0 (by simp [MemPlace.row])).2 u v (by simpa using World.var?_cell hg1' hv1 0)
  have ok2 : ∀ u v, l2 = [.iface u v] → Value.okWide P W .any 0 u v := fun u v e => by
    subst e
    exact (hrows g2 0 (by simp [MemPlace.row])).2 u v (by simpa using World.var?_cell hg2' hv2 0)
  have ok3 : ∀ u v, l3 = [.iface u v] → Value.okWide P W .any 0 u v := fun u v e => by
    subst e
    exact (hrows g3 0 (by simp [MemPlace.row])).2 u v (by simpa using World.var?_cell hg3' hv3 0)
  obtain ⟨a0, s0, rfl, hc0, hs0, hz0, rfl⟩ := errorString_of_trod hi hrow hp he hft hfo hs hc hcs hd0 ok0
  obtain ⟨a1, s1, rfl, hc1, hs1, hz1, rfl⟩ := errorString_of_trod hi hrow hp he hft hfo hs hc hcs hd1 ok1
  obtain ⟨a2, s2, rfl, hc2, hs2, hz2, rfl⟩ := errorString_of_trod hi hrow hp he hft hfo hs hc hcs hd2 ok2
  obtain ⟨a3, s3, rfl, hc3, hs3, hz3, rfl⟩ := errorString_of_trod hi hrow hp he hft hfo hs hc hcs hd3 ok3
  obtain ⟨c0, t0, hb0⟩ := (hrows a0.block a0.off (by simp [MemPlace.row])).1
  obtain ⟨c1, t1, hb1⟩ := (hrows a1.block a1.off (by simp [MemPlace.row])).1
  obtain ⟨c2, t2, hb2⟩ := (hrows a2.block a2.off (by simp [MemPlace.row])).1
  obtain ⟨c3, t3, hb3⟩ := (hrows a3.block a3.off (by simp [MemPlace.row])).1
  refine ⟨a0, a1, a2, a3, s0, s1, s2, s3, c0, c1, c2, c3, t0, t1, t2, t3, hv0, hv1, hv2, hv3, hc0, hc1, hc2, hc3, ?_, ?_, ?_, ?_, ?_, ?_, hb0, hb1, hb2, hb3⟩
  all_goals (rintro rfl; simp [MemPlace.row] at hnd)
end Go.Proofs.YthifegbmpmialaaDoor
