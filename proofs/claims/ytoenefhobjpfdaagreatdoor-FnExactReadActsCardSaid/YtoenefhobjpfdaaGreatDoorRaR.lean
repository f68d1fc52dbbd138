/- impl.readLines of impl.Act. -/
import Derived.Test.YtoenefhobjpfdaaGreatDoorRaX
import Derived.Test.YtoenefhobjpfdaaGreatDoorPiP
import Derived.Deep.RegionHeld3
import Derived.Test.YtoenefhobjpfdaaGreatDoorOwnA
namespace Go.Proofs.YtoenefhobjpfdaaGreatDoor
open Go.RowKit Go.Shelf
set_option linter.unusedSimpArgs false
set_option linter.unusedVariables false
theorem split_sizeL (sep : ByteArray) (save : Nat) : ∀ (k : Nat) (s p : ByteArray), p ∈ Lib.splitB sep save k s → p.size ≤ s.size
  | 0, s, p, h => by simp [Lib.splitB] at h; subst h; exact Nat.le_refl _
  | k + 1, s, p, h => by
    unfold Lib.splitB at h
    split at h
    · simp at h; subst h; exact Nat.le_refl _
    · simp only [List.mem_cons] at h
      rcases h with rfl | h
      · simp [ByteArray.size_extract]; omega
      · have := split_sizeL sep save k _ p h
        simp [ByteArray.size_extract] at this; omega
theorem take_nextL {ps : List ByteArray} {k : Nat} {p : ByteArray} (h : ps[k]? = some p) : ps.take (k + 1) = ps.take k ++ [p] := by
  have hk : k < ps.length := by
    by_cases c : k < ps.length
    · exact c
    · rw [List.getElem?_eq_none (by omega)] at h; cases h
  rw [List.getElem?_eq_getElem hk] at h
  injection h with h
  rw [List.take_succ_eq_append_getElem hk, h]
theorem owns_belowL {w w' : World} {base size n : Nat} {e : TypeId} {v : Value} {xs : List Value} (h : w.ownsRow base e size v n xs) (hb : Below w.heap.size w w') : w'.ownsRow base e size v n xs := by
  refine ⟨h.1, ?_⟩
  rcases h.2 with h0 | ⟨g, cap, cur, h1, h2, h3, h4⟩
  · exact .inl h0
  · exact .inr ⟨g, cap, cur, h1, h2, (hb.block g (lt_of_block h3)).trans h3, h4⟩
attribute [local go_sem] Oper.semAt_some
theorem owns_baseL {W : World} {base base' n : Nat} {e : TypeId} {sz : Nat} {v : Value} {vs : List Value} (h : W.ownsRow base e sz v n vs) (hb : base' ≤ base) : W.ownsRow base' e sz v n vs := ⟨h.1, by
  rcases h.2 with h | ⟨g, cap, cur, h2, h3, h4⟩
  · exact .inl h
  · exact .inr ⟨g, cap, cur, h2, Nat.le_trans hb h3, h4⟩⟩
def RpG (p : ByteArray) (w : World) (e : Ending) (w' : World) : Prop := ∃ x y : Int, e = .returned (.tuple #[.agg #[.int .i8 x, .int .i64 y], .bool (acF p).isSome]) ∧ (∀ a b, acF p = some (a, b) → x = a ∧ y = b) ∧ Below w.heap.size w w'
set_option maxRecDepth 100000 in
set_option maxHeartbeats 4000000 in
theorem implReadAct_any (p : ByteArray) (hp : p.size ≤ 1048576) (w : World) {tS tR : TypeId} {pS pR : Value} {m : Int} (hLV : LV w tS pS tR pR m) : Calls Tryz.prog 12 #[.string p] w (RpG p w) := by
  have HLV := hid (fun W (h : Below w.heap.size w W) => hLV.below h (Nat.le_refl _))
  obtain ⟨n1, n2⟩ := cut_lenK p.data.toList [32]
  have hsz : p.data.toList.length = p.size := by rw [Array.length_toList]; rfl
  have HCUT := hid (fun W (h : LV W tS pS tR pR m) => show Calls Tryz.prog 19 #[.string p, .string ⟨#[32]⟩] W fun e w' => e = .returned (.tuple #[.string ⟨(Lib.cut p.data.toList [32]).1.toArray⟩, .string ⟨(Lib.cut p.data.toList [32]).2.1.toArray⟩, .bool (Lib.cut p.data.toList [32]).2.2]) ∧ ∃ n, w' = W.drewN n from Tryz.strings_Cut p ⟨#[32]⟩ m W (by omega) h.2.2.1)
  have hF : acF p = if (Lib.cut p.data.toList [32]).2.1 = [] then some (idxW (Lib.cut p.data.toList [32]).1, 0) else (match pi64 (Lib.cut p.data.toList [32]).2.1 with | some n => some (idxW (Lib.cut p.data.toList [32]).1, n) | none => none) := rfl
  obtain ⟨⟨c1, c2, ok⟩, hc⟩ : ∃ c, Lib.cut p.data.toList [32] = c := ⟨_, rfl⟩
  rw [hc] at HCUT hF n1 n2
  simp only at HCUT hF n1 n2
  have HBV := hid (show Below w.heap.size w (w.alloc (.cells #[.int .i8 0, .int .i64 0] 32)) from (Below.refl _ _).alloc (Nat.le_refl _) _)
  have HRV := hid (Row.new w 32 [.int .i8 0, .int .i64 0])
  have HIDX := hid (fun W g (h : WordsAt W g) => index_any g ⟨c1.toArray⟩ W h)
  rw [show ((⟨c1.toArray⟩ : ByteArray).data.toList) = c1 from rfl] at HIDX
  have hib := idxW_bd c1
  obtain ⟨I, hI⟩ : ∃ I, idxW c1 = I := ⟨_, rfl⟩
  rw [hI] at HIDX hib hF
  have w8 : IntKind.i8.wrap I = I := by simp only [IntKind.wrap, IntKind.signed, IntKind.bits]; simp; omega
  unfold RpG
  obtain ⟨R, hR⟩ : ∃ R, acF p = R := ⟨_, rfl⟩
  rw [hR] at hF ⊢
  have HRP := hid hF
  have s2 : (⟨c2.toArray⟩ : ByteArray).size ≤ 1048576 := by show c2.toArray.size ≤ _; simp; omega
  have hem : (⟨c2.toArray⟩ : ByteArray).toList = c2 := by rw [Lib.toList_data]
  have HY := hid (fun v (h : pi64 c2 = some v) W => p64_yes ⟨c2.toArray⟩ s2 (v := v) h W)
  have HNN := hid (fun (h : pi64 c2 = none) W (h2 : LV W tS pS tR pR m) => p64_no ⟨c2.toArray⟩ s2 h W h2)
  obtain ⟨C1, hC1⟩ : ∃ C, (⟨c1.toArray⟩ : ByteArray) = C := ⟨_, rfl⟩
  obtain ⟨C2, hC2⟩ : ∃ C, (⟨c2.toArray⟩ : ByteArray) = C := ⟨_, rfl⟩
  rw [hC1, hC2] at HCUT
  rw [hC1] at HIDX
  rw [hC2] at HY HNN hem
  clear hR hc hsz n1 n2 hLV hp hF s2 hC1 hC2 hI hib
  by_cases hnil : c2 = []
  · have e1 : C2.toList.isEmpty = true := by rw [hem, hnil]; rfl
    have e2 : C2.toList = [] := by rw [hem, hnil]
    have HR := hid (show R = some (I, 0) from by rw [HRP.out, if_pos hnil])
    clear hem hnil
    go_enter Tryz.func12, Tryz.ntmps12
    go_wp2_with fail
    with_reducible refine (HCUT.out _ (HLV.out _ HBV.out)).mono ?_
    rintro e w1 ⟨rfl, d, rfl⟩
    have b1 := below_drewN HBV.out d
    have r1 := HRV.out.below (below_drewN (Below.refl _ _) d) HRV.out.lt
    obtain ⟨W1, hW1⟩ : ∃ X, X = (w.alloc (.cells #[.int .i8 0, .int .i64 0] 32)).drewN d := ⟨_, rfl⟩
    rw [← hW1] at b1 r1 ⊢
    clear hW1
    have B1 := hid b1; have R1 := hid r1
    clear b1 r1
    go_wp2_with fail
    with_reducible refine (actWords_any W1).mono ?_
    rintro e w2 ⟨rfl, hB, hW⟩
    have B2 := hid (B1.out.trans (hB.mono B1.out.size))
    have R2 := hid (R1.out.below hB R1.out.lt)
    clear hB
    go_wp2_with fail
    with_reducible refine (HIDX.out w2 _ hW).mono ?_
    rintro e w3 ⟨rfl, hw⟩
    subst hw
    clear hW
    have bA : Below w3.heap.size w3 (w3.alloc (.cells #[.int .i8 I, .int .i64 0] 32)) := (Below.refl _ _).alloc (Nat.le_refl _) _
    have b4 := B2.out.trans (bA.mono B2.out.size)
    have r4 := R2.out.below bA R2.out.lt
    have rA := Row.new w3 32 [.int .i8 I, .int .i64 0]
    have HNE := hid (show w.heap.size ≠ w3.heap.size from fun e => by have := R2.out.lt; omega)
    have HWA := hid B2.out.size
    obtain ⟨V, hV⟩ : ∃ y, y = w3.alloc (.cells #[.int .i8 I, .int .i64 0] 32) := ⟨_, rfl⟩
    obtain ⟨A, hA⟩ : ∃ y, w3.heap.size = y := ⟨_, rfl⟩
    have HV := hid hV; have HA := hid hA
    rw [← hV] at b4 r4 rA
    rw [hA] at rA HNE HWA
    have B4 := hid b4; have R4 := hid r4; have RA := hid rA
    clear hV hA bA rA b4 r4
    go_upto_region 3 with fail
    rw [← HV.out, HA.out]
    have ca0 := RA.out.cell 0; have ca1 := RA.out.cell 1
    have c0 := R4.out.cell 0; have c1 := R4.out.cell 1; have f0 := R4.out.frozen 0; have f1 := R4.out.frozen 1
    simp only [List.getElem?_cons_zero, List.getElem?_cons_succ] at ca0 ca1 c0 c1
    have b5 := (B4.out.setCell (p := ⟨w.heap.size, 0, none⟩) (Nat.le_refl _) (.int .i8 I)).setCell (p := ⟨w.heap.size, 1, none⟩) (Nat.le_refl _) (.int .i64 0)
    have r5 := (R4.out.set 0 (.int .i8 I)).set 1 (.int .i64 0)
    have d0 := r5.cell 0; have d1 := r5.cell 1
    simp only [List.set_cons_zero, List.set_cons_succ, List.getElem?_cons_zero, List.getElem?_cons_succ] at d0 d1
    have HB5 := hid b5
    clear b5 r5
    go_wp2_with fail
    exact bodyPost_ret (v := .tuple #[.agg #[.int .i8 I, .int .i64 0], .bool true]) (by simp [results, Tryz.results12, go_sem, d0, d1]) rfl ⟨I, 0, by rw [HR.out]; rfl, fun a b hab => by rw [HR.out] at hab; injection hab with hab; injection hab with ha hb; exact ⟨ha, hb⟩, HB5.out⟩
  · have e1 : C2.toList.isEmpty = false := by rw [hem]; simpa using hnil
    have e2 : ¬ C2.toList = [] := by rw [hem]; exact hnil
    rw [if_neg hnil] at HRP
    clear hem hnil
    cases hv : pi64 c2 with
    | some v =>
      have H1 := hid (HY.out v hv)
      have HR := hid (show R = some (I, v) from by rw [HRP.out, hv])
      clear hv HRP HY HNN
      go_enter Tryz.func12, Tryz.ntmps12
      go_wp2_with fail
      with_reducible refine (HCUT.out _ (HLV.out _ HBV.out)).mono ?_
      rintro e w1 ⟨rfl, d, rfl⟩
      have b1 := below_drewN HBV.out d
      have r1 := HRV.out.below (below_drewN (Below.refl _ _) d) HRV.out.lt
      obtain ⟨W1, hW1⟩ : ∃ X, X = (w.alloc (.cells #[.int .i8 0, .int .i64 0] 32)).drewN d := ⟨_, rfl⟩
      rw [← hW1] at b1 r1 ⊢
      clear hW1
      have B1 := hid b1; have R1 := hid r1
      clear b1 r1
      go_wp2_with fail
      with_reducible refine (actWords_any W1).mono ?_
      rintro e w2 ⟨rfl, hB, hW⟩
      have B2 := hid (B1.out.trans (hB.mono B1.out.size))
      have R2 := hid (R1.out.below hB R1.out.lt)
      clear hB
      go_wp2_with fail
      with_reducible refine (HIDX.out w2 _ hW).mono ?_
      rintro e w3 ⟨rfl, hw⟩
      subst hw
      clear hW
      have bA : Below w3.heap.size w3 (w3.alloc (.cells #[.int .i8 I, .int .i64 0] 32)) := (Below.refl _ _).alloc (Nat.le_refl _) _
      have b4 := B2.out.trans (bA.mono B2.out.size)
      have r4 := R2.out.below bA R2.out.lt
      have rA := Row.new w3 32 [.int .i8 I, .int .i64 0]
      have HNE := hid (show w.heap.size ≠ w3.heap.size from fun e => by have := R2.out.lt; omega)
      have HWA := hid B2.out.size
      obtain ⟨V, hV⟩ : ∃ y, y = w3.alloc (.cells #[.int .i8 I, .int .i64 0] 32) := ⟨_, rfl⟩
      obtain ⟨A, hA⟩ : ∃ y, w3.heap.size = y := ⟨_, rfl⟩
      have HV := hid hV; have HA := hid hA
      rw [← hV] at b4 r4 rA
      rw [hA] at rA HNE HWA
      have B4 := hid b4; have R4 := hid r4; have RA := hid rA
      clear hV hA bA rA b4 r4
      go_upto_region 3 with fail
      rw [← HV.out, HA.out]
      go_wp2_with fail
      with_reducible refine (H1.out _).mono ?_
      rintro e w5 ⟨rfl, hB⟩
      have b5 := B4.out.trans (hB.mono B4.out.size)
      have r5 := R4.out.below hB R4.out.lt
      have rA5 := RA.out.below hB RA.out.lt
      clear hB
      have ca0 := rA5.cell 0; have ca1 := rA5.cell 1; have fa0 := rA5.frozen 0; have fa1 := rA5.frozen 1
      simp only [List.getElem?_cons_zero, List.getElem?_cons_succ] at ca0 ca1
      have r6 := r5.other (a := ⟨A, 1, none⟩) (fun e => HNE.out e.symm) (.int .i64 v)
      have rA6 := rA5.set 1 (.int .i64 v)
      have b6 := b5.setCell (p := ⟨A, 1, none⟩) HWA.out (.int .i64 v)
      simp only [List.set_cons_zero, List.set_cons_succ] at rA6
      obtain ⟨V6, hV6⟩ : ∃ y, y = w5.setCell ⟨A, 1, none⟩ (.int .i64 v) := ⟨_, rfl⟩
      have HV6 := hid hV6
      rw [← hV6] at r6 rA6 b6
      have R6 := hid r6; have RA6 := hid rA6; have B6 := hid b6
      clear r6 rA6 b6 hV6 b5 r5 rA5
      go_upto_region 7 with fail
      rw [← HV6.out]
      refine wp_region_held (S := fun W : World => Row W A 32 [.int .i8 I, .int .i64 v]) (by kernel_rfl) ?_
      change wpAnyH _ _ _ _ _ _ _ _ (World.drew _)
      have hs0 : (fun W : World => Row W A 32 [.int .i8 I, .int .i64 v]) (World.drew V6) := RA6.out
      have bw : Below V6.heap.size V6 (World.drew V6) := (Below.refl _ _).drew
      obtain ⟨Z, hZ⟩ : ∃ X, X = World.drew V6 := ⟨_, rfl⟩
      rw [← hZ] at hs0 bw ⊢
      clear hZ
      refine wpAnyH_takeD (some 31) (i := 0) (v := ?_) rfl rfl (by kernel_rfl) (by kernel_rfl) (by kernel_rfl) (fun _ _ _ h => h) (.inl ⟨by kernel_rfl, ?_⟩) hs0 ?_
      rotate_left
      · intro w' hw'; have hr0 := Row.cell hw' 0; have hr1 := Row.cell hw' 1; simp only [List.getElem?_cons_zero, List.getElem?_cons_succ] at hr0 hr1; clear hw'; go_simp; try with_reducible rfl
      try simp only [Act.put, List.setIfInBounds_toArray, List.set_cons_zero, List.set_cons_succ]
      refine wpAnyH_takeD (some 32) (i := 1) (v := ?_) rfl rfl (by kernel_rfl) (by kernel_rfl) (by kernel_rfl) (fun _ _ _ h => h) (.inl ⟨by kernel_rfl, ?_⟩) hs0 ?_
      rotate_left
      · intro w' hw'; have hr0 := Row.cell hw' 0; have hr1 := Row.cell hw' 1; simp only [List.getElem?_cons_zero, List.getElem?_cons_succ] at hr0 hr1; clear hw'; go_simp; try with_reducible rfl
      try simp only [Act.put, List.setIfInBounds_toArray, List.set_cons_zero, List.set_cons_succ]
      refine wpAnyH_takeD (some 33) (i := 2) (v := ?_) rfl rfl (by kernel_rfl) (by kernel_rfl) (by kernel_rfl) (fun _ _ _ h => h) (.inl ⟨by kernel_rfl, ?_⟩) hs0 ?_
      rotate_left
      · intro w' hw'; have hr0 := Row.cell hw' 0; have hr1 := Row.cell hw' 1; simp only [List.getElem?_cons_zero, List.getElem?_cons_succ] at hr0 hr1; clear hw'; go_simp; try with_reducible rfl
      try simp only [Act.put, List.setIfInBounds_toArray, List.set_cons_zero, List.set_cons_succ]
      refine wpAnyH_all (rs := [3]) (by kernel_rfl) (by simp) ?_
      intro i hi; simp only [List.mem_singleton] at hi; subst hi
      refine wpOp_step rfl (fun K hK => ?_)
      have b7 := B6.out.trans (bw.mono B6.out.size)
      have r7 := R6.out.below bw R6.out.lt
      have c0 := r7.cell 0; have c1 := r7.cell 1; have f0 := r7.frozen 0; have f1 := r7.frozen 1
      simp only [List.getElem?_cons_zero, List.getElem?_cons_succ] at c0 c1
      have b8 := (b7.setCell (p := ⟨w.heap.size, 0, none⟩) (Nat.le_refl _) (.int .i8 I)).setCell (p := ⟨w.heap.size, 1, none⟩) (Nat.le_refl _) (.int .i64 v)
      have r8 := (r7.set 0 (.int .i8 I)).set 1 (.int .i64 v)
      have d0 := r8.cell 0; have d1 := r8.cell 1
      simp only [List.set_cons_zero, List.set_cons_succ, List.getElem?_cons_zero, List.getElem?_cons_succ] at d0 d1
      have hs9 := (Row.other hs0 (a := ⟨w.heap.size, 0, none⟩) HNE.out (.int .i8 I))
      have hsA := (Row.other hs9 (a := ⟨w.heap.size, 1, none⟩) HNE.out (.int .i64 v))
      go_simp
      refine hK _ _ ⟨hsA, ?_⟩
      try simp only [Act.put, List.setIfInBounds_toArray, List.set_cons_zero, List.set_cons_succ]
      clear hK K c0 c1
      refine wpAnyH_takeD (some 3) (i := 4) (v := ?_) rfl rfl (by kernel_rfl) (by kernel_rfl) (by kernel_rfl) (fun _ _ _ h => h) (.inl ⟨by kernel_rfl, ?_⟩) hsA ?_
      rotate_left
      · intro w' hw'; have hr0 := Row.cell hw' 0; have hr1 := Row.cell hw' 1; simp only [List.getElem?_cons_zero, List.getElem?_cons_succ] at hr0 hr1; clear hw'; go_simp; try with_reducible rfl
      try simp only [Act.put, List.setIfInBounds_toArray, List.set_cons_zero, List.set_cons_succ]
      refine wpAnyH_done (by kernel_rfl) ?_ _
      go_wp2_with fail
      exact bodyPost_ret (v := .tuple #[.agg #[.int .i8 I, .int .i64 v], .bool true]) (by simp [results, Tryz.results12, go_sem, d0, d1]) rfl ⟨I, v, by rw [HR.out]; rfl, (fun a b hab => by rw [HR.out] at hab; injection hab with hab; injection hab with ha hb; exact ⟨ha, hb⟩), b8⟩
    | none =>
      have H1 := hid (HNN.out hv)
      have HR := hid (show R = none from by rw [HRP.out, hv])
      clear hv HRP HY HNN
      go_enter Tryz.func12, Tryz.ntmps12
      go_wp2_with fail
      with_reducible refine (HCUT.out _ (HLV.out _ HBV.out)).mono ?_
      rintro e w1 ⟨rfl, d, rfl⟩
      have b1 := below_drewN HBV.out d
      have r1 := HRV.out.below (below_drewN (Below.refl _ _) d) HRV.out.lt
      obtain ⟨W1, hW1⟩ : ∃ X, X = (w.alloc (.cells #[.int .i8 0, .int .i64 0] 32)).drewN d := ⟨_, rfl⟩
      rw [← hW1] at b1 r1 ⊢
      clear hW1
      have B1 := hid b1; have R1 := hid r1
      clear b1 r1
      go_wp2_with fail
      with_reducible refine (actWords_any W1).mono ?_
      rintro e w2 ⟨rfl, hB, hW⟩
      have B2 := hid (B1.out.trans (hB.mono B1.out.size))
      have R2 := hid (R1.out.below hB R1.out.lt)
      clear hB
      go_wp2_with fail
      with_reducible refine (HIDX.out w2 _ hW).mono ?_
      rintro e w3 ⟨rfl, hw⟩
      subst hw
      clear hW
      have bA : Below w3.heap.size w3 (w3.alloc (.cells #[.int .i8 I, .int .i64 0] 32)) := (Below.refl _ _).alloc (Nat.le_refl _) _
      have b4 := B2.out.trans (bA.mono B2.out.size)
      have r4 := R2.out.below bA R2.out.lt
      have rA := Row.new w3 32 [.int .i8 I, .int .i64 0]
      have HNE := hid (show w.heap.size ≠ w3.heap.size from fun e => by have := R2.out.lt; omega)
      have HWA := hid B2.out.size
      obtain ⟨V, hV⟩ : ∃ y, y = w3.alloc (.cells #[.int .i8 I, .int .i64 0] 32) := ⟨_, rfl⟩
      obtain ⟨A, hA⟩ : ∃ y, w3.heap.size = y := ⟨_, rfl⟩
      have HV := hid hV; have HA := hid hA
      rw [← hV] at b4 r4 rA
      rw [hA] at rA HNE HWA
      have B4 := hid b4; have R4 := hid r4; have RA := hid rA
      clear hV hA bA rA b4 r4
      go_upto_region 3 with fail
      rw [← HV.out, HA.out]
      go_wp2_with fail
      with_reducible refine (H1.out _ (HLV.out _ B4.out)).mono ?_
      rintro e w5 ⟨v, T1, q1, rfl, hB, -⟩
      have b5 := B4.out.trans (hB.mono B4.out.size)
      have r5 := R4.out.below hB R4.out.lt
      have rA5 := RA.out.below hB RA.out.lt
      clear hB
      have ca0 := rA5.cell 0; have ca1 := rA5.cell 1; have fa0 := rA5.frozen 0; have fa1 := rA5.frozen 1
      simp only [List.getElem?_cons_zero, List.getElem?_cons_succ] at ca0 ca1
      have r6 := r5.other (a := ⟨A, 1, none⟩) (fun e => HNE.out e.symm) (.int .i64 v)
      have rA6 := rA5.set 1 (.int .i64 v)
      have b6 := b5.setCell (p := ⟨A, 1, none⟩) HWA.out (.int .i64 v)
      simp only [List.set_cons_zero, List.set_cons_succ] at rA6
      obtain ⟨V6, hV6⟩ : ∃ y, y = w5.setCell ⟨A, 1, none⟩ (.int .i64 v) := ⟨_, rfl⟩
      have HV6 := hid hV6
      rw [← hV6] at r6 rA6 b6
      have R6 := hid r6; have RA6 := hid rA6; have B6 := hid b6
      clear r6 rA6 b6 hV6 b5 r5 rA5
      go_upto_region 7 with fail
      rw [← HV6.out]
      refine wp_region_held (S := fun W : World => Row W A 32 [.int .i8 I, .int .i64 v]) (by kernel_rfl) ?_
      change wpAnyH _ _ _ _ _ _ _ _ (World.drew _)
      have hs0 : (fun W : World => Row W A 32 [.int .i8 I, .int .i64 v]) (World.drew V6) := RA6.out
      have bw : Below V6.heap.size V6 (World.drew V6) := (Below.refl _ _).drew
      obtain ⟨Z, hZ⟩ : ∃ X, X = World.drew V6 := ⟨_, rfl⟩
      rw [← hZ] at hs0 bw ⊢
      clear hZ
      refine wpAnyH_takeD (some 31) (i := 0) (v := ?_) rfl rfl (by kernel_rfl) (by kernel_rfl) (by kernel_rfl) (fun _ _ _ h => h) (.inl ⟨by kernel_rfl, ?_⟩) hs0 ?_
      rotate_left
      · intro w' hw'; have hr0 := Row.cell hw' 0; have hr1 := Row.cell hw' 1; simp only [List.getElem?_cons_zero, List.getElem?_cons_succ] at hr0 hr1; clear hw'; go_simp; try with_reducible rfl
      try simp only [Act.put, List.setIfInBounds_toArray, List.set_cons_zero, List.set_cons_succ]
      refine wpAnyH_takeD (some 32) (i := 1) (v := ?_) rfl rfl (by kernel_rfl) (by kernel_rfl) (by kernel_rfl) (fun _ _ _ h => h) (.inl ⟨by kernel_rfl, ?_⟩) hs0 ?_
      rotate_left
      · intro w' hw'; have hr0 := Row.cell hw' 0; have hr1 := Row.cell hw' 1; simp only [List.getElem?_cons_zero, List.getElem?_cons_succ] at hr0 hr1; clear hw'; go_simp; try with_reducible rfl
      try simp only [Act.put, List.setIfInBounds_toArray, List.set_cons_zero, List.set_cons_succ]
      refine wpAnyH_takeD (some 33) (i := 2) (v := ?_) rfl rfl (by kernel_rfl) (by kernel_rfl) (by kernel_rfl) (fun _ _ _ h => h) (.inl ⟨by kernel_rfl, ?_⟩) hs0 ?_
      rotate_left
      · intro w' hw'; have hr0 := Row.cell hw' 0; have hr1 := Row.cell hw' 1; simp only [List.getElem?_cons_zero, List.getElem?_cons_succ] at hr0 hr1; clear hw'; go_simp; try with_reducible rfl
      try simp only [Act.put, List.setIfInBounds_toArray, List.set_cons_zero, List.set_cons_succ]
      refine wpAnyH_all (rs := [3]) (by kernel_rfl) (by simp) ?_
      intro i hi; simp only [List.mem_singleton] at hi; subst hi
      refine wpOp_step rfl (fun K hK => ?_)
      have b7 := B6.out.trans (bw.mono B6.out.size)
      have r7 := R6.out.below bw R6.out.lt
      have c0 := r7.cell 0; have c1 := r7.cell 1; have f0 := r7.frozen 0; have f1 := r7.frozen 1
      simp only [List.getElem?_cons_zero, List.getElem?_cons_succ] at c0 c1
      have b8 := (b7.setCell (p := ⟨w.heap.size, 0, none⟩) (Nat.le_refl _) (.int .i8 I)).setCell (p := ⟨w.heap.size, 1, none⟩) (Nat.le_refl _) (.int .i64 v)
      have r8 := (r7.set 0 (.int .i8 I)).set 1 (.int .i64 v)
      have d0 := r8.cell 0; have d1 := r8.cell 1
      simp only [List.set_cons_zero, List.set_cons_succ, List.getElem?_cons_zero, List.getElem?_cons_succ] at d0 d1
      have hs9 := (Row.other hs0 (a := ⟨w.heap.size, 0, none⟩) HNE.out (.int .i8 I))
      have hsA := (Row.other hs9 (a := ⟨w.heap.size, 1, none⟩) HNE.out (.int .i64 v))
      go_simp
      refine hK _ _ ⟨hsA, ?_⟩
      try simp only [Act.put, List.setIfInBounds_toArray, List.set_cons_zero, List.set_cons_succ]
      clear hK K c0 c1
      refine wpAnyH_takeD (some 3) (i := 4) (v := ?_) rfl rfl (by kernel_rfl) (by kernel_rfl) (by kernel_rfl) (fun _ _ _ h => h) (.inl ⟨by kernel_rfl, ?_⟩) hsA ?_
      rotate_left
      · intro w' hw'; have hr0 := Row.cell hw' 0; have hr1 := Row.cell hw' 1; simp only [List.getElem?_cons_zero, List.getElem?_cons_succ] at hr0 hr1; clear hw'; go_simp; try with_reducible rfl
      try simp only [Act.put, List.setIfInBounds_toArray, List.set_cons_zero, List.set_cons_succ]
      refine wpAnyH_done (by kernel_rfl) ?_ _
      go_wp2_with fail
      exact bodyPost_ret (v := .tuple #[.agg #[.int .i8 I, .int .i64 v], .bool false]) (by simp [results, Tryz.results12, go_sem, d0, d1]) rfl ⟨I, v, by rw [HR.out]; rfl, (fun a b hab => by rw [HR.out] at hab; cases hab), b8⟩
def wLs (t : ByteArray) : List ByteArray := (wLn 61 t).dropLast
def RlQ (qs : List ByteArray) (w : World) (e : Ending) (w' : World) : Prop := ∃ v ok, e = .returned (.tuple #[v, .bool ok]) ∧ Below w.heap.size w w' ∧ ((ok = true ∧ ∃ xs : List (Int × Int), qs.map acF = xs.map some ∧ w'.ownsRow w.heap.size 32 2 v xs.length (avals xs)) ∨ (ok = false ∧ ∃ p ∈ qs, acF p = none))
set_option maxRecDepth 100000 in
set_option maxHeartbeats 4000000 in
theorem implReadLines_any (t : ByteArray) (ht : t.size ≤ 1048576) (w : World) {tS tR : TypeId} {pS pR : Value} {m : Int} (hL : LV w tS pS tR pR m) : Calls Tryz.prog 11 #[.string t, .int .i64 60, .func (.func 12) #[] #[]] w (RlQ (wLs t) w) := by
  obtain ⟨i0, hi0, iz0, iz1, iz2⟩ := info_parts Tryz.infoActL
  have HSP := hid (show Calls Tryz.prog 18 #[.string t, .string ⟨#[10]⟩, .int .i64 61] w fun e w' => e = .returned (.slice (some ⟨w.heap.size, 0, none⟩) (wLn 61 t).length (min 61 (t.size + 1))) ∧ w' = w.alloc (.cells (Lib.cellsOf (wLn 61 t) (min 61 (t.size + 1))) 9) from Tryz.strings_SplitN t ⟨#[10]⟩ 61 m w (by omega) hL.2.2.1 (by decide) (by omega) (by omega))
  have HSZ := hid (fun p (h : p ∈ wLs t) => Nat.le_trans (split_sizeL _ _ _ _ p (List.dropLast_subset _ h)) ht)
  obtain ⟨h5, h1⟩ := wLn_len 61 t (by omega)
  have h6 : (wLn 61 t).length ≤ min 61 (t.size + 1) := by have := Lib.splitB_length_le ⟨#[10]⟩ 0 (min 61 (t.size + 1) - 1) t; unfold wLn; omega
  have hdl : ∀ k p, (wLs t)[k]? = some p → (wLn 61 t)[k]? = some p := fun k p h => by
    unfold wLs at h
    rw [List.getElem?_dropLast] at h
    split at h
    · exact h
    · cases h
  have hlen : (wLs t).length = (wLn 61 t).length - 1 := by unfold wLs; simp
  have HLV := hid (fun W (h : Below w.heap.size w W) => hL.below h (Nat.le_refl _))
  obtain ⟨qs, hqs⟩ : ∃ qs, wLs t = qs := ⟨_, rfl⟩
  obtain ⟨ps, hps⟩ : ∃ ps, wLn 61 t = ps := ⟨_, rfl⟩
  obtain ⟨cp, hcp⟩ : ∃ cp, min 61 (t.size + 1) = cp := ⟨_, rfl⟩
  rw [hps] at HSP h5 h1 h6 hdl hlen
  rw [hcp] at HSP h6
  rw [hqs] at HSZ hdl hlen ⊢
  obtain ⟨q, hq⟩ : ∃ q, ps.length = q := ⟨_, rfl⟩
  obtain ⟨n, hn⟩ : ∃ n, qs.length = n := ⟨_, rfl⟩
  have hrow := Row.new w 9 (ps.map Value.string ++ List.replicate (cp - ps.length) (Value.string ByteArray.empty))
  have hW : (w.alloc (.cells (ps.map Value.string ++ List.replicate (cp - ps.length) (Value.string ByteArray.empty)).toArray 9)) = w.alloc (.cells (Lib.cellsOf ps cp) 9) := rfl
  rw [hW] at hrow
  have hcl : ∀ k p, qs[k]? = some p → (w.alloc (.cells (Lib.cellsOf ps cp) 9)).cell? ⟨w.heap.size, k, none⟩ = some (.string p) := fun k p h0 => by
    have h := hdl k p h0
    have hk : k < ps.length := by
      by_cases c : k < ps.length
      · exact c
      · rw [List.getElem?_eq_none (by omega)] at h; cases h
    rw [hrow.cell k, List.getElem?_append_left (by simpa using hk), List.getElem?_map, h]
    rfl
  have hlt := hrow.lt
  have hB : Below w.heap.size w (w.alloc (.cells (Lib.cellsOf ps cp) 9)) := (Below.refl _ _).alloc (Nat.le_refl _) _
  rw [hq] at HSP h5 h1 h6 hlen
  rw [hn] at hlen
  have HM := hid hn; have HQ := hid (show q = n + 1 by omega)
  have a1 : IntKind.i64.wrap ((q : Int) - 1) = (n : Int) := by rw [IntWalk.i64_in _ (by omega)]; omega
  have a2 : (0 : Int) ≤ (n : Int) := by omega
  have a3 : (n : Int) ≤ (cp : Int) := by omega
  have a4 : (q : Int) - 1 = (n : Int) := by omega
  have hn60 : n ≤ 60 := by omega
  have hncp : n ≤ cp := by omega
  clear hn hps hcp hqs hW hrow hL ht hdl hlen h6 hq
  go_enter Tryz.func11, Tryz.ntmps11
  go_wp2_with fail
  with_reducible refine HSP.out.mono ?_
  rintro e w1 ⟨rfl, rfl⟩
  obtain ⟨W1, hW1⟩ : ∃ X, X = w.alloc (.cells (Lib.cellsOf ps cp) 9) := ⟨_, rfl⟩
  rw [← hW1] at hcl hlt hB ⊢
  have HCL := hid hcl; have HLT := hid hlt; have HB := hid hB; have HZ := hid hB.size
  clear hW1 hcl hlt hB HSP
  go_wp2_with fail
  go_loopw [8, 24] (fun s8 i wr => ∃ (k : Nat) (v : Value) (xs : List (Int × Int)), k ≤ n ∧ i = .int .i64 k ∧ v = s8 ∧ (qs.take k).map acF = xs.map some ∧ xs.length = k ∧ wr.ownsRow W1.heap.size 32 2 v k (avals xs) ∧ Below W1.heap.size W1 wr) (fun _ i _ => n - (intOf i).toNat)
  case atStart => exact ⟨0, _, [], Nat.zero_le _, rfl, rfl, rfl, rfl, ⟨rfl, .inl ⟨rfl, rfl⟩⟩, Below.refl _ _⟩
  case round =>
    obtain ⟨k, v, xs, hk, rfl, rfl, hA, hxl, hO, hB⟩ := hrel
    by_cases hkn : k < n
    · have k1 : (k : Int) < (n : Int) := by omega
      have k0 : (0 : Int) ≤ (k : Int) := by omega
      have w1' : IntKind.i64.wrap ((k : Int) + 1) = (k : Int) + 1 := IntWalk.i64_in _ (by omega)
      have hkl : k < qs.length := by rw [HM.out]; exact hkn
      have hpk : qs[k]? = some qs[k] := List.getElem?_eq_getElem hkl
      obtain ⟨p, hp⟩ : ∃ p, qs[k] = p := ⟨_, rfl⟩
      rw [hp] at hpk
      have hmem : p ∈ qs := List.mem_of_getElem? hpk
      have hcell : wr.cell? ⟨w.heap.size, k, none⟩ = some (.string p) := (hB.cell (p := ⟨w.heap.size, k, none⟩) HLT.out).trans (HCL.out k _ hpk)
      have HBR := hid (HB.out.trans (hB.mono HZ.out))
      have HRP := hid (implReadAct_any p (HSZ.out p hmem) wr (HLV.out wr HBR.out))
      have HPK := hid hpk; have HO := hid hO; have HB3 := hid hB; have HA := hid hA; have HXL := hid hxl; have HMEM := hid hmem
      have hz1 := hB.size
      clear hA hO hB hpk hp hkl hxl hmem
      cases hr : acF p with
      | none =>
        unfold RpG at HRP
        rw [hr] at HRP
        have HR := hid hr
        clear hr
        go_wp2_with fail
        with_reducible refine HRP.out.mono ?_
        rintro e w2 ⟨x, y, rfl, hxy, hB2⟩
        have HB4 := hid (HBR.out.trans (hB2.mono HBR.out.size))
        have HB5 := hid (HB4.out.alloc HB4.out.size (.cells #[.int .i8 x, .int .i64 y] 32))
        clear hxy hB2
        simp only [Option.isSome_none]
        go_wp2_with fail
        exact bodyPost_ret (v := .tuple #[.slice none 0 0, .bool false]) (by simp [results, Tryz.results11, go_sem]) rfl ⟨_, _, rfl, HB5.out, .inr ⟨rfl, p, HMEM.out, HR.out⟩⟩
      | some ab =>
        obtain ⟨a, b⟩ := ab
        have HSN := hid (show (qs.take (k + 1)).map acF = (xs ++ [(a, b)]).map some from by rw [take_nextL HPK.out, List.map_append, HA.out, List.map_append]; simp [hr])
        unfold RpG at HRP
        rw [hr] at HRP
        clear hr
        go_wp2_with fail
        with_reducible refine HRP.out.mono ?_
        rintro e w2 ⟨x, y, rfl, hxy, hB2⟩
        obtain ⟨rfl, rfl⟩ := hxy a b rfl
        have HB5 := hid (HB3.out.trans (hB2.mono hz1))
        have HO4 := hid (((owns_belowL HO.out hB2).alloc (.cells #[.int .i8 x, .int .i64 y] 32)).alloc (.cells #[.int .i8 x, .int .i64 y] 32))
        have news := Row.new (w2.alloc (.cells #[.int .i8 x, .int .i64 y] 32)) 32 [.int .i8 x, .int .i64 y]
        have nc := hid (show ∀ j u, ([.int .i8 x, .int .i64 y] : List Value)[j]? = some u → ((w2.alloc (.cells #[.int .i8 x, .int .i64 y] 32)).alloc (.cells #[.int .i8 x, .int .i64 y] 32)).cell? ((⟨w2.heap.size + 1, 0, none⟩ : Addr).add j) = some u from fun j u hj => by
          rw [show (⟨w2.heap.size + 1, 0, none⟩ : Addr).add j = ⟨w2.heap.size + 1, j, none⟩ from by unfold Addr.add; split <;> simp_all]
          have := (news.cell j).trans hj
          simpa only [World.size_alloc] using this)
        have HONE := hid (show ∀ u ∈ ([.int .i8 x, .int .i64 y] : List Value), u.oneCell' = true from by intro u hu; simp at hu; rcases hu with rfl | rfl <;> rfl)
        have HB7 := hid (show Below W1.heap.size W1 ((w2.alloc (.cells #[.int .i8 x, .int .i64 y] 32)).alloc (.cells #[.int .i8 x, .int .i64 y] 32)) from (HB5.out.alloc HB5.out.size _).alloc (by have := HB5.out.size; simp; omega) _)
        have HBW := hid (show W1.heap.size ≤ ((w2.alloc (.cells #[.int .i8 x, .int .i64 y] 32)).alloc (.cells #[.int .i8 x, .int .i64 y] 32)).heap.size by simp; have := HB5.out.size; omega)
        simp only [Option.isSome_some]
        clear news hxy hB2
        go_wp2_with (at_builtin; refine wpList_append_own _ rfl _ _ 22 rfl W1.heap.size 32 i0 (.agg #[.int .i8 0, .int .i64 0]) 2 16 Tryz.underlying22 hi0 iz0 iz1 iz2 rfl (by decide) _ _ _ rfl HO4.out ⟨w2.heap.size + 1, 0, none⟩ 1 1 ([.int .i8 x, .int .i64 y] : List Value) rfl rfl nc.out HONE.out (by unfold maxLen; omega) (by omega) HBW.out ?_; rintro v' w7 hown' hgrow -; have OWN := hid hown'; have GRW := hid hgrow; clear hown' hgrow)
        have bel := HB7.out.grown GRW.out HBW.out (fun kk e => by have := (HO4.out.lt kk e).1; omega)
        have OW := OWN.out
        rw [show avals xs ++ [.int .i8 x, .int .i64 y] = avals (xs ++ [(x, y)]) from (avals_snoc xs x y).symm] at OW
        have HOW := hid OW
        have HBE := hid bel
        clear bel OW
        go_wp2_with fail
        go_roundw
        case rel => exact ⟨k + 1, v', xs ++ [(x, y)], by omega, by go_num, rfl, HSN.out, by simp [HXL.out], HOW.out, HBE.out⟩
        case measure => simp [intOf]; omega
    · obtain rfl : k = n := by omega
      have kf : ¬ (k : Int) < (k : Int) := by omega
      rw [List.take_of_length_le (by rw [HM.out]; exact Nat.le_refl _)] at hA
      have HA := hid hA; have HO := hid hO; have HXL := hid hxl
      have HB2 := hid (HB.out.trans (hB.mono HZ.out))
      clear hA hO hB hxl
      go_wp2_with fail
      refine bodyPost_ret (v := .tuple #[v, .bool true]) (by simp [results, Tryz.results11, go_sem]) rfl ⟨v, true, rfl, HB2.out, .inl ⟨rfl, xs, HA.out, ?_⟩⟩
      rw [HXL.out]
      exact owns_baseL HO.out HZ.out
end Go.Proofs.YtoenefhobjpfdaaGreatDoor
