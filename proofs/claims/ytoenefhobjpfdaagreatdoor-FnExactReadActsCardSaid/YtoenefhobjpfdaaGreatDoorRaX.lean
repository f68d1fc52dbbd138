/- spec.l07Read. -/
import Derived.Test.YtoenefhobjpfdaaGreatDoorRaW
import Derived.Deep.QuietTactic
import Derived.Deep.RegionHeld3
namespace Go.Proofs.YtoenefhobjpfdaaGreatDoor
open Go.RowKit Go.Shelf
set_option linter.unusedVariables false
set_option linter.unusedSimpArgs false
def L7G (l : List UInt8) (w : World) (e : Ending) (w' : World) : Prop := ∃ (k n : Int) (ok : Bool), e = .returned (.tuple #[.agg #[.int .i8 k, .int .i64 n], .bool ok]) ∧ (ok = true → acWd l = some (k, n)) ∧ (ok = false → acWd l = none) ∧ Below w.heap.size w w'
theorem acWd_none {p x : List UInt8} {r : List (List UInt8)} (h : spl 32 p = x :: r) (hx : ∀ k, isK k → x ≠ wordA k) : acWd p = none := by
  unfold acWd
  rw [h]
  simp only
  rcases kindW_cases x with hk | ⟨h0, _⟩
  · exact absurd (kindW_out rfl hk) (hx _ hk)
  · rw [if_pos h0]
theorem acWd_one {p x : List UInt8} {r : List (List UInt8)} {k : Int} (h : spl 32 p = x :: r) (hk : isK k) (hx : x = wordA k) (h3 : 3 < k) : acWd p = if r = [] then some (k, 0) else none := by
  unfold acWd
  rw [h]
  simp only
  rw [hx, kindW_word hk, if_neg (by omega), if_pos h3]
theorem acWd_two {p x : List UInt8} {r : List (List UInt8)} {k : Int} (h : spl 32 p = x :: r) (hk : isK k) (hx : x = wordA k) (h3 : ¬ 3 < k) (hr : r.length ≠ 1) : acWd p = none := by
  unfold acWd
  rw [h]
  simp only
  have hne : ¬ k = 0 := by unfold isK at hk; omega
  rw [hx, kindW_word hk, if_neg hne, if_neg h3]
  split
  · simp at hr
  · rfl
theorem acWd_num {p x y : List UInt8} {k : Int} (h : spl 32 p = [x, y]) (hk : isK k) (hx : x = wordA k) (h3 : ¬ 3 < k) : acWd p = (match numSg y with | some n => if okAct k n then some (k, n) else none | none => none) := by
  unfold acWd
  rw [h]
  simp only
  have hne : ¬ k = 0 := by unfold isK at hk; omega
  rw [hx, kindW_word hk, if_neg hne, if_neg h3]
  rfl
set_option maxRecDepth 100000 in
set_option maxHeartbeats 4000000 in
theorem l07Read_any (p : ByteArray) (hp : p.size ≤ 1048576) (w : World) : Calls Tryz.prog 10 #[.string p] w (L7G p.data.toList w) := by
  have HSP := hid (fun W => l01Split_any p hp 32 32 (by decide) W)
  have hsz : p.size = p.data.toList.length := by rw [Array.length_toList]; rfl
  obtain ⟨l, hl⟩ : ∃ l, p.data.toList = l := ⟨_, rfl⟩
  rw [hl] at HSP hsz ⊢
  have hml := fun q hq => spl_mem_len (c := 32) (l := l) (p := q) hq
  obtain ⟨x, r, hxr⟩ : ∃ x r, spl 32 l = x :: r := by
    cases h : spl 32 l with
    | nil => exact absurd h (spl_ne 32 l)
    | cons a b => exact ⟨a, b, rfl⟩
  have HX := hid hxr
  rw [hxr] at HSP hml
  have HML := hid hml
  have HLT := hid (show l.length ≤ 1048576 by omega)
  have HBV := hid (show Below w.heap.size w (w.alloc (.cells #[.int .i8 0, .int .i64 0] 32)) from (Below.refl _ _).alloc (Nat.le_refl _) _)
  have HRV := hid (Row.new w 32 [.int .i8 0, .int .i64 0])
  clear hsz hl hxr hml hp
  go_enter Tryz.func10, Tryz.ntmps10
  go_wp2_with fail
  with_reducible refine (HSP.out _).mono ?_
  rintro e w1 ⟨v, rfl, hO, hB⟩
  obtain ⟨g, cp, rfl, hg, hcp, hgz, hcl⟩ := ownsS_addr hO (by rw [bas_len]; simp)
  obtain ⟨q, hq⟩ : ∃ q, (x :: r).length = q := ⟨_, rfl⟩
  rw [bas_len, hq]
  have LN := hid (show (0 : Int) < (q : Int) by rw [← hq]; simp)
  have LQ := hid (show (0 : Nat) < q by rw [← hq]; simp)
  have HQ := hid hq
  clear hq
  have B1 := hid (HBV.out.trans (hB.mono HBV.out.size)); have R1 := hid (HRV.out.below hB HRV.out.lt)
  have HCL := hid hcl; have GZ := hid hgz
  clear hO hB hcp hg hcl hgz HSP
  go_wp2_with fail
  with_reducible refine (l07Words_any w1).mono ?_
  rintro e w2 ⟨rfl, hB, hW⟩
  have B2 := hid (B1.out.trans (hB.mono B1.out.size)); have R2 := hid (R1.out.below hB R1.out.lt)
  have HC2 := hid (fun j z (h : (bas (x :: r))[j]? = some z) => (hB.cell (p := ⟨g, j, none⟩) GZ.out).trans (HCL.out j z h))
  have HW := hid hW
  have GZ2 := hid (Nat.lt_of_lt_of_le GZ.out hB.size)
  clear hB hW
  obtain ⟨W2, hW2⟩ : ∃ z, w1.heap.size = z := ⟨_, rfl⟩
  rw [hW2] at HW ⊢
  have HWL := hid (show W2 < w2.heap.size from by unfold WordsAt at HW; exact HW.out.lt)
  clear hW2
  go_wp2_with fail
  go_loopw [6] (fun i wr => ∃ k : Nat, 1 ≤ k ∧ k ≤ 6 ∧ i = .int .i64 k ∧ (∀ j : Nat, 1 ≤ j → j < k → x ≠ wordA j) ∧ Below w2.heap.size w2 wr) (fun i _ => 6 - (intOf i).toNat)
  case atStart => exact ⟨1, by omega, by omega, rfl, fun j h1 h2 => by omega, Below.refl _ _⟩
  case round =>
    obtain ⟨k, hk1, hk, rfl, hno, hB⟩ := hrel
    have B3 := hid (B2.out.trans (hB.mono B2.out.size)); have R3 := hid (R2.out.below hB R2.out.lt)
    have HN := hid hno
    by_cases hk6 : k < 6
    · have k1 : (k : Int) < 6 := by omega
      have k0 : (0 : Int) ≤ (k : Int) := by omega
      have k2 : (1 : Int) ≤ (k : Int) := by omega
      have w1' : IntKind.i64.wrap ((k : Int) + 1) = (k : Int) + 1 := IntWalk.i64_in _ (by omega)
      have w8 : IntKind.i8.wrap (k : Int) = (k : Int) := by simp only [IntKind.wrap, IntKind.signed, IntKind.bits]; simp; omega
      have x0 : wr.cell? ⟨g, 0, none⟩ = some (.string ⟨x.toArray⟩) := (hB.cell (p := ⟨g, 0, none⟩) GZ2.out).trans (HC2.out 0 ⟨x.toArray⟩ (by simp [bas]))
      have y0 : wr.cell? ⟨W2, k, none⟩ = some (.string ⟨(wlist k).toArray⟩) := (hB.cell (p := ⟨W2, k, none⟩) HWL.out).trans (wlist_at HW.out hk6)
      have hwk : wlist k = wordA k := by unfold wlist; rw [if_neg (by omega)]
      have HK := hid (show isK (k : Int) by unfold isK; omega)
      have ln' := LN.out; have ln := LQ.out
      have HBB := hid hB
      rw [hwk] at y0
      by_cases hxk : x = wordA k
      · have he : ((⟨x.toArray⟩ : ByteArray).toList == (⟨(wordA k).toArray⟩ : ByteArray).toList) = true := str_yes hxk
        have he3 : ((⟨x.toArray⟩ : ByteArray).toList != (⟨(wordA k).toArray⟩ : ByteArray).toList) = false := by rw [bne, he]; rfl
        have HXK := hid hxk
        have cy : r.length = 1 → ∃ y, r = [y] ∧ wr.cell? ⟨g, 1, none⟩ = some (.string ⟨y.toArray⟩) ∧ y.length ≤ 1048576 := fun h => by
          match r, h with
          | [y], _ => exact ⟨y, rfl, (hB.cell (p := ⟨g, 1, none⟩) GZ2.out).trans (HC2.out 1 ⟨y.toArray⟩ (by simp [bas])), by have := HML.out y (by simp); have := HLT.out; omega⟩
        have HCY := hid cy
        obtain ⟨X, hX⟩ : ∃ W, (⟨x.toArray⟩ : ByteArray) = W := ⟨_, rfl⟩
        obtain ⟨Wk, hWk⟩ : ∃ W, (⟨(wordA k).toArray⟩ : ByteArray) = W := ⟨_, rfl⟩
        rw [hX] at x0 he he3
        rw [hWk] at y0 he he3
        clear hno hxk hX hWk hB hwk cy
        go_upto_region 6 with fail
        go_quiet (fail)
        go_upto_region 7 with fail
        obtain ⟨D, hD⟩ : ∃ y, y = wr.drewN nq := ⟨_, rfl⟩
        have HVD := hid hD
        have dV : Below wr.heap.size wr D := by rw [hD]; exact below_drewN (Below.refl _ _) _
        rw [← HVD.out]
        clear hD x0 y0
        have bA : Below D.heap.size D (D.alloc (.cells #[.int .i8 (k : Int), .int .i64 0] 32)) := (Below.refl _ _).alloc (Nat.le_refl _) _
        have rA := Row.new D 32 [.int .i8 (k : Int), .int .i64 0]
        have dVA := dV.trans (bA.mono dV.size)
        have b4 := B3.out.trans (dVA.mono B3.out.size)
        have r4 := R3.out.below dVA R3.out.lt
        have HNE := hid (show w.heap.size ≠ D.heap.size from fun e => by have := B3.out.size; have := R3.out.lt; have := dV.size; omega)
        have HWA := hid (show w.heap.size ≤ D.heap.size from Nat.le_trans B3.out.size dV.size)
        obtain ⟨V, hV⟩ : ∃ y, y = D.alloc (.cells #[.int .i8 (k : Int), .int .i64 0] 32) := ⟨_, rfl⟩
        obtain ⟨A, hA⟩ : ∃ y, D.heap.size = y := ⟨_, rfl⟩
        have HV := hid hV; have HA := hid hA
        rw [← hV] at b4 r4 rA dVA
        rw [hA] at rA HNE HWA
        have B4 := hid b4; have R4 := hid r4; have RA := hid rA; have DVA := hid dVA
        clear hV hA dV bA rA b4 r4 dVA
        go_upto_region 8 with fail
        rw [← HV.out, HA.out]
        by_cases h3 : (3 : Int) < (k : Int)
        · have HAC := hid (acWd_one HX.out HK.out HXK.out h3)
          have ca0 := RA.out.cell 0; have ca1 := RA.out.cell 1
          have c0 := R4.out.cell 0; have c1 := R4.out.cell 1; have f0 := R4.out.frozen 0; have f1 := R4.out.frozen 1
          simp only [List.getElem?_cons_zero, List.getElem?_cons_succ] at ca0 ca1 c0 c1
          have b5 := (B4.out.setCell (p := ⟨w.heap.size, 0, none⟩) (Nat.le_refl _) (.int .i8 (k : Int))).setCell (p := ⟨w.heap.size, 1, none⟩) (Nat.le_refl _) (.int .i64 0)
          have r5 := (R4.out.set 0 (.int .i8 (k : Int))).set 1 (.int .i64 0)
          have d0 := r5.cell 0; have d1 := r5.cell 1
          simp only [List.set_cons_zero, List.set_cons_succ, List.getElem?_cons_zero, List.getElem?_cons_succ] at d0 d1
          have HB5 := hid b5
          clear b5 r5
          by_cases hq1 : q = 1
          · have e1 : ((q : Int) == 1) = true := by simp; omega
            have e2 : (q : Int) = 1 := by omega
            have HR := hid (show acWd l = some ((k : Int), 0) from by rw [HAC.out, if_pos (by have := HQ.out; simp at this; exact List.length_eq_zero_iff.1 (by omega))])
            clear hq1
            go_wp2_with fail
            exact bodyPost_ret (v := .tuple #[.agg #[.int .i8 (k : Int), .int .i64 0], .bool true]) (by simp [results, Tryz.results10, go_sem, d0, d1]) rfl ⟨(k : Int), 0, true, rfl, fun _ => HR.out, (fun h => by cases h), HB5.out⟩
          · have e1 : ((q : Int) == 1) = false := by simp; omega
            have e2 : ¬ (q : Int) = 1 := by omega
            have HR := hid (show acWd l = none from by rw [HAC.out, if_neg (by have := HQ.out; rintro rfl; simp at this; omega)])
            clear hq1
            go_wp2_with fail
            exact bodyPost_ret (v := .tuple #[.agg #[.int .i8 (k : Int), .int .i64 0], .bool false]) (by simp [results, Tryz.results10, go_sem, d0, d1]) rfl ⟨(k : Int), 0, false, rfl, (fun h => by cases h), fun _ => HR.out, HB5.out⟩
        · have h3' : (k : Int) ≤ 3 := by omega
          by_cases hq2 : q = 2
          · obtain ⟨y, hy, cy, hyl⟩ := HCY.out (by have := HQ.out; simp at this; omega)
            have e2 : (q : Int) = 2 := by omega
            have e1 : ((q : Int) != 2) = false := by simp; omega
            have e3 : (1 : Int) < (q : Int) := by omega
            have e4 : 1 < q := by omega
            have HAC := hid (acWd_num (by rw [HX.out, hy]) HK.out HXK.out h3)
            have HSG := hid (fun W => l01Signed_any ⟨y.toArray⟩ (by show y.toArray.size ≤ _; simpa using hyl) W)
            rw [show ((⟨y.toArray⟩ : ByteArray).data.toList) = y from rfl] at HSG
            have cy4 := (DVA.out.cell (p := ⟨g, 1, none⟩) (Nat.lt_of_lt_of_le GZ2.out HBB.out.size)).trans cy
            obtain ⟨Y, hY⟩ : ∃ W, (⟨y.toArray⟩ : ByteArray) = W := ⟨_, rfl⟩
            rw [hY] at HSG cy4
            clear hY hy hyl cy hq2
            go_wp2_with fail
            with_reducible refine (HSG.out _).mono ?_
            rintro e w5 ⟨n, okn, rfl, hs1, hs2, hw⟩
            subst hw
            have HS1 := hid hs1; have HS2 := hid hs2
            have ca0 := RA.out.cell 0; have ca1 := RA.out.cell 1; have fa0 := RA.out.frozen 0; have fa1 := RA.out.frozen 1
            simp only [List.getElem?_cons_zero, List.getElem?_cons_succ] at ca0 ca1
            have r6 := R4.out.other (a := ⟨A, 1, none⟩) (fun e => HNE.out e.symm) (.int .i64 n)
            have rA6 := RA.out.set 1 (.int .i64 n)
            have b6 := B4.out.setCell (p := ⟨A, 1, none⟩) HWA.out (.int .i64 n)
            simp only [List.set_cons_zero, List.set_cons_succ] at rA6
            have HOA := hid (fun W => l07Act_any (k : Int) n W)
            obtain ⟨V6, hV6⟩ : ∃ y, y = w5.setCell ⟨A, 1, none⟩ (.int .i64 n) := ⟨_, rfl⟩
            have HV6 := hid hV6
            rw [← hV6] at r6 rA6 b6
            have R6 := hid r6; have RA6 := hid rA6; have B6 := hid b6
            clear hs1 hs2 cy4 r6 rA6 b6 hV6
            go_upto_region 14 with fail
            rw [← HV6.out]
            cases okn with
            | true =>
              cases ho : okAct (k : Int) n with
              | true =>
                have HOW := hid (HOA.out)
                rw [ho] at HOW
                have HR := hid (show acWd l = some ((k : Int), n) from by rw [HAC.out, HS1.out rfl]; simp only; rw [if_pos ho])
                clear ho
                have ca0 := RA6.out.cell 0
                refine wp_region_held (S := fun W : World => Row W A 32 [.int .i8 (k : Int), .int .i64 n]) (by kernel_rfl) ?_
                change wpAnyH _ _ _ _ _ _ _ _ (World.drew _)
                have hs0 : (fun W : World => Row W A 32 [.int .i8 (k : Int), .int .i64 n]) (World.drew V6) := RA6.out
                have bw : Below V6.heap.size V6 (World.drew V6) := (Below.refl _ _).drew
                obtain ⟨Z, hZ⟩ : ∃ X, X = World.drew V6 := ⟨_, rfl⟩
                rw [← hZ] at hs0 bw ⊢
                clear hZ
                refine wpAnyH_takeD (some 49) (i := 0) (v := ?_) rfl rfl (by kernel_rfl) (by kernel_rfl) (by kernel_rfl) (fun _ _ _ h => h) (.inl ⟨by kernel_rfl, ?_⟩) hs0 ?_
                rotate_left
                · intro w' hw'; have hr0 := Row.cell hw' 0; have hr1 := Row.cell hw' 1; simp only [List.getElem?_cons_zero, List.getElem?_cons_succ] at hr0 hr1; clear hw'; go_simp; try with_reducible rfl
                try simp only [Act.put, List.setIfInBounds_toArray, List.set_cons_zero, List.set_cons_succ]
                refine wpAnyH_takeD (some 50) (i := 1) (v := ?_) rfl rfl (by kernel_rfl) (by kernel_rfl) (by kernel_rfl) (fun _ _ _ h => h) (.inl ⟨by kernel_rfl, ?_⟩) hs0 ?_
                rotate_left
                · intro w' hw'; have hr0 := Row.cell hw' 0; have hr1 := Row.cell hw' 1; simp only [List.getElem?_cons_zero, List.getElem?_cons_succ] at hr0 hr1; clear hw'; go_simp; try with_reducible rfl
                try simp only [Act.put, List.setIfInBounds_toArray, List.set_cons_zero, List.set_cons_succ]
                refine wpAnyH_takeD (some 51) (i := 2) (v := ?_) rfl rfl (by kernel_rfl) (by kernel_rfl) (by kernel_rfl) (fun _ _ _ h => h) (.inl ⟨by kernel_rfl, ?_⟩) hs0 ?_
                rotate_left
                · intro w' hw'; have hr0 := Row.cell hw' 0; have hr1 := Row.cell hw' 1; simp only [List.getElem?_cons_zero, List.getElem?_cons_succ] at hr0 hr1; clear hw'; go_simp; try with_reducible rfl
                try simp only [Act.put, List.setIfInBounds_toArray, List.set_cons_zero, List.set_cons_succ]
                refine wpAnyH_takeD (some 52) (i := 3) (v := ?_) rfl rfl (by kernel_rfl) (by kernel_rfl) (by kernel_rfl) (fun _ _ _ h => h) (.inl ⟨by kernel_rfl, ?_⟩) hs0 ?_
                rotate_left
                · intro w' hw'; have hr0 := Row.cell hw' 0; have hr1 := Row.cell hw' 1; simp only [List.getElem?_cons_zero, List.getElem?_cons_succ] at hr0 hr1; clear hw'; go_simp; try with_reducible rfl
                try simp only [Act.put, List.setIfInBounds_toArray, List.set_cons_zero, List.set_cons_succ]
                refine wpAnyH_all (rs := [4]) (by kernel_rfl) (by simp) ?_
                intro i hi; simp only [List.mem_singleton] at hi; subst hi
                refine wpOp_step rfl (fun K hK => ?_)
                go_simp
                with_reducible refine (HOW.out _).mono ?_
                rintro e w7 ⟨rfl, hB7⟩
                have hs7 : (fun W : World => Row W A 32 [.int .i8 (k : Int), .int .i64 n]) w7 := Row.below hs0 hB7 (Row.lt hs0)
                replace bw := bw.trans (hB7.mono bw.size)
                clear hB7
                refine hK _ _ ⟨hs7, ?_⟩
                try simp only [Act.put, List.setIfInBounds_toArray, List.set_cons_zero, List.set_cons_succ]
                clear hK K
                refine wpAnyH_takeD (some 54) (i := 5) (v := ?_) rfl rfl (by kernel_rfl) (by kernel_rfl) (by kernel_rfl) (fun _ _ _ h => h) (.inl ⟨by kernel_rfl, ?_⟩) hs7 ?_
                rotate_left
                · intro w' hw'; have hr0 := Row.cell hw' 0; have hr1 := Row.cell hw' 1; simp only [List.getElem?_cons_zero, List.getElem?_cons_succ] at hr0 hr1; clear hw'; go_simp; try with_reducible rfl
                try simp only [Act.put, List.setIfInBounds_toArray, List.set_cons_zero, List.set_cons_succ]
                refine wpAnyH_all (rs := [6]) (by kernel_rfl) (by simp) ?_
                intro i hi; simp only [List.mem_singleton] at hi; subst hi
                refine wpOp_step rfl (fun K hK => ?_)
                have b7 := B6.out.trans (bw.mono B6.out.size)
                have r7 := R6.out.below bw R6.out.lt
                have c0 := r7.cell 0; have c1 := r7.cell 1; have f0 := r7.frozen 0; have f1 := r7.frozen 1
                simp only [List.getElem?_cons_zero, List.getElem?_cons_succ] at c0 c1
                have b8 := (b7.setCell (p := ⟨w.heap.size, 0, none⟩) (Nat.le_refl _) (.int .i8 (k : Int))).setCell (p := ⟨w.heap.size, 1, none⟩) (Nat.le_refl _) (.int .i64 n)
                have r8 := (r7.set 0 (.int .i8 (k : Int))).set 1 (.int .i64 n)
                have d0 := r8.cell 0; have d1 := r8.cell 1
                simp only [List.set_cons_zero, List.set_cons_succ, List.getElem?_cons_zero, List.getElem?_cons_succ] at d0 d1
                have hs9 := (Row.other hs7 (a := ⟨w.heap.size, 0, none⟩) HNE.out (.int .i8 (k : Int)))
                have hsA := (Row.other hs9 (a := ⟨w.heap.size, 1, none⟩) HNE.out (.int .i64 n))
                go_simp
                refine hK _ _ ⟨hsA, ?_⟩
                try simp only [Act.put, List.setIfInBounds_toArray, List.set_cons_zero, List.set_cons_succ]
                clear hK K c0 c1
                refine wpAnyH_takeD (some 3) (i := 7) (v := ?_) rfl rfl (by kernel_rfl) (by kernel_rfl) (by kernel_rfl) (fun _ _ _ h => h) (.inl ⟨by kernel_rfl, ?_⟩) hsA ?_
                rotate_left
                · intro w' hw'; have hr0 := Row.cell hw' 0; have hr1 := Row.cell hw' 1; simp only [List.getElem?_cons_zero, List.getElem?_cons_succ] at hr0 hr1; clear hw'; go_simp; try with_reducible rfl
                try simp only [Act.put, List.setIfInBounds_toArray, List.set_cons_zero, List.set_cons_succ]
                refine wpAnyH_done (by kernel_rfl) ?_ _
                go_wp2_with fail
                exact bodyPost_ret (v := .tuple #[.agg #[.int .i8 (k : Int), .int .i64 n], .bool true]) (by simp [results, Tryz.results10, go_sem, d0, d1]) rfl ⟨(k : Int), n, true, rfl, fun _ => HR.out, (fun h => by cases h), b8⟩
                            | false =>
                have HOW := hid (HOA.out)
                rw [ho] at HOW
                have HR := hid (show acWd l = none from by rw [HAC.out, HS1.out rfl]; simp only; rw [if_neg (by rw [ho]; simp)])
                clear ho
                have ca0 := RA6.out.cell 0
                refine wp_region_held (S := fun W : World => Row W A 32 [.int .i8 (k : Int), .int .i64 n]) (by kernel_rfl) ?_
                change wpAnyH _ _ _ _ _ _ _ _ (World.drew _)
                have hs0 : (fun W : World => Row W A 32 [.int .i8 (k : Int), .int .i64 n]) (World.drew V6) := RA6.out
                have bw : Below V6.heap.size V6 (World.drew V6) := (Below.refl _ _).drew
                obtain ⟨Z, hZ⟩ : ∃ X, X = World.drew V6 := ⟨_, rfl⟩
                rw [← hZ] at hs0 bw ⊢
                clear hZ
                refine wpAnyH_takeD (some 49) (i := 0) (v := ?_) rfl rfl (by kernel_rfl) (by kernel_rfl) (by kernel_rfl) (fun _ _ _ h => h) (.inl ⟨by kernel_rfl, ?_⟩) hs0 ?_
                rotate_left
                · intro w' hw'; have hr0 := Row.cell hw' 0; have hr1 := Row.cell hw' 1; simp only [List.getElem?_cons_zero, List.getElem?_cons_succ] at hr0 hr1; clear hw'; go_simp; try with_reducible rfl
                try simp only [Act.put, List.setIfInBounds_toArray, List.set_cons_zero, List.set_cons_succ]
                refine wpAnyH_takeD (some 50) (i := 1) (v := ?_) rfl rfl (by kernel_rfl) (by kernel_rfl) (by kernel_rfl) (fun _ _ _ h => h) (.inl ⟨by kernel_rfl, ?_⟩) hs0 ?_
                rotate_left
                · intro w' hw'; have hr0 := Row.cell hw' 0; have hr1 := Row.cell hw' 1; simp only [List.getElem?_cons_zero, List.getElem?_cons_succ] at hr0 hr1; clear hw'; go_simp; try with_reducible rfl
                try simp only [Act.put, List.setIfInBounds_toArray, List.set_cons_zero, List.set_cons_succ]
                refine wpAnyH_takeD (some 51) (i := 2) (v := ?_) rfl rfl (by kernel_rfl) (by kernel_rfl) (by kernel_rfl) (fun _ _ _ h => h) (.inl ⟨by kernel_rfl, ?_⟩) hs0 ?_
                rotate_left
                · intro w' hw'; have hr0 := Row.cell hw' 0; have hr1 := Row.cell hw' 1; simp only [List.getElem?_cons_zero, List.getElem?_cons_succ] at hr0 hr1; clear hw'; go_simp; try with_reducible rfl
                try simp only [Act.put, List.setIfInBounds_toArray, List.set_cons_zero, List.set_cons_succ]
                refine wpAnyH_takeD (some 52) (i := 3) (v := ?_) rfl rfl (by kernel_rfl) (by kernel_rfl) (by kernel_rfl) (fun _ _ _ h => h) (.inl ⟨by kernel_rfl, ?_⟩) hs0 ?_
                rotate_left
                · intro w' hw'; have hr0 := Row.cell hw' 0; have hr1 := Row.cell hw' 1; simp only [List.getElem?_cons_zero, List.getElem?_cons_succ] at hr0 hr1; clear hw'; go_simp; try with_reducible rfl
                try simp only [Act.put, List.setIfInBounds_toArray, List.set_cons_zero, List.set_cons_succ]
                refine wpAnyH_all (rs := [4]) (by kernel_rfl) (by simp) ?_
                intro i hi; simp only [List.mem_singleton] at hi; subst hi
                refine wpOp_step rfl (fun K hK => ?_)
                go_simp
                with_reducible refine (HOW.out _).mono ?_
                rintro e w7 ⟨rfl, hB7⟩
                have hs7 : (fun W : World => Row W A 32 [.int .i8 (k : Int), .int .i64 n]) w7 := Row.below hs0 hB7 (Row.lt hs0)
                replace bw := bw.trans (hB7.mono bw.size)
                clear hB7
                refine hK _ _ ⟨hs7, ?_⟩
                try simp only [Act.put, List.setIfInBounds_toArray, List.set_cons_zero, List.set_cons_succ]
                clear hK K
                refine wpAnyH_takeD (some 54) (i := 5) (v := ?_) rfl rfl (by kernel_rfl) (by kernel_rfl) (by kernel_rfl) (fun _ _ _ h => h) (.inl ⟨by kernel_rfl, ?_⟩) hs7 ?_
                rotate_left
                · intro w' hw'; have hr0 := Row.cell hw' 0; have hr1 := Row.cell hw' 1; simp only [List.getElem?_cons_zero, List.getElem?_cons_succ] at hr0 hr1; clear hw'; go_simp; try with_reducible rfl
                try simp only [Act.put, List.setIfInBounds_toArray, List.set_cons_zero, List.set_cons_succ]
                refine wpAnyH_all (rs := [6]) (by kernel_rfl) (by simp) ?_
                intro i hi; simp only [List.mem_singleton] at hi; subst hi
                refine wpOp_step rfl (fun K hK => ?_)
                have b7 := B6.out.trans (bw.mono B6.out.size)
                have r7 := R6.out.below bw R6.out.lt
                have c0 := r7.cell 0; have c1 := r7.cell 1; have f0 := r7.frozen 0; have f1 := r7.frozen 1
                simp only [List.getElem?_cons_zero, List.getElem?_cons_succ] at c0 c1
                have b8 := (b7.setCell (p := ⟨w.heap.size, 0, none⟩) (Nat.le_refl _) (.int .i8 (k : Int))).setCell (p := ⟨w.heap.size, 1, none⟩) (Nat.le_refl _) (.int .i64 n)
                have r8 := (r7.set 0 (.int .i8 (k : Int))).set 1 (.int .i64 n)
                have d0 := r8.cell 0; have d1 := r8.cell 1
                simp only [List.set_cons_zero, List.set_cons_succ, List.getElem?_cons_zero, List.getElem?_cons_succ] at d0 d1
                have hs9 := (Row.other hs7 (a := ⟨w.heap.size, 0, none⟩) HNE.out (.int .i8 (k : Int)))
                have hsA := (Row.other hs9 (a := ⟨w.heap.size, 1, none⟩) HNE.out (.int .i64 n))
                go_simp
                refine hK _ _ ⟨hsA, ?_⟩
                try simp only [Act.put, List.setIfInBounds_toArray, List.set_cons_zero, List.set_cons_succ]
                clear hK K c0 c1
                refine wpAnyH_takeD (some 3) (i := 7) (v := ?_) rfl rfl (by kernel_rfl) (by kernel_rfl) (by kernel_rfl) (fun _ _ _ h => h) (.inl ⟨by kernel_rfl, ?_⟩) hsA ?_
                rotate_left
                · intro w' hw'; have hr0 := Row.cell hw' 0; have hr1 := Row.cell hw' 1; simp only [List.getElem?_cons_zero, List.getElem?_cons_succ] at hr0 hr1; clear hw'; go_simp; try with_reducible rfl
                try simp only [Act.put, List.setIfInBounds_toArray, List.set_cons_zero, List.set_cons_succ]
                refine wpAnyH_done (by kernel_rfl) ?_ _
                go_wp2_with fail
                exact bodyPost_ret (v := .tuple #[.agg #[.int .i8 (k : Int), .int .i64 n], .bool false]) (by simp [results, Tryz.results10, go_sem, d0, d1]) rfl ⟨(k : Int), n, false, rfl, (fun h => by cases h), fun _ => HR.out, b8⟩
            | false =>
              have HR := hid (show acWd l = none from by rw [HAC.out, HS2.out rfl])
              have ca0 := RA6.out.cell 0
              refine wp_region_held (S := fun W : World => Row W A 32 [.int .i8 (k : Int), .int .i64 n]) (by kernel_rfl) ?_
              change wpAnyH _ _ _ _ _ _ _ _ (World.drew _)
              have hs0 : (fun W : World => Row W A 32 [.int .i8 (k : Int), .int .i64 n]) (World.drew V6) := RA6.out
              have bw : Below V6.heap.size V6 (World.drew V6) := (Below.refl _ _).drew
              obtain ⟨Z, hZ⟩ : ∃ X, X = World.drew V6 := ⟨_, rfl⟩
              rw [← hZ] at hs0 bw ⊢
              clear hZ
              refine wpAnyH_takeD (some 49) (i := 0) (v := ?_) rfl rfl (by kernel_rfl) (by kernel_rfl) (by kernel_rfl) (fun _ _ _ h => h) (.inl ⟨by kernel_rfl, ?_⟩) hs0 ?_
              rotate_left
              · intro w' hw'; have hr0 := Row.cell hw' 0; have hr1 := Row.cell hw' 1; simp only [List.getElem?_cons_zero, List.getElem?_cons_succ] at hr0 hr1; clear hw'; go_simp; try with_reducible rfl
              try simp only [Act.put, List.setIfInBounds_toArray, List.set_cons_zero, List.set_cons_succ]
              refine wpAnyH_takeD (some 50) (i := 1) (v := ?_) rfl rfl (by kernel_rfl) (by kernel_rfl) (by kernel_rfl) (fun _ _ _ h => h) (.inl ⟨by kernel_rfl, ?_⟩) hs0 ?_
              rotate_left
              · intro w' hw'; have hr0 := Row.cell hw' 0; have hr1 := Row.cell hw' 1; simp only [List.getElem?_cons_zero, List.getElem?_cons_succ] at hr0 hr1; clear hw'; go_simp; try with_reducible rfl
              try simp only [Act.put, List.setIfInBounds_toArray, List.set_cons_zero, List.set_cons_succ]
              refine wpAnyH_takeD (some 51) (i := 2) (v := ?_) rfl rfl (by kernel_rfl) (by kernel_rfl) (by kernel_rfl) (fun _ _ _ h => h) (.inl ⟨by kernel_rfl, ?_⟩) hs0 ?_
              rotate_left
              · intro w' hw'; have hr0 := Row.cell hw' 0; have hr1 := Row.cell hw' 1; simp only [List.getElem?_cons_zero, List.getElem?_cons_succ] at hr0 hr1; clear hw'; go_simp; try with_reducible rfl
              try simp only [Act.put, List.setIfInBounds_toArray, List.set_cons_zero, List.set_cons_succ]
              refine wpAnyH_takeD (some 52) (i := 3) (v := undef) rfl rfl (by kernel_rfl) (by kernel_rfl) (by kernel_rfl) (fun _ _ _ h => h) (.inr ⟨by kernel_rfl, rfl⟩) hs0 ?_
              try simp only [Act.put, List.setIfInBounds_toArray, List.set_cons_zero, List.set_cons_succ]
              refine wpAnyH_takeD (some 53) (i := 4) (v := undef) rfl rfl (by kernel_rfl) (by kernel_rfl) (by kernel_rfl) (fun _ _ _ h => h) (.inr ⟨by kernel_rfl, rfl⟩) hs0 ?_
              try simp only [Act.put, List.setIfInBounds_toArray, List.set_cons_zero, List.set_cons_succ]
              refine wpAnyH_takeD (some 54) (i := 5) (v := ?_) rfl rfl (by kernel_rfl) (by kernel_rfl) (by kernel_rfl) (fun _ _ _ h => h) (.inl ⟨by kernel_rfl, ?_⟩) hs0 ?_
              rotate_left
              · intro w' hw'; have hr0 := Row.cell hw' 0; have hr1 := Row.cell hw' 1; simp only [List.getElem?_cons_zero, List.getElem?_cons_succ] at hr0 hr1; clear hw'; go_simp; try with_reducible rfl
              try simp only [Act.put, List.setIfInBounds_toArray, List.set_cons_zero, List.set_cons_succ]
              refine wpAnyH_all (rs := [6]) (by kernel_rfl) (by simp) ?_
              intro i hi; simp only [List.mem_singleton] at hi; subst hi
              refine wpOp_step rfl (fun K hK => ?_)
              have b7 := B6.out.trans (bw.mono B6.out.size)
              have r7 := R6.out.below bw R6.out.lt
              have c0 := r7.cell 0; have c1 := r7.cell 1; have f0 := r7.frozen 0; have f1 := r7.frozen 1
              simp only [List.getElem?_cons_zero, List.getElem?_cons_succ] at c0 c1
              have b8 := (b7.setCell (p := ⟨w.heap.size, 0, none⟩) (Nat.le_refl _) (.int .i8 (k : Int))).setCell (p := ⟨w.heap.size, 1, none⟩) (Nat.le_refl _) (.int .i64 n)
              have r8 := (r7.set 0 (.int .i8 (k : Int))).set 1 (.int .i64 n)
              have d0 := r8.cell 0; have d1 := r8.cell 1
              simp only [List.set_cons_zero, List.set_cons_succ, List.getElem?_cons_zero, List.getElem?_cons_succ] at d0 d1
              have hs9 := (Row.other hs0 (a := ⟨w.heap.size, 0, none⟩) HNE.out (.int .i8 (k : Int)))
              have hsA := (Row.other hs9 (a := ⟨w.heap.size, 1, none⟩) HNE.out (.int .i64 n))
              go_simp
              refine hK _ _ ⟨hsA, ?_⟩
              try simp only [Act.put, List.setIfInBounds_toArray, List.set_cons_zero, List.set_cons_succ]
              clear hK K c0 c1
              refine wpAnyH_takeD (some 3) (i := 7) (v := ?_) rfl rfl (by kernel_rfl) (by kernel_rfl) (by kernel_rfl) (fun _ _ _ h => h) (.inl ⟨by kernel_rfl, ?_⟩) hsA ?_
              rotate_left
              · intro w' hw'; have hr0 := Row.cell hw' 0; have hr1 := Row.cell hw' 1; simp only [List.getElem?_cons_zero, List.getElem?_cons_succ] at hr0 hr1; clear hw'; go_simp; try with_reducible rfl
              try simp only [Act.put, List.setIfInBounds_toArray, List.set_cons_zero, List.set_cons_succ]
              refine wpAnyH_done (by kernel_rfl) ?_ _
              go_wp2_with fail
              exact bodyPost_ret (v := .tuple #[.agg #[.int .i8 (k : Int), .int .i64 n], .bool false]) (by simp [results, Tryz.results10, go_sem, d0, d1]) rfl ⟨(k : Int), n, false, rfl, (fun h => by cases h), fun _ => HR.out, b8⟩
          · have e2 : ¬ (q : Int) = 2 := by omega
            have e1 : ((q : Int) != 2) = true := by simp; omega
            have HR := hid (acWd_two HX.out HK.out HXK.out h3 (by have := HQ.out; simp at this; omega))
            have ca0 := RA.out.cell 0; have ca1 := RA.out.cell 1
            have c0 := R4.out.cell 0; have c1 := R4.out.cell 1; have f0 := R4.out.frozen 0; have f1 := R4.out.frozen 1
            simp only [List.getElem?_cons_zero, List.getElem?_cons_succ] at ca0 ca1 c0 c1
            have b5 := (B4.out.setCell (p := ⟨w.heap.size, 0, none⟩) (Nat.le_refl _) (.int .i8 (k : Int))).setCell (p := ⟨w.heap.size, 1, none⟩) (Nat.le_refl _) (.int .i64 0)
            have r5 := (R4.out.set 0 (.int .i8 (k : Int))).set 1 (.int .i64 0)
            have d0 := r5.cell 0; have d1 := r5.cell 1
            simp only [List.set_cons_zero, List.set_cons_succ, List.getElem?_cons_zero, List.getElem?_cons_succ] at d0 d1
            have HB5 := hid b5
            clear b5 r5 hq2
            go_wp2_with fail
            exact bodyPost_ret (v := .tuple #[.agg #[.int .i8 (k : Int), .int .i64 0], .bool false]) (by simp [results, Tryz.results10, go_sem, d0, d1]) rfl ⟨(k : Int), 0, false, rfl, (fun h => by cases h), fun _ => HR.out, HB5.out⟩
      · have he : ((⟨x.toArray⟩ : ByteArray).toList == (⟨(wordA k).toArray⟩ : ByteArray).toList) = false := str_no hxk
        have he2 : ¬ (⟨x.toArray⟩ : ByteArray).toList = (⟨(wordA k).toArray⟩ : ByteArray).toList := by simpa using he
        have he3 : ((⟨x.toArray⟩ : ByteArray).toList != (⟨(wordA k).toArray⟩ : ByteArray).toList) = true := by rw [bne, he]; rfl
        have HNK := hid (show ∀ j : Nat, 1 ≤ j → j < k + 1 → x ≠ wordA j from fun j h1 h2 => by
          by_cases e : j = k
          · subst e; exact hxk
          · exact HN.out j h1 (by omega))
        obtain ⟨X, hX⟩ : ∃ W, (⟨x.toArray⟩ : ByteArray) = W := ⟨_, rfl⟩
        obtain ⟨Wk, hWk⟩ : ∃ W, (⟨(wordA k).toArray⟩ : ByteArray) = W := ⟨_, rfl⟩
        rw [hX] at x0 he he2 he3
        rw [hWk] at y0 he he2 he3
        clear hno hxk hX hWk hB hwk
        go_upto_region 6 with fail
        go_quiet (fail)
        go_wp2_with fail
        go_roundw
        case rel => exact ⟨k + 1, by omega, by omega, by go_num, HNK.out, below_drewN HBB.out _⟩
        case measure => simp [intOf]; omega
    · obtain rfl : k = 6 := by omega
      have HR := hid (acWd_none HX.out (fun j hj e => by
        unfold isK at hj
        exact HN.out j.toNat (by omega) (by omega) (by rw [e]; congr 1; omega)))
      have c0 := R3.out.cell 0; have c1 := R3.out.cell 1; have f0 := R3.out.frozen 0; have f1 := R3.out.frozen 1
      simp only [List.getElem?_cons_zero, List.getElem?_cons_succ] at c0 c1
      have b5 := (B3.out.setCell (p := ⟨w.heap.size, 0, none⟩) (Nat.le_refl _) (.int .i8 0)).setCell (p := ⟨w.heap.size, 1, none⟩) (Nat.le_refl _) (.int .i64 0)
      have r5 := (R3.out.set 0 (.int .i8 0)).set 1 (.int .i64 0)
      have d0 := r5.cell 0; have d1 := r5.cell 1
      simp only [List.set_cons_zero, List.set_cons_succ, List.getElem?_cons_zero, List.getElem?_cons_succ] at d0 d1
      have HB5 := hid b5
      clear b5 r5 hno
      go_wp2_with fail
      exact bodyPost_ret (v := .tuple #[.agg #[.int .i8 0, .int .i64 0], .bool false]) (by simp [results, Tryz.results10, go_sem, d0, d1]) rfl ⟨0, 0, false, rfl, (fun h => by cases h), fun _ => HR.out, HB5.out⟩
end Go.Proofs.YtoenefhobjpfdaaGreatDoor
