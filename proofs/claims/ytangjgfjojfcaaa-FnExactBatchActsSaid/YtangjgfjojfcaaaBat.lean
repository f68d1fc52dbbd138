/- BatchActs: the program's and the model's answers. -/
import Derived.Test.YtangjgfjojfcaaaOwnA
import Derived.Test.YtangjgfjojfcaaaDevV
import Derived.Deep.RegionHeld3
import Derived.Laws.OwnMore
namespace Go.Proofs.Ytangjgfjojfcaaa
open Go.RowKit
set_option linter.unusedVariables false
theorem Try.infoAct : (Try.prog.info? 40).map (fun i => (i.zero, i.size, i.bytes)) = some (some (.agg #[.int .i8 0, .int .i64 0]), 2, 16) := by kernel_rfl
/-- the acts of k batches -/
def batL (s : Int) : Nat → List (Int × Int)
  | 0 => [(4, 0)]
  | k + 1 => batL s k ++ [(3, s), (1, s), (5, 0), (4, 0)]
theorem batL_len (s : Int) : ∀ k, (batL s k).length = 1 + 4 * k
  | 0 => rfl
  | k + 1 => by rw [batL, List.length_append, batL_len s k]; simp; omega
theorem batL_zero (s : Int) : avals (batL s 0) = [.int .i8 4, .int .i64 0] := by
  rw [show batL s 0 = [] ++ [(4, 0)] from rfl, avals_snoc]
  rfl
theorem batL_vals (s : Int) (k : Nat) : avals (batL s (k + 1)) = avals (batL s k) ++ [.int .i8 3, .int .i64 s, .int .i8 1, .int .i64 s, .int .i8 5, .int .i64 0, .int .i8 4, .int .i64 0] := by
  rw [batL, show batL s k ++ [(3, s), (1, s), (5, 0), (4, 0)] = (((batL s k ++ [(3, s)]) ++ [(1, s)]) ++ [(5, 0)]) ++ [(4, 0)] from by simp, avals_snoc, avals_snoc, avals_snoc, avals_snoc]
  simp
/-- acts that count batches, with a code -/
def batR (zs ds : List Int) (pr : Int) (st : Bool) (tk s m : Int) : List (Int × Int) × Int :=
  if okDev zs ds pr st tk then (if (1 ≤ s ∧ s < szL zs) ∧ (0 ≤ m ∧ m ≤ 60) then (if 1 + 4 * m ≤ 60 then (batL s m.toNat, 0) else ([], 3)) else ([], 2)) else ([], 1)
theorem batR_no {zs ds : List Int} {pr : Int} {st : Bool} {tk s m : Int} (h : okDev zs ds pr st tk = false) : batR zs ds pr st tk s m = ([], 1) := by simp [batR, h]
theorem batR_range {zs ds : List Int} {pr : Int} {st : Bool} {tk s m : Int} (h : okDev zs ds pr st tk = true) (k : ¬ ((1 ≤ s ∧ s < szL zs) ∧ (0 ≤ m ∧ m ≤ 60))) : batR zs ds pr st tk s m = ([], 2) := by rw [batR, if_pos h, if_neg k]
theorem batR_limit {zs ds : List Int} {pr : Int} {st : Bool} {tk s m : Int} (h : okDev zs ds pr st tk = true) (k : (1 ≤ s ∧ s < szL zs) ∧ (0 ≤ m ∧ m ≤ 60)) (l : ¬ 1 + 4 * m ≤ 60) : batR zs ds pr st tk s m = ([], 3) := by rw [batR, if_pos h, if_pos k, if_neg l]
theorem batR_yes {zs ds : List Int} {pr : Int} {st : Bool} {tk s : Int} {n : Nat} (h : okDev zs ds pr st tk = true) (k : (1 ≤ s ∧ s < szL zs) ∧ (0 ≤ (n : Int) ∧ (n : Int) ≤ 60)) (l : 1 + 4 * (n : Int) ≤ 60) : batR zs ds pr st tk s n = (batL s n, 0) := by rw [batR, if_pos h, if_pos k, if_pos l]; rfl
/-- acts that a call has made, with a code -/
def ActR (w : World) (R : List (Int × Int) × Int) (e : Ending) (w' : World) : Prop :=
  ∃ v, e = .returned (.tuple #[v, .int .i64 R.2]) ∧ OwnA w' w.heap.size v R.1 ∧ Below w.heap.size w w'
set_option maxRecDepth 100000 in
set_option maxHeartbeats 8000000 in
theorem implBatchActs_any (B n cap : Nat) (zs : List Int) (d0 d1 d2 d3 d4 d5 d6 d7 : Int) (pr : Int) (st : Bool) (tk : Int) (s m : Int) (w : World) (hS : Stk w B zs) (hn : n = zs.length) (ho : Oct d0 d1 d2 d3 d4 d5 d6 d7) (hs64 : I64 s) (hm64 : I64 m) :
    Calls Try.prog 37 #[.agg #[.slice (some ⟨B, 0, none⟩) n cap, .int .u8 d0, .int .u8 d1, .int .u8 d2, .int .u8 d3, .int .u8 d4, .int .u8 d5, .int .u8 d6, .int .u8 d7, .int .i64 pr, .bool st, .int .i64 tk], .int .i64 s, .int .i64 m] w (ActR w (batR zs [d0, d1, d2, d3, d4, d5, d6, d7] pr st tk s m)) := by
  obtain ⟨i0, hi, iz0, iz1, iz2⟩ := info_parts Try.infoAct
  obtain ⟨W, hW⟩ : ∃ W, W = (w.alloc (.cells #[.slice (some ⟨B, 0, none⟩) n cap, .int .u8 d0, .int .u8 d1, .int .u8 d2, .int .u8 d3, .int .u8 d4, .int .u8 d5, .int .u8 d6, .int .u8 d7, .int .i64 pr, .bool st, .int .i64 tk] 31)) := ⟨_, rfl⟩
  have bel : Below w.heap.size w W := by rw [hW]; exact boxD_bel _ _ _
  have r0 : Row W w.heap.size 31 [.slice (some ⟨B, 0, none⟩) n cap, .int .u8 d0, .int .u8 d1, .int .u8 d2, .int .u8 d3, .int .u8 d4, .int .u8 d5, .int .u8 d6, .int .u8 d7, .int .i64 pr, .bool st, .int .i64 tk] := by rw [hW]; exact Row.new _ _ _
  have hK := hS.below bel hS.1
  have HV := hid (implValidDevice_any B n cap zs d0 d1 d2 d3 d4 d5 d6 d7 pr st tk W hK hn ho)
  have RC := hid (fun (v : World) (hB : Below W.heap.size W v) => (heldDev r0 hB).2)
  have HP := hid (fun h0 h (v : World) (hB : Below W.heap.size W v) => hasValue_yes B n cap zs s v (hK.below hB hK.1) hn h0 h)
  have HX := hid (fun h0 h (v : World) (hB : Below W.heap.size W v) => hasValue_no B n cap zs s v (hK.below hB hK.1) hn h0 h)
  have BE := hid bel
  have HW := hid hW
  have c0 := r0.cell 0; have c1 := r0.cell 1; have c2 := r0.cell 2; have c3 := r0.cell 3; have c4 := r0.cell 4; have c5 := r0.cell 5; have c6 := r0.cell 6; have c7 := r0.cell 7; have c8 := r0.cell 8; have c9 := r0.cell 9; have c10 := r0.cell 10; have c11 := r0.cell 11
  simp only [List.getElem?_cons_zero, List.getElem?_cons_succ] at c0 c1 c2 c3 c4 c5 c6 c7 c8 c9 c10 c11
  cases hv : okDev zs [d0, d1, d2, d3, d4, d5, d6, d7] pr st tk with
  | false =>
    rw [batR_no hv]
    rw [hv] at HV
    clear hv hS hn ho bel hW r0 hK
    go_enter Try.func37, Try.ntmps37
    go_wp2_with fail
    rw [← HW.out]
    refine HV.out.mono ?_
    rintro e w1 ⟨rfl, hB1⟩
    have hz1 := hB1.size
    go_wp2_with fail
    go_ret2
    exact ⟨_, rfl, OwnA.nil _ _ _ _, BE.out.trans (hB1.mono BE.out.size)⟩
  | true =>
    obtain ⟨v1, _, _, _⟩ := okDev_out hv
    have hzz := (okV_out v1).1
    rw [hv] at HV
    have HP := hid (HP.out hzz)
    have HX := hid (HX.out hzz)
    clear c0 c1 c2 c3 c4 c5 c6 c7 c8 c9 c10 c11
    by_cases q1 : s < 1
    · rw [batR_range hv (by omega)]
      have e1 : decide (s < 1) = true := decide_eq_true q1
      clear hv hS hn ho bel hW r0 hK v1 hzz q1 HP HX
      go_enter Try.func37, Try.ntmps37
      go_wp2_with fail
      rw [← HW.out]
      refine HV.out.mono ?_
      rintro e w1 ⟨rfl, hB1⟩
      have hz1 := hB1.size
      obtain ⟨c0, c1, c2, c3, c4, c5, c6, c7, c8, c9, c10, c11⟩ := RC.out _ hB1
      go_wp2_with fail
      go_ret2
      exact ⟨_, rfl, OwnA.nil _ _ _ _, BE.out.trans (hB1.mono BE.out.size)⟩
    have e1 : decide (s < 1) = false := decide_eq_false q1
    by_cases q2 : s < szL zs
    · have HP := hid (HP.out ⟨by omega, q2⟩)
      by_cases q3 : m < 0
      · rw [batR_range hv (by omega)]
        have e2 : decide (m < 0) = true := decide_eq_true q3
        clear hv hS hn ho bel hW r0 hK v1 hzz q1 q2 q3 HX
        go_enter Try.func37, Try.ntmps37
        go_wp2_with fail
        rw [← HW.out]
        refine HV.out.mono ?_
        rintro e w1 ⟨rfl, hB1⟩
        have hz1 := hB1.size
        obtain ⟨c0, c1, c2, c3, c4, c5, c6, c7, c8, c9, c10, c11⟩ := RC.out _ hB1
        go_wp2_with fail
        refine (HP.out _ hB1).mono ?_
        rintro e w2 ⟨rfl, hB2⟩
        go_wp2_with fail
        go_ret2
        exact ⟨_, rfl, OwnA.nil _ _ _ _, BE.out.trans ((hB1.trans (hB2.mono hz1)).mono BE.out.size)⟩
      have e2 : decide (m < 0) = false := decide_eq_false q3
      by_cases q4 : 60 < m
      · rw [batR_range hv (by omega)]
        have e3 : decide (60 < m) = true := decide_eq_true q4
        clear hv hS hn ho bel hW r0 hK v1 hzz q1 q2 q3 q4 HX
        go_enter Try.func37, Try.ntmps37
        go_wp2_with fail
        rw [← HW.out]
        refine HV.out.mono ?_
        rintro e w1 ⟨rfl, hB1⟩
        have hz1 := hB1.size
        obtain ⟨c0, c1, c2, c3, c4, c5, c6, c7, c8, c9, c10, c11⟩ := RC.out _ hB1
        go_wp2_with fail
        refine (HP.out _ hB1).mono ?_
        rintro e w2 ⟨rfl, hB2⟩
        go_wp2_with fail
        go_ret2
        exact ⟨_, rfl, OwnA.nil _ _ _ _, BE.out.trans ((hB1.trans (hB2.mono hz1)).mono BE.out.size)⟩
      have e3 : decide (60 < m) = false := decide_eq_false q4
      obtain ⟨m, rfl⟩ := Int.eq_ofNat_of_zero_le (show 0 ≤ m by omega)
      have hm60 : m ≤ 60 := by omega
      have HR1 := hid (fun h => batR_limit (m := (m : Int)) hv ⟨⟨by omega, q2⟩, by omega, by omega⟩ h)
      have HR2 := hid (fun h => batR_yes (n := m) hv ⟨⟨by omega, q2⟩, by omega, by omega⟩ h)
      obtain ⟨R, hR⟩ : ∃ R, batR zs [d0, d1, d2, d3, d4, d5, d6, d7] pr st tk s (m : Int) = R := ⟨_, rfl⟩
      rw [hR] at HR1 HR2 ⊢
      clear hv hS hn ho bel hW r0 hK v1 hzz q1 q2 q3 q4 HX hR hs64 hm64
      go_enter Try.func37, Try.ntmps37
      go_wp2_with fail
      rw [← HW.out]
      refine HV.out.mono ?_
      rintro e w1 ⟨rfl, hB1⟩
      have hz1 := hB1.size
      obtain ⟨c0, c1, c2, c3, c4, c5, c6, c7, c8, c9, c10, c11⟩ := RC.out _ hB1
      go_wp2_with fail
      refine (HP.out _ hB1).mono ?_
      rintro e w2 ⟨rfl, hB2⟩
      have B2 := BE.out.trans ((hB1.trans (hB2.mono hz1)).mono BE.out.size)
      have o2 := World.ownsRow_lit (base := w.heap.size) (e := 40) (size := 2) w2 #[.int .i8 4, .int .i64 0] 1 B2.size (by unfold maxLen; omega) rfl
      have b2 := B2.alloc B2.size (.cells #[.int .i8 4, .int .i64 0] 40)
      have O2 := hid o2
      have BB2 := hid b2
      clear o2 b2 hB1 hB2 B2 c0 c1 c2 c3 c4 c5 c6 c7 c8 c9 c10 c11 e1 e2 e3
      go_wp2_with fail
      go_loopw [8, 32] (fun v i wr => ∃ k : Nat, k ≤ m ∧ i = .int .i64 k ∧ wr.ownsRow w.heap.size 40 2 v (1 + 4 * k) (avals (batL s k)) ∧ Below w.heap.size w wr) (fun _ i _ => m - (intOf i).toNat)
      case atStart => exact ⟨0, Nat.zero_le _, rfl, by rw [batL_zero]; exact O2.out, BB2.out⟩
      case round =>
        obtain ⟨k, hk, rfl, hown, hB⟩ := hrel
        have hzr := hB.size
        by_cases hlt : k < m
        · have hlt' : (k : Int) < (m : Int) := by omega
          have HS := hid (batL_vals s k)
          have HB1 := hid (hB.alloc hzr (.cells #[.int .i8 3, .int .i64 s, .int .i8 1, .int .i64 s, .int .i8 5, .int .i64 0, .int .i8 4, .int .i64 0] 40))
          have HO1 := hid (hown.alloc (.cells #[.int .i8 3, .int .i64 s, .int .i8 1, .int .i64 s, .int .i8 5, .int .i64 0, .int .i8 4, .int .i64 0] 40))
          have news := Row.new wr 40 [.int .i8 3, .int .i64 s, .int .i8 1, .int .i64 s, .int .i8 5, .int .i64 0, .int .i8 4, .int .i64 0]
          have n0 := news.cell 0; have n1 := news.cell 1; have n2 := news.cell 2; have n3 := news.cell 3; have n4 := news.cell 4; have n5 := news.cell 5; have n6 := news.cell 6; have n7 := news.cell 7
          simp only [List.getElem?_cons_zero, List.getElem?_cons_succ] at n0 n1 n2 n3 n4 n5 n6 n7
          clear news hown hB
          go_upto_region 9 with (at_builtin; refine wpList_append_own _ rfl _ _ 65 rfl w.heap.size 40 i0 (.agg #[.int .i8 0, .int .i64 0]) 2 16 Try.underlying65 hi iz0 iz1 iz2 rfl (by decide) _ _ _ rfl HO1.out ⟨wr.heap.size, 0, none⟩ 4 4 [.int .i8 3, .int .i64 s, .int .i8 1, .int .i64 s, .int .i8 5, .int .i64 0, .int .i8 4, .int .i64 0] rfl rfl (by intro j u hj; match j, hj with | 0, hj => simp at hj; subst hj; simp [Addr.add, n0] | 1, hj => simp at hj; subst hj; simp [Addr.add, n1] | 2, hj => simp at hj; subst hj; simp [Addr.add, n2] | 3, hj => simp at hj; subst hj; simp [Addr.add, n3] | 4, hj => simp at hj; subst hj; simp [Addr.add, n4] | 5, hj => simp at hj; subst hj; simp [Addr.add, n5] | 6, hj => simp at hj; subst hj; simp [Addr.add, n6] | 7, hj => simp at hj; subst hj; simp [Addr.add, n7]) (by intro u hu; simp only [List.mem_cons, List.not_mem_nil, or_false] at hu; rcases hu with rfl | rfl | rfl | rfl | rfl | rfl | rfl | rfl <;> rfl) (by unfold maxLen; omega) (by omega) (by simp; omega) ?_; intro v' w2 hown' hgrow _)
          have hg2 : (wr.alloc (.cells #[.int .i8 3, .int .i64 s, .int .i8 1, .int .i64 s, .int .i8 5, .int .i64 0, .int .i8 4, .int .i64 0] 40)).grownBy w2 _ := hgrow
          have HB2 := hid (HB1.out.grown hg2 (by simp; omega) (fun k e => by have := (HO1.out.lt k e).1; omega))
          have hown2 := hid (show w2.ownsRow w.heap.size 40 2 v' (1 + 4 * (k + 1)) (avals (batL s (k + 1))) by rw [HS.out]; exact hown')
          clear hown' hgrow hg2 n0 n1 n2 n3 n4 n5 n6 n7 HO1 HB1
          go_wp2_with fail
          go_roundw
          case rel => exact ⟨k + 1, by omega, by go_num, hown2.out, HB2.out⟩
          case measure => simp [intOf]; omega
        · obtain rfl : k = m := by omega
          obtain ⟨a, cp, hav, hal, hrow⟩ := OwnA.of_owns hown (by rw [batL_len]; omega)
          rw [batL_len] at hav
          subst hav
          by_cases h60 : 1 + 4 * k ≤ 60
          · have E1 := HR2.out (by omega)
            have h61 : ¬ (60 : Int) < ((1 + 4 * k : Nat) : Int) := by omega
            have h62 : decide (60 < 1 + 4 * k) = false := decide_eq_false (by omega)
            have h63 : ¬ 60 < 1 + 4 * k := by omega
            subst E1
            have HO := hid (OwnA.of_owns hown (by rw [batL_len]; omega))
            clear hown hrow
            go_wp2_with fail
            go_ret2
            exact ⟨_, rfl, HO.out, hB⟩
          · have E1 := HR1.out (by omega)
            have h61 : (60 : Int) < ((1 + 4 * k : Nat) : Int) := by omega
            have h62 : decide (60 < 1 + 4 * k) = true := decide_eq_true (by omega)
            have h63 : 60 < 1 + 4 * k := by omega
            subst E1
            clear hown hrow
            go_wp2_with fail
            go_ret2
            exact ⟨_, rfl, OwnA.nil _ _ _ _, hB⟩
    · have HX := hid (HX.out (by omega))
      rw [batR_range hv (by omega)]
      clear hv hS hn ho bel hW r0 hK v1 hzz q1 q2 HP
      go_enter Try.func37, Try.ntmps37
      go_wp2_with fail
      rw [← HW.out]
      refine HV.out.mono ?_
      rintro e w1 ⟨rfl, hB1⟩
      have hz1 := hB1.size
      obtain ⟨c0, c1, c2, c3, c4, c5, c6, c7, c8, c9, c10, c11⟩ := RC.out _ hB1
      go_wp2_with fail
      refine (HX.out _ hB1).mono ?_
      rintro e w2 ⟨rfl, hB2⟩
      go_wp2_with fail
      go_ret2
      exact ⟨_, rfl, OwnA.nil _ _ _ _, BE.out.trans ((hB1.trans (hB2.mono hz1)).mono BE.out.size)⟩
set_option maxRecDepth 100000 in
set_option maxHeartbeats 8000000 in
theorem specBatchActs_any (B n cap : Nat) (zs : List Int) (d0 d1 d2 d3 d4 d5 d6 d7 : Int) (pr : Int) (st : Bool) (tk : Int) (s m : Int) (w : World) (hS : Stk w B zs) (hn : n = zs.length) (ho : Oct d0 d1 d2 d3 d4 d5 d6 d7) (hs64 : I64 s) (hm64 : I64 m) :
    Calls Try.prog 36 #[.agg #[.slice (some ⟨B, 0, none⟩) n cap, .int .u8 d0, .int .u8 d1, .int .u8 d2, .int .u8 d3, .int .u8 d4, .int .u8 d5, .int .u8 d6, .int .u8 d7, .int .i64 pr, .bool st, .int .i64 tk], .int .i64 s, .int .i64 m] w (ActR w (batR zs [d0, d1, d2, d3, d4, d5, d6, d7] pr st tk s m)) := by
  obtain ⟨i0, hi, iz0, iz1, iz2⟩ := info_parts Try.infoAct
  obtain ⟨W, hW⟩ : ∃ W, W = (w.alloc (.cells #[.slice (some ⟨B, 0, none⟩) n cap, .int .u8 d0, .int .u8 d1, .int .u8 d2, .int .u8 d3, .int .u8 d4, .int .u8 d5, .int .u8 d6, .int .u8 d7, .int .i64 pr, .bool st, .int .i64 tk] 31)) := ⟨_, rfl⟩
  have bel : Below w.heap.size w W := by rw [hW]; exact boxD_bel _ _ _
  have r0 : Row W w.heap.size 31 [.slice (some ⟨B, 0, none⟩) n cap, .int .u8 d0, .int .u8 d1, .int .u8 d2, .int .u8 d3, .int .u8 d4, .int .u8 d5, .int .u8 d6, .int .u8 d7, .int .i64 pr, .bool st, .int .i64 tk] := by rw [hW]; exact Row.new _ _ _
  have hK := hS.below bel hS.1
  have HV := hid (l07Ok_any w.heap.size B n cap zs d0 d1 d2 d3 d4 d5 d6 d7 pr st tk W hK hn ho r0)
  have RC := hid (fun (v : World) (hB : Below W.heap.size W v) => (heldDev r0 hB).2)
  have HZ := hid (fun hv (v : World) (hB : Below W.heap.size W v) => l01Size_dev B n cap zs hn hv v (hK.below hB hK.1))
  have BE := hid bel
  have HW := hid hW
  cases hv : okDev zs [d0, d1, d2, d3, d4, d5, d6, d7] pr st tk with
  | false =>
    rw [batR_no hv]
    rw [hv] at HV
    clear hv hS hn ho bel hW r0 hK
    go_enter Try.func36, Try.ntmps36
    go_wp2_with fail
    rw [← HW.out]
    refine HV.out.mono ?_
    rintro e w1 ⟨rfl, hB1⟩
    have hz1 := hB1.size
    go_wp2_with fail
    go_ret2
    exact ⟨_, rfl, OwnA.nil _ _ _ _, (BE.out.trans (hB1.mono BE.out.size)).alloc (by first | omega | (have := BE.out.size; omega)) _⟩
  | true =>
    obtain ⟨v1, _, _, _⟩ := okDev_out hv
    have hzz := (okV_out v1).1
    rw [hv] at HV
    have HZ := hid (HZ.out hzz)
    obtain ⟨_, _, _, z1, z2⟩ := okL_out hzz
    have tz : IntKind.i64.wrap (szL zs - 1) = szL zs - 1 := IntWalk.i64_in _ (by omega)
    by_cases q2 : 1 ≤ s ∧ s ≤ szL zs - 1
    · have H1 := hid (fun w => inr_yes s 1 (szL zs - 1) w q2)
      by_cases q3 : 0 ≤ m ∧ m ≤ 60
      · have H2 := hid (fun w => inr_yes m 0 60 w q3)
        obtain ⟨m, rfl⟩ := Int.eq_ofNat_of_zero_le q3.1
        have hm60 : m ≤ 60 := by omega
        by_cases h60 : 1 + 4 * m ≤ 60
        · rw [batR_yes hv ⟨⟨by omega, by omega⟩, by omega, by omega⟩ (by omega)]
          have e4 : decide ((60 : Int) < 1 + 4 * (m : Int)) = false := decide_eq_false (by omega)
          have e5 : ¬ (60 : Int) < 1 + 4 * (m : Int) := by omega
          have t4 : IntKind.i64.wrap (4 * (m : Int)) = 4 * (m : Int) := IntWalk.i64_in _ (by omega)
          have t5 : IntKind.i64.wrap (1 + 4 * (m : Int)) = 1 + 4 * (m : Int) := IntWalk.i64_in _ (by omega)
          obtain ⟨z, hz⟩ : ∃ z, szL zs = z := ⟨_, rfl⟩
          rw [hz] at HZ H1 tz
          clear hv hS hn ho bel hW r0 hK v1 hzz q2 q3 hs64 hm64 z1 z2 hz
          go_enter Try.func36, Try.ntmps36
          go_wp2_with fail
          rw [← HW.out]
          refine HV.out.mono ?_
          rintro e w1 ⟨rfl, hB1⟩
          have hz1 := hB1.size
          obtain ⟨c0, c1, c2, c3, c4, c5, c6, c7, c8, c9, c10, c11⟩ := RC.out _ hB1
          go_wp2_with fail
          refine (HZ.out _ hB1).mono ?_
          rintro e w2 ⟨rfl, rfl⟩
          go_wp2_with fail
          refine (H1.out _).mono ?_
          rintro e w2 ⟨rfl, rfl⟩
          go_wp2_with fail
          refine (H2.out _).mono ?_
          rintro e w2 ⟨rfl, rfl⟩
          have B2 := BE.out.trans (hB1.mono BE.out.size)
          have O2 := hid (World.ownsRow_lit (base := w.heap.size) (e := 40) (size := 2) w1 #[.int .i8 4, .int .i64 0] 1 B2.size (by unfold maxLen; omega) rfl)
          have BB2 := hid (B2.alloc B2.size (.cells #[.int .i8 4, .int .i64 0] 40))
          clear hB1 B2 c0 c1 c2 c3 c4 c5 c6 c7 c8 c9 c10 c11
          go_wp2_with fail
          go_loopw [8, 9] (fun v i wr => ∃ k : Nat, k ≤ m ∧ i = .int .i64 k ∧ wr.ownsRow w.heap.size 40 2 v (1 + 4 * k) (avals (batL s k)) ∧ Below w.heap.size w wr) (fun _ i _ => m - (intOf i).toNat)
          case atStart => exact ⟨0, Nat.zero_le _, rfl, by rw [batL_zero]; exact O2.out, BB2.out⟩
          case round =>
            obtain ⟨k, hk, rfl, hown, hB⟩ := hrel
            have hzr := hB.size
            by_cases hlt : k < m
            · have hlt' : (k : Int) < (m : Int) := by omega
              have HS := hid (batL_vals s k)
              have HB1 := hid (hB.alloc hzr (.cells #[.int .i8 3, .int .i64 s, .int .i8 1, .int .i64 s, .int .i8 5, .int .i64 0, .int .i8 4, .int .i64 0] 40))
              have HO1 := hid (hown.alloc (.cells #[.int .i8 3, .int .i64 s, .int .i8 1, .int .i64 s, .int .i8 5, .int .i64 0, .int .i8 4, .int .i64 0] 40))
              have news := Row.new wr 40 [.int .i8 3, .int .i64 s, .int .i8 1, .int .i64 s, .int .i8 5, .int .i64 0, .int .i8 4, .int .i64 0]
              have n0 := news.cell 0; have n1 := news.cell 1; have n2 := news.cell 2; have n3 := news.cell 3; have n4 := news.cell 4; have n5 := news.cell 5; have n6 := news.cell 6; have n7 := news.cell 7
              simp only [List.getElem?_cons_zero, List.getElem?_cons_succ] at n0 n1 n2 n3 n4 n5 n6 n7
              clear news hown hB
              go_upto_region 10 with (at_builtin; refine wpList_append_own _ rfl _ _ 65 rfl w.heap.size 40 i0 (.agg #[.int .i8 0, .int .i64 0]) 2 16 Try.underlying65 hi iz0 iz1 iz2 rfl (by decide) _ _ _ rfl HO1.out ⟨wr.heap.size, 0, none⟩ 4 4 [.int .i8 3, .int .i64 s, .int .i8 1, .int .i64 s, .int .i8 5, .int .i64 0, .int .i8 4, .int .i64 0] rfl rfl (by intro j u hj; match j, hj with | 0, hj => simp at hj; subst hj; simp [Addr.add, n0] | 1, hj => simp at hj; subst hj; simp [Addr.add, n1] | 2, hj => simp at hj; subst hj; simp [Addr.add, n2] | 3, hj => simp at hj; subst hj; simp [Addr.add, n3] | 4, hj => simp at hj; subst hj; simp [Addr.add, n4] | 5, hj => simp at hj; subst hj; simp [Addr.add, n5] | 6, hj => simp at hj; subst hj; simp [Addr.add, n6] | 7, hj => simp at hj; subst hj; simp [Addr.add, n7]) (by intro u hu; simp only [List.mem_cons, List.not_mem_nil, or_false] at hu; rcases hu with rfl | rfl | rfl | rfl | rfl | rfl | rfl | rfl <;> rfl) (by unfold maxLen; omega) (by omega) (by simp; omega) ?_; intro v' w2 hown' hgrow _)
              have hg2 : (wr.alloc (.cells #[.int .i8 3, .int .i64 s, .int .i8 1, .int .i64 s, .int .i8 5, .int .i64 0, .int .i8 4, .int .i64 0] 40)).grownBy w2 _ := hgrow
              have HB2 := hid (HB1.out.grown hg2 (by simp; omega) (fun k e => by have := (HO1.out.lt k e).1; omega))
              have hown2 := hid (show w2.ownsRow w.heap.size 40 2 v' (1 + 4 * (k + 1)) (avals (batL s (k + 1))) by rw [HS.out]; exact hown')
              clear hown' hgrow hg2 n0 n1 n2 n3 n4 n5 n6 n7 HO1 HB1
              go_wp2_with fail
              go_roundw
              case rel => exact ⟨k + 1, by omega, by go_num, hown2.out, HB2.out⟩
              case measure => simp [intOf]; omega
            · obtain rfl : k = m := by omega
              obtain ⟨a, cp, hav, hal, hrow⟩ := OwnA.of_owns hown (by rw [batL_len]; omega)
              rw [batL_len] at hav
              subst hav
              have HO := hid (OwnA.of_owns hown (by rw [batL_len]; omega))
              clear hown hrow
              go_wp2_with fail
              go_ret2
              exact ⟨_, rfl, HO.out, hB⟩
        · rw [batR_limit hv ⟨⟨by omega, by omega⟩, by omega, by omega⟩ (by omega)]
          have e4 : decide ((60 : Int) < 1 + 4 * (m : Int)) = true := decide_eq_true (by omega)
          have e5 : (60 : Int) < 1 + 4 * (m : Int) := by omega
          have t4 : IntKind.i64.wrap (4 * (m : Int)) = 4 * (m : Int) := IntWalk.i64_in _ (by omega)
          have t5 : IntKind.i64.wrap (1 + 4 * (m : Int)) = 1 + 4 * (m : Int) := IntWalk.i64_in _ (by omega)
          obtain ⟨z, hz⟩ : ∃ z, szL zs = z := ⟨_, rfl⟩
          rw [hz] at HZ H1 tz
          clear hv hS hn ho bel hW r0 hK v1 hzz q2 q3 hs64 hm64 z1 z2 hz
          go_enter Try.func36, Try.ntmps36
          go_wp2_with fail
          rw [← HW.out]
          refine HV.out.mono ?_
          rintro e w1 ⟨rfl, hB1⟩
          have hz1 := hB1.size
          obtain ⟨c0, c1, c2, c3, c4, c5, c6, c7, c8, c9, c10, c11⟩ := RC.out _ hB1
          go_wp2_with fail
          refine (HZ.out _ hB1).mono ?_
          rintro e w2 ⟨rfl, rfl⟩
          go_wp2_with fail
          refine (H1.out _).mono ?_
          rintro e w2 ⟨rfl, rfl⟩
          go_wp2_with fail
          refine (H2.out _).mono ?_
          rintro e w2 ⟨rfl, rfl⟩
          go_wp2_with fail
          go_ret2
          exact ⟨_, rfl, OwnA.nil _ _ _ _, (BE.out.trans (hB1.mono BE.out.size)).alloc (by first | omega | (have := BE.out.size; omega)) _⟩
      · have H2 := hid (fun w => inr_no m 0 60 w (by omega))
        rw [batR_range hv (by omega)]
        obtain ⟨z, hz⟩ : ∃ z, szL zs = z := ⟨_, rfl⟩
        rw [hz] at HZ H1 tz
        clear hv hS hn ho bel hW r0 hK v1 hzz q2 q3 hs64 hm64 z1 z2 hz
        go_enter Try.func36, Try.ntmps36
        go_wp2_with fail
        rw [← HW.out]
        refine HV.out.mono ?_
        rintro e w1 ⟨rfl, hB1⟩
        have hz1 := hB1.size
        obtain ⟨c0, c1, c2, c3, c4, c5, c6, c7, c8, c9, c10, c11⟩ := RC.out _ hB1
        go_wp2_with fail
        refine (HZ.out _ hB1).mono ?_
        rintro e w2 ⟨rfl, rfl⟩
        go_wp2_with fail
        refine (H1.out _).mono ?_
        rintro e w2 ⟨rfl, rfl⟩
        go_wp2_with fail
        refine (H2.out _).mono ?_
        rintro e w2 ⟨rfl, rfl⟩
        go_wp2_with fail
        go_ret2
        exact ⟨_, rfl, OwnA.nil _ _ _ _, (BE.out.trans (hB1.mono BE.out.size)).alloc (by first | omega | (have := BE.out.size; omega)) _⟩
    · have H1 := hid (fun w => inr_no s 1 (szL zs - 1) w (by omega))
      rw [batR_range hv (by omega)]
      obtain ⟨z, hz⟩ : ∃ z, szL zs = z := ⟨_, rfl⟩
      rw [hz] at HZ H1 tz
      clear hv hS hn ho bel hW r0 hK v1 hzz q2 hs64 hm64 z1 z2 hz
      go_enter Try.func36, Try.ntmps36
      go_wp2_with fail
      rw [← HW.out]
      refine HV.out.mono ?_
      rintro e w1 ⟨rfl, hB1⟩
      have hz1 := hB1.size
      obtain ⟨c0, c1, c2, c3, c4, c5, c6, c7, c8, c9, c10, c11⟩ := RC.out _ hB1
      go_wp2_with fail
      refine (HZ.out _ hB1).mono ?_
      rintro e w2 ⟨rfl, rfl⟩
      go_wp2_with fail
      refine (H1.out _).mono ?_
      rintro e w2 ⟨rfl, rfl⟩
      go_wp2_with fail
      go_ret2
      exact ⟨_, rfl, OwnA.nil _ _ _ _, (BE.out.trans (hB1.mono BE.out.size)).alloc (by first | omega | (have := BE.out.size; omega)) _⟩
end Go.Proofs.Ytangjgfjojfcaaa
