/- WithDigit: the program's and the model's. -/
import Derived.Test.YtgfdfnlbkljgeaaJoinI
import Derived.Test.YtgfdfnlbkljgeaaHasD
import Derived.Deep.DeepCutAuto
namespace Go.Proofs.Ytgfdfnlbkljgeaa
open Go.RowKit
theorem xor_or (x v : Int) : bits .xor .u64 (bits .or .u64 x v) v = bits .andNot .u64 x v := by
  apply ofInt_inj (bits_bd _ _ _) (bits_bd _ _ _)
  rw [bv_xor, bv_or, bv_andNot]
  apply BitVec.eq_of_getLsbD_eq
  intro i hi
  simp [hi]
  cases (BitVec.ofInt 64 x)[i] <;> cases (BitVec.ofInt 64 v)[i] <;> rfl
/-- a photo with other marks on one wheel -/
def setW (ps : List (Int × Int)) (k : Nat) (m : Int × Int) : List (Int × Int) := (List.range 8).map fun j => if j = k then m else (pa ps j, pb ps j)
theorem setW_cell (ps : List (Int × Int)) (k : Nat) (m : Int × Int) (hk : k < 8) : ((phL ps).set (k * 2) (.int .u64 m.1)).set (k * 2 + 1) (.int .u64 m.2) = phL (setW ps k m) := by
  apply List.ext_getElem?
  intro i
  simp only [phL, List.getElem?_set, List.getElem?_map, List.length_map, List.length_range, List.length_set]
  by_cases hi : i < 16
  · have hw : ∀ j, j < 8 → pa (setW ps k m) j = (if j = k then m.1 else pa ps j) ∧ pb (setW ps k m) j = (if j = k then m.2 else pb ps j) := by
      intro j hj
      by_cases e : j = k
      · subst e; simp [setW, pa, pb, hj]
      · simp [setW, pa, pb, hj, e]
    have h8 : i / 2 < 8 := by omega
    simp only [List.getElem?_range hi, Option.map_some]
    by_cases h1 : k * 2 + 1 = i
    · subst h1
      have e1 : (k * 2 + 1) % 2 = 1 := by omega
      have e2 : (k * 2 + 1) / 2 = k := by omega
      rw [if_pos rfl, if_pos hi]
      simp only [phc, e1, e2, Nat.one_ne_zero, if_false]
      rw [(hw k hk).2, if_pos rfl]
    · rw [if_neg h1]
      by_cases h2 : k * 2 = i
      · subst h2
        have e1 : (k * 2) % 2 = 0 := by omega
        have e2 : (k * 2) / 2 = k := by omega
        rw [if_pos rfl, if_pos hi]
        simp only [phc, e1, e2, if_true]
        rw [(hw k hk).1, if_pos rfl]
      · rw [if_neg h2]
        have hne : i / 2 ≠ k := by omega
        unfold phc
        rw [(hw _ h8).1, (hw _ h8).2, if_neg hne, if_neg hne]
  · rw [if_neg (by omega), if_neg (by omega)]
    have : (List.range 16)[i]? = none := List.getElem?_eq_none (by simp; omega)
    simp [this]
theorem setW_ph {ps : List (Int × Int)} {k : Nat} {m : Int × Int} (hp : Ph ps) (hm : (0 ≤ m.1 ∧ m.1 ≤ 18446744073709551615) ∧ (0 ≤ m.2 ∧ m.2 ≤ 18446744073709551615)) : Ph (setW ps k m) := fun j => by
  by_cases hj : j < 8
  · by_cases e : j = k
    · subst e; simpa [setW, pa, pb, hj] using hm
    · have := hp j
      simpa [setW, pa, pb, hj, e] using this
  · have : (setW ps k m)[j]? = none := List.getElem?_eq_none (by simp [setW]; omega)
    simp [pa, pb, this]
def newM (x y d : Int) (may : Bool) : Int × Int := if may then putM x y d else clrM x y d
theorem newM_bd (x y d : Int) (may : Bool) (hx : 0 ≤ x ∧ x ≤ 18446744073709551615) (hy : 0 ≤ y ∧ y ≤ 18446744073709551615) : (0 ≤ (newM x y d may).1 ∧ (newM x y d may).1 ≤ 18446744073709551615) ∧ (0 ≤ (newM x y d may).2 ∧ (newM x y d may).2 ≤ 18446744073709551615) := by
  cases may with
  | true =>
    show (0 ≤ (putM x y d).1 ∧ (putM x y d).1 ≤ 18446744073709551615) ∧ (0 ≤ (putM x y d).2 ∧ (putM x y d).2 ≤ 18446744073709551615)
    by_cases h : d < 64
    · simp only [putM, h, if_true]
      exact ⟨bits_bd _ _ _, hy⟩
    · simp only [putM, h, if_false]
      exact ⟨hx, bits_bd _ _ _⟩
  | false =>
    show (0 ≤ (clrM x y d).1 ∧ (clrM x y d).1 ≤ 18446744073709551615) ∧ (0 ≤ (clrM x y d).2 ∧ (clrM x y d).2 ≤ 18446744073709551615)
    by_cases h : d < 64
    · simp only [clrM, h, if_true]
      exact ⟨bits_bd _ _ _, hy⟩
    · simp only [clrM, h, if_false]
      exact ⟨hx, bits_bd _ _ _⟩
instance (zs : List Int) (k x : Int) : Decidable (hdB zs k x) := by unfold hdB; exact inferInstance
def withR (zs : List Int) (ps : List (Int × Int)) (wh d : Int) (may : Bool) : List (Int × Int) × Int :=
  if okPh zs ps then (if hdB zs wh d then (if okPh zs (setW ps wh.toNat (newM (pa ps wh.toNat) (pb ps wh.toNat) d may)) then (setW ps wh.toNat (newM (pa ps wh.toNat) (pb ps wh.toNat) d may), 0) else ([], 4)) else ([], 2)) else ([], 1)
theorem withR_no1 {zs : List Int} {ps : List (Int × Int)} {wh d : Int} {may : Bool} (h : okPh zs ps = false) : withR zs ps wh d may = ([], 1) := by simp [withR, h]
theorem withR_no2 {zs : List Int} {ps : List (Int × Int)} {wh d : Int} {may : Bool} (h : okPh zs ps = true) (k : ¬ hdB zs wh d) : withR zs ps wh d may = ([], 2) := by simp [withR, h, k]
theorem withR_no4 {zs : List Int} {ps : List (Int × Int)} {k : Nat} {d : Int} {may : Bool} (h : okPh zs ps = true) (h2 : hdB zs k d) (h3 : okPh zs (setW ps k (newM (pa ps k) (pb ps k) d may)) = false) : withR zs ps k d may = ([], 4) := by simp [withR, h, h2, h3]
theorem withR_yes {zs : List Int} {ps : List (Int × Int)} {k : Nat} {d : Int} {may : Bool} (h : okPh zs ps = true) (h2 : hdB zs k d) (h3 : okPh zs (setW ps k (newM (pa ps k) (pb ps k) d may)) = true) : withR zs ps k d may = (setW ps k (newM (pa ps k) (pb ps k) d may), 0) := by simp [withR, h, h2, h3]
set_option maxRecDepth 100000 in
set_option maxHeartbeats 2000000 in
theorem implWithDigit_any (b n cap : Nat) (zs : List Int) (ps : List (Int × Int)) (wh d : Int) (may : Bool) (w : World) (h : Stk w b zs) (hn : n = zs.length) (hps : Ph ps) (hwf : -9223372036854775808 ≤ d ∧ d ≤ 9223372036854775807) :
    Calls Try.prog 27 #[.slice (some ⟨b, 0, none⟩) n cap, .agg (phL ps).toArray, .int .i64 wh, .int .i64 d, .bool may] w fun e w' => e = .returned (.tuple #[.agg (phL (withR zs ps wh d may).1).toArray, .int .i64 (withR zs ps wh d may).2]) ∧ Below w.heap.size w w' := by
  have r6 := (Row.new w 31 (phL ps)).alloc (.cells #[.int .u64 0, .int .u64 0, .int .u64 0, .int .u64 0, .int .u64 0, .int .u64 0, .int .u64 0, .int .u64 0, .int .u64 0, .int .u64 0, .int .u64 0, .int .u64 0, .int .u64 0, .int .u64 0, .int .u64 0, .int .u64 0] 31)
  have r10 := (Row.new (w.alloc (.cells (phL ps).toArray 31)) 31 [.int .u64 0, .int .u64 0, .int .u64 0, .int .u64 0, .int .u64 0, .int .u64 0, .int .u64 0, .int .u64 0, .int .u64 0, .int .u64 0, .int .u64 0, .int .u64 0, .int .u64 0, .int .u64 0, .int .u64 0, .int .u64 0]).zeros
  have hB : Below w.heap.size w ((w.alloc (.cells (phL ps).toArray 31)).alloc (.cells #[.int .u64 0, .int .u64 0, .int .u64 0, .int .u64 0, .int .u64 0, .int .u64 0, .int .u64 0, .int .u64 0, .int .u64 0, .int .u64 0, .int .u64 0, .int .u64 0, .int .u64 0, .int .u64 0, .int .u64 0, .int .u64 0] 31)) := ((Below.refl _ _).alloc (Nat.le_refl _) _).alloc (by simp) _
  simp only [World.size_alloc] at r10
  have hS := h.below hB h.1
  have hlB := h.1
  have hi := Try.infoPhoto
  have HN := hid hn
  have HVp := hid (fun (W : World) (hS : Stk W b zs) => implValidPhoto_any b n cap zs ps W hS hn hps)
  have hl20 : n ≤ 1048576 := by rw [hn]; exact h.2.2.2
  have HPS := hid hps
  have HWF := hid hwf
  clear h
  cases hp : okPh zs ps with
  | false =>
    rw [hp] at HVp
    rw [withR_no1 hp]
    clear hp hn hps hwf
    go_enter Try.func27, Try.ntmps27
    have HR6 := hid r6
    go_wp2_with ((with_reducible refine wpList_load_row rfl 31 _ rfl w.heap.size ?_ 31 (phL ps).toArray (0, 0) _ ?_ Try.underlying31 ?_ ?_ ?_); rfl; exact HR6.out; rfl; (rw [sz16]; exact hi))
    clear HR6
    with_reducible refine (HVp.out _ hS).mono ?_
    rintro e W1 ⟨rfl, hC⟩
    replace r6 := r6.below hC r6.lt
    replace r10 := r10.below hC r10.lt
    replace hS := hS.below hC hS.1
    replace hB := hB.trans (hC.mono hB.size)
    clear hC
    have R1 := hid (r10.setCells (ys := phL []) rfl)
    have T1 := r10.there 16 rfl
    have SB := hid (below_setCells (phL []) 0 _ hB (g := w.heap.size + 1) (by omega))
    clear r6 r10 hS hB
    go_wp2_with ((with_reducible refine wpList_store_mid rfl 31 _ _ rfl (w.heap.size + 1) 0 (phL []).toArray ?_ ?_ ?_ ?_ (all_oneCell_toArray (phL_one _)) ?_); rfl; rfl; (rw [sz16]; exact T1); (rw [sz16]; exact hi))
    exact bodyPost_ret (v := .tuple #[.agg (phL []).toArray, .int .i64 1]) (results_cell_slot (p := 10) (q := 11) (fn := Try.f27) rfl _ _ _ _ _ (0, 0) _ _ rfl rfl R1.out Try.underlying31 rfl (by rw [sz16]; exact hi)) rfl ⟨rfl, SB.out⟩
  | true =>
    rw [hp] at HVp
    have HOK := hid hp
    have HV := hid (okPh_ok hp)
    by_cases hd : hdB zs wh d
    · have hd' := hd
      obtain ⟨⟨hw0, hw1⟩, hd0, hd1⟩ := hd'
      obtain ⟨k, rfl⟩ := Int.eq_ofNat_of_zero_le hw0
      rw [Int.toNat_natCast] at hd1
      have hkz : k < zs.length := by omega
      have hkn : k < n := by omega
      have hzb := (okL_in HV.out).2 k hkz
      have hn8 : n ≤ 8 := by have := (okL_in HV.out).1; omega
      have HD := hid hd
      have hd127 : d ≤ 127 := by omega
      have hk8 : k < 8 := by omega
      have HDZ := hid (And.intro hd0 hd1)
      have HZB := hid hzb
      have HKZ := hid hkz
      clear hp hn hps hwf hd hw0 hw1 hd1 hkz hzb
      go_enter Try.func27, Try.ntmps27
      have HR6 := hid r6
      go_wp2_with ((with_reducible refine wpList_load_row rfl 31 _ rfl w.heap.size ?_ 31 (phL ps).toArray (0, 0) _ ?_ Try.underlying31 ?_ ?_ ?_); rfl; exact HR6.out; rfl; (rw [sz16]; exact hi))
      clear HR6
      with_reducible refine (HVp.out _ hS).mono ?_
      rintro e W1 ⟨rfl, hC⟩
      replace r6 := r6.below hC r6.lt
      replace r10 := r10.below hC r10.lt
      replace hS := hS.below hC hS.1
      replace hB := hB.trans (hC.mono hB.size)
      clear hC
      go_wp2_with fail
      with_reducible refine (hasDigit_yes b n cap zs k d W1 hS HN.out hkn HDZ.out).mono ?_
      rintro e W2 ⟨rfl, rfl⟩
      cases may with
      | true =>
        have HM := hid (fun w => with_put (pa ps k) (pb ps k) d w ⟨HDZ.out.1, hd127⟩)
        have rz := (Row.new W1 31 [.int .u64 0, .int .u64 0, .int .u64 0, .int .u64 0, .int .u64 0, .int .u64 0, .int .u64 0, .int .u64 0, .int .u64 0, .int .u64 0, .int .u64 0, .int .u64 0, .int .u64 0, .int .u64 0, .int .u64 0, .int .u64 0]).zeros
        have hA : Below W1.heap.size W1 (W1.alloc (.cells #[.int .u64 0, .int .u64 0, .int .u64 0, .int .u64 0, .int .u64 0, .int .u64 0, .int .u64 0, .int .u64 0, .int .u64 0, .int .u64 0, .int .u64 0, .int .u64 0, .int .u64 0, .int .u64 0, .int .u64 0, .int .u64 0] 31)) := (Below.refl _ _).alloc (Nat.le_refl _) _
        have hA2 := below_setCells (phL ps) 0 _ hA (g := W1.heap.size) (Nat.le_refl _)
        have T1 := rz.there 16 rfl
        have l6 := r6.lt
        have l10 := r10.lt
        have HRZ := hid (rz.setCells (ys := phL ps) rfl)
        have HR6 := hid r6
        have HR6' := hid (r6.below hA2 r6.lt)
        have HR10 := hid (r10.below hA2 r10.lt)
        have HS := hid (hS.below hA2 hS.1)
        have HB := hid (hB.trans (hA2.mono hB.size))
        obtain ⟨q1, q2⟩ := phL_at ps k hk8
        have c1 := (HR6'.out.cell (k * 2)).trans q1
        have c2 := (HR6'.out.cell (k * 2 + 1)).trans q2
        have hk0 : (k : Int) < 8 := by omega
        clear rz hA hA2 r6 r10 hS hB q1 q2
        go_upto_region 6 with (first | ((with_reducible refine wpList_store_mid rfl 31 _ _ rfl W1.heap.size 0 (phL ps).toArray ?_ ?_ ?_ ?_ (all_oneCell_toArray (phL_one _)) ?_); rfl; rfl; (rw [sz16]; exact T1); (rw [sz16]; exact hi)) | ((with_reducible refine wpList_load_row rfl 31 _ rfl w.heap.size ?_ 31 (phL ps).toArray (0, 0) _ ?_ Try.underlying31 ?_ ?_ ?_); rfl; exact HR6.out; rfl; (rw [sz16]; exact hi)))
        clear T1
        have HWX := hid HRZ.out.lt
        obtain ⟨WX, hWX⟩ : ∃ X, X = (W1.alloc (.cells #[.int .u64 0, .int .u64 0, .int .u64 0, .int .u64 0, .int .u64 0, .int .u64 0, .int .u64 0, .int .u64 0, .int .u64 0, .int .u64 0, .int .u64 0, .int .u64 0, .int .u64 0, .int .u64 0, .int .u64 0, .int .u64 0] 31)).setCells W1.heap.size 0 (phL ps) := ⟨_, rfl⟩
        rw [← hWX] at HRZ HR6' HR10 HS HB HWX c1 c2 ⊢
        obtain ⟨g, hg⟩ : ∃ g, g = W1.heap.size := ⟨_, rfl⟩
        rw [← hg] at HRZ ⊢
        have hg6 : w.heap.size + 1 < g := by omega
        clear hWX hg HR6
        go_wp2_with fail
        with_reducible refine (HM.out _).mono ?_
        rintro e W3 ⟨rfl, hC⟩
        have r8 := HRZ.out.below hC HRZ.out.lt
        have r10 := HR10.out.below hC HR10.out.lt
        have hS := HS.out.below hC HS.out.1
        have hB := HB.out.trans (hC.mono HB.out.size)
        clear hC HRZ HR6' HR10 HS HB c1 c2 HWX
        obtain ⟨q1, q2⟩ := phL_at ps k hk8
        have o1 := (r8.cell (k * 2)).trans q1
        have o2 := (r8.cell (k * 2 + 1)).trans q2
        have f1 := r8.frozen (k * 2)
        have f2 := r8.frozen (k * 2 + 1)
        have hX : Below g W3 ((W3.setCell ⟨g, k * 2, none⟩ (.int .u64 (putM (pa ps k) (pb ps k) d).1)).setCell ⟨g, k * 2 + 1, none⟩ (.int .u64 (putM (pa ps k) (pb ps k) d).2)) := ((Below.refl _ _).setCell (p := ⟨g, k * 2, none⟩) (Nat.le_refl _) _).setCell (p := ⟨g, k * 2 + 1, none⟩) (Nat.le_refl _) _
        have R8 := (r8.set (k * 2) (.int .u64 (putM (pa ps k) (pb ps k) d).1)).set (k * 2 + 1) (.int .u64 (putM (pa ps k) (pb ps k) d).2)
        rw [show ((phL ps).set (k * 2) (.int .u64 (putM (pa ps k) (pb ps k) d).1)).set (k * 2 + 1) (.int .u64 (putM (pa ps k) (pb ps k) d).2) = (phL (setW ps k (newM (pa ps k) (pb ps k) d true))) from setW_cell ps k (putM (pa ps k) (pb ps k) d) hk8] at R8
        have HR8 := hid R8
        have HR10 := hid (r10.below hX (by omega))
        have HS := hid (hS.below hX (by omega))
        have HB := hid (hB.trans (hX.mono (by omega)))
        clear r8 r10 hS hB hX q1 q2 R8
        go_upto_region 7 with fail
        clear o1 o2 f1 f2
        have HVm := hid (fun (W : World) (hS : Stk W b zs) => implValidPhoto_any b n cap zs (setW ps k (newM (pa ps k) (pb ps k) d true)) W hS HN.out (setW_ph HPS.out (newM_bd _ _ _ _ (HPS.out k).1 (HPS.out k).2)))
        obtain ⟨WY, hWY⟩ : ∃ X, X = (W3.setCell ⟨g, k * 2, none⟩ (.int .u64 (putM (pa ps k) (pb ps k) d).1)).setCell ⟨g, k * 2 + 1, none⟩ (.int .u64 (putM (pa ps k) (pb ps k) d).2) := ⟨_, rfl⟩
        rw [← hWY] at HR8 HR10 HS HB ⊢
        clear hWY
        go_wp2_with ((with_reducible refine wpList_load_row rfl 31 _ rfl g ?_ 31 (phL (setW ps k (newM (pa ps k) (pb ps k) d true))).toArray (0, 0) _ ?_ Try.underlying31 ?_ ?_ ?_); rfl; exact HR8.out; rfl; (rw [sz16]; exact hi))
        cases hm : okPh zs (setW ps k (newM (pa ps k) (pb ps k) d true)) with
        | false =>
          rw [hm] at HVm
          have HMT := hid (withR_no4 HOK.out HD.out hm)
          clear hm
          with_reducible refine (HVm.out _ HS.out).mono ?_
          rintro e W4 ⟨rfl, hC⟩
          have r10 := HR10.out.below hC HR10.out.lt
          have hB := HB.out.trans (hC.mono HB.out.size)
          have R1 := hid (r10.setCells (ys := phL []) rfl)
          have T1 := r10.there 16 rfl
          have SB := hid (below_setCells (phL []) 0 _ hB (g := w.heap.size + 1) (by omega))
          clear r10 hB hC
          go_wp2_with ((with_reducible refine wpList_store_mid rfl 31 _ _ rfl (w.heap.size + 1) 0 (phL []).toArray ?_ ?_ ?_ ?_ (all_oneCell_toArray (phL_one _)) ?_); rfl; rfl; (rw [sz16]; exact T1); (rw [sz16]; exact hi))
          exact bodyPost_ret (v := .tuple #[.agg (phL []).toArray, .int .i64 4]) (results_cell_slot (p := 10) (q := 11) (fn := Try.f27) rfl _ _ _ _ _ (0, 0) _ _ rfl rfl R1.out Try.underlying31 rfl (by rw [sz16]; exact hi)) rfl ⟨by rw [HMT.out], SB.out⟩
        | true =>
          rw [hm] at HVm
          have HMT := hid (withR_yes HOK.out HD.out hm)
          clear hm
          with_reducible refine (HVm.out _ HS.out).mono ?_
          rintro e W4 ⟨rfl, hC⟩
          have r10 := HR10.out.below hC HR10.out.lt
          have HR8' := hid (HR8.out.below hC HR8.out.lt)
          have hB := HB.out.trans (hC.mono HB.out.size)
          have R1 := hid (r10.setCells (ys := (phL (setW ps k (newM (pa ps k) (pb ps k) d true)))) rfl)
          have T1 := r10.there 16 rfl
          have SB := hid (below_setCells (phL (setW ps k (newM (pa ps k) (pb ps k) d true))) 0 _ hB (g := w.heap.size + 1) (by omega))
          clear r10 hB hC
          go_wp2_with (first | ((with_reducible refine wpList_store_mid rfl 31 _ _ rfl (w.heap.size + 1) 0 (phL (setW ps k (newM (pa ps k) (pb ps k) d true))).toArray ?_ ?_ ?_ ?_ (all_oneCell_toArray (phL_one _)) ?_); rfl; rfl; (rw [sz16]; exact T1); (rw [sz16]; exact hi)) | ((with_reducible refine wpList_load_row rfl 31 _ rfl g ?_ 31 (phL (setW ps k (newM (pa ps k) (pb ps k) d true))).toArray (0, 0) _ ?_ Try.underlying31 ?_ ?_ ?_); rfl; exact HR8'.out; rfl; (rw [sz16]; exact hi)))
          exact bodyPost_ret (v := .tuple #[.agg (phL ((setW ps k (newM (pa ps k) (pb ps k) d true)))).toArray, .int .i64 0]) (results_cell_slot (p := 10) (q := 11) (fn := Try.f27) rfl _ _ _ _ _ (0, 0) _ _ rfl rfl R1.out Try.underlying31 rfl (by rw [sz16]; exact hi)) rfl ⟨by rw [HMT.out], SB.out⟩
      | false =>
        have HM := hid (fun w => with_clr (pa ps k) (pb ps k) d w ⟨HDZ.out.1, hd127⟩)
        have rz := (Row.new W1 31 [.int .u64 0, .int .u64 0, .int .u64 0, .int .u64 0, .int .u64 0, .int .u64 0, .int .u64 0, .int .u64 0, .int .u64 0, .int .u64 0, .int .u64 0, .int .u64 0, .int .u64 0, .int .u64 0, .int .u64 0, .int .u64 0]).zeros
        have hA : Below W1.heap.size W1 (W1.alloc (.cells #[.int .u64 0, .int .u64 0, .int .u64 0, .int .u64 0, .int .u64 0, .int .u64 0, .int .u64 0, .int .u64 0, .int .u64 0, .int .u64 0, .int .u64 0, .int .u64 0, .int .u64 0, .int .u64 0, .int .u64 0, .int .u64 0] 31)) := (Below.refl _ _).alloc (Nat.le_refl _) _
        have hA2 := below_setCells (phL ps) 0 _ hA (g := W1.heap.size) (Nat.le_refl _)
        have T1 := rz.there 16 rfl
        have l6 := r6.lt
        have l10 := r10.lt
        have HRZ := hid (rz.setCells (ys := phL ps) rfl)
        have HR6 := hid r6
        have HR6' := hid (r6.below hA2 r6.lt)
        have HR10 := hid (r10.below hA2 r10.lt)
        have HS := hid (hS.below hA2 hS.1)
        have HB := hid (hB.trans (hA2.mono hB.size))
        obtain ⟨q1, q2⟩ := phL_at ps k hk8
        have c1 := (HR6'.out.cell (k * 2)).trans q1
        have c2 := (HR6'.out.cell (k * 2 + 1)).trans q2
        have hk0 : (k : Int) < 8 := by omega
        clear rz hA hA2 r6 r10 hS hB q1 q2
        go_upto_region 6 with (first | ((with_reducible refine wpList_store_mid rfl 31 _ _ rfl W1.heap.size 0 (phL ps).toArray ?_ ?_ ?_ ?_ (all_oneCell_toArray (phL_one _)) ?_); rfl; rfl; (rw [sz16]; exact T1); (rw [sz16]; exact hi)) | ((with_reducible refine wpList_load_row rfl 31 _ rfl w.heap.size ?_ 31 (phL ps).toArray (0, 0) _ ?_ Try.underlying31 ?_ ?_ ?_); rfl; exact HR6.out; rfl; (rw [sz16]; exact hi)))
        clear T1
        have HWX := hid HRZ.out.lt
        obtain ⟨WX, hWX⟩ : ∃ X, X = (W1.alloc (.cells #[.int .u64 0, .int .u64 0, .int .u64 0, .int .u64 0, .int .u64 0, .int .u64 0, .int .u64 0, .int .u64 0, .int .u64 0, .int .u64 0, .int .u64 0, .int .u64 0, .int .u64 0, .int .u64 0, .int .u64 0, .int .u64 0] 31)).setCells W1.heap.size 0 (phL ps) := ⟨_, rfl⟩
        rw [← hWX] at HRZ HR6' HR10 HS HB HWX c1 c2 ⊢
        obtain ⟨g, hg⟩ : ∃ g, g = W1.heap.size := ⟨_, rfl⟩
        rw [← hg] at HRZ ⊢
        have hg6 : w.heap.size + 1 < g := by omega
        clear hWX hg HR6
        go_wp2_with fail
        with_reducible refine (HM.out _).mono ?_
        rintro e W3 ⟨rfl, hC⟩
        have r8 := HRZ.out.below hC HRZ.out.lt
        have r10 := HR10.out.below hC HR10.out.lt
        have hS := HS.out.below hC HS.out.1
        have hB := HB.out.trans (hC.mono HB.out.size)
        clear hC HRZ HR6' HR10 HS HB c1 c2 HWX
        obtain ⟨q1, q2⟩ := phL_at ps k hk8
        have o1 := (r8.cell (k * 2)).trans q1
        have o2 := (r8.cell (k * 2 + 1)).trans q2
        have f1 := r8.frozen (k * 2)
        have f2 := r8.frozen (k * 2 + 1)
        have hX : Below g W3 ((W3.setCell ⟨g, k * 2, none⟩ (.int .u64 (clrM (pa ps k) (pb ps k) d).1)).setCell ⟨g, k * 2 + 1, none⟩ (.int .u64 (clrM (pa ps k) (pb ps k) d).2)) := ((Below.refl _ _).setCell (p := ⟨g, k * 2, none⟩) (Nat.le_refl _) _).setCell (p := ⟨g, k * 2 + 1, none⟩) (Nat.le_refl _) _
        have R8 := (r8.set (k * 2) (.int .u64 (clrM (pa ps k) (pb ps k) d).1)).set (k * 2 + 1) (.int .u64 (clrM (pa ps k) (pb ps k) d).2)
        rw [show ((phL ps).set (k * 2) (.int .u64 (clrM (pa ps k) (pb ps k) d).1)).set (k * 2 + 1) (.int .u64 (clrM (pa ps k) (pb ps k) d).2) = (phL (setW ps k (newM (pa ps k) (pb ps k) d false))) from setW_cell ps k (clrM (pa ps k) (pb ps k) d) hk8] at R8
        have HR8 := hid R8
        have HR10 := hid (r10.below hX (by omega))
        have HS := hid (hS.below hX (by omega))
        have HB := hid (hB.trans (hX.mono (by omega)))
        clear r8 r10 hS hB hX q1 q2 R8
        go_upto_region 7 with fail
        clear o1 o2 f1 f2
        have HVm := hid (fun (W : World) (hS : Stk W b zs) => implValidPhoto_any b n cap zs (setW ps k (newM (pa ps k) (pb ps k) d false)) W hS HN.out (setW_ph HPS.out (newM_bd _ _ _ _ (HPS.out k).1 (HPS.out k).2)))
        obtain ⟨WY, hWY⟩ : ∃ X, X = (W3.setCell ⟨g, k * 2, none⟩ (.int .u64 (clrM (pa ps k) (pb ps k) d).1)).setCell ⟨g, k * 2 + 1, none⟩ (.int .u64 (clrM (pa ps k) (pb ps k) d).2) := ⟨_, rfl⟩
        rw [← hWY] at HR8 HR10 HS HB ⊢
        clear hWY
        go_wp2_with ((with_reducible refine wpList_load_row rfl 31 _ rfl g ?_ 31 (phL (setW ps k (newM (pa ps k) (pb ps k) d false))).toArray (0, 0) _ ?_ Try.underlying31 ?_ ?_ ?_); rfl; exact HR8.out; rfl; (rw [sz16]; exact hi))
        cases hm : okPh zs (setW ps k (newM (pa ps k) (pb ps k) d false)) with
        | false =>
          rw [hm] at HVm
          have HMT := hid (withR_no4 HOK.out HD.out hm)
          clear hm
          with_reducible refine (HVm.out _ HS.out).mono ?_
          rintro e W4 ⟨rfl, hC⟩
          have r10 := HR10.out.below hC HR10.out.lt
          have hB := HB.out.trans (hC.mono HB.out.size)
          have R1 := hid (r10.setCells (ys := phL []) rfl)
          have T1 := r10.there 16 rfl
          have SB := hid (below_setCells (phL []) 0 _ hB (g := w.heap.size + 1) (by omega))
          clear r10 hB hC
          go_wp2_with ((with_reducible refine wpList_store_mid rfl 31 _ _ rfl (w.heap.size + 1) 0 (phL []).toArray ?_ ?_ ?_ ?_ (all_oneCell_toArray (phL_one _)) ?_); rfl; rfl; (rw [sz16]; exact T1); (rw [sz16]; exact hi))
          exact bodyPost_ret (v := .tuple #[.agg (phL []).toArray, .int .i64 4]) (results_cell_slot (p := 10) (q := 11) (fn := Try.f27) rfl _ _ _ _ _ (0, 0) _ _ rfl rfl R1.out Try.underlying31 rfl (by rw [sz16]; exact hi)) rfl ⟨by rw [HMT.out], SB.out⟩
        | true =>
          rw [hm] at HVm
          have HMT := hid (withR_yes HOK.out HD.out hm)
          clear hm
          with_reducible refine (HVm.out _ HS.out).mono ?_
          rintro e W4 ⟨rfl, hC⟩
          have r10 := HR10.out.below hC HR10.out.lt
          have HR8' := hid (HR8.out.below hC HR8.out.lt)
          have hB := HB.out.trans (hC.mono HB.out.size)
          have R1 := hid (r10.setCells (ys := (phL (setW ps k (newM (pa ps k) (pb ps k) d false)))) rfl)
          have T1 := r10.there 16 rfl
          have SB := hid (below_setCells (phL (setW ps k (newM (pa ps k) (pb ps k) d false))) 0 _ hB (g := w.heap.size + 1) (by omega))
          clear r10 hB hC
          go_wp2_with (first | ((with_reducible refine wpList_store_mid rfl 31 _ _ rfl (w.heap.size + 1) 0 (phL (setW ps k (newM (pa ps k) (pb ps k) d false))).toArray ?_ ?_ ?_ ?_ (all_oneCell_toArray (phL_one _)) ?_); rfl; rfl; (rw [sz16]; exact T1); (rw [sz16]; exact hi)) | ((with_reducible refine wpList_load_row rfl 31 _ rfl g ?_ 31 (phL (setW ps k (newM (pa ps k) (pb ps k) d false))).toArray (0, 0) _ ?_ Try.underlying31 ?_ ?_ ?_); rfl; exact HR8'.out; rfl; (rw [sz16]; exact hi)))
          exact bodyPost_ret (v := .tuple #[.agg (phL ((setW ps k (newM (pa ps k) (pb ps k) d false)))).toArray, .int .i64 0]) (results_cell_slot (p := 10) (q := 11) (fn := Try.f27) rfl _ _ _ _ _ (0, 0) _ _ rfl rfl R1.out Try.underlying31 rfl (by rw [sz16]; exact hi)) rfl ⟨by rw [HMT.out], SB.out⟩
    · rw [withR_no2 hp hd]
      have HD := hid hd
      have hn' := hid hn
      clear hp hn hps hwf hd
      go_enter Try.func27, Try.ntmps27
      have HR6 := hid r6
      go_wp2_with ((with_reducible refine wpList_load_row rfl 31 _ rfl w.heap.size ?_ 31 (phL ps).toArray (0, 0) _ ?_ Try.underlying31 ?_ ?_ ?_); rfl; exact HR6.out; rfl; (rw [sz16]; exact hi))
      clear HR6
      with_reducible refine (HVp.out _ hS).mono ?_
      rintro e W1 ⟨rfl, hC⟩
      replace r6 := r6.below hC r6.lt
      replace r10 := r10.below hC r10.lt
      replace hS := hS.below hC hS.1
      replace hB := hB.trans (hC.mono hB.size)
      clear hC
      go_wp2_with fail
      with_reducible refine (hasDigit_no b n cap zs wh d W1 hS hn'.out HD.out).mono ?_
      rintro e W2 ⟨rfl, rfl⟩
      have R1 := hid (r10.setCells (ys := phL []) rfl)
      have T1 := r10.there 16 rfl
      have SB := hid (below_setCells (phL []) 0 _ hB (g := w.heap.size + 1) (by omega))
      clear r6 r10 hS hB
      go_wp2_with ((with_reducible refine wpList_store_mid rfl 31 _ _ rfl (w.heap.size + 1) 0 (phL []).toArray ?_ ?_ ?_ ?_ (all_oneCell_toArray (phL_one _)) ?_); rfl; rfl; (rw [sz16]; exact T1); (rw [sz16]; exact hi))
      exact bodyPost_ret (v := .tuple #[.agg (phL []).toArray, .int .i64 2]) (results_cell_slot (p := 10) (q := 11) (fn := Try.f27) rfl _ _ _ _ _ (0, 0) _ _ rfl rfl R1.out Try.underlying31 rfl (by rw [sz16]; exact hi)) rfl ⟨rfl, SB.out⟩
end Go.Proofs.Ytgfdfnlbkljgeaa
