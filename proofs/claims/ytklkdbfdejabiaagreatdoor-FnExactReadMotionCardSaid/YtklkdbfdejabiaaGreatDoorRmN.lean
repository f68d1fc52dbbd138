/- Motions whose joints may be nil. -/
import Derived.Test.YtklkdbfdejabiaaGreatDoorRmM
namespace Go.Proofs.YtklkdbfdejabiaaGreatDoor
open Go.RowKit Go.Shelf
set_option linter.unusedVariables false
set_option linter.unusedSimpArgs false
set_option maxHeartbeats 2000000 in
theorem implValidMotionN_any (aJ : Option Addr) (b n cap g m cap' : Nat) (zs : List Int) (js : List (Int × Int)) (w : World) (hS : Stk w b zs) (hJ : Jst w g js) (hn : n = zs.length) (hm : m = js.length) (hJ0 : m = 0 ∨ aJ = some ⟨g, 0, none⟩) :
    Calls Tryz.prog 33 #[.agg #[.slice (some ⟨b, 0, none⟩) n cap, .slice aJ m cap']] w fun e w' => e = .returned (.bool (okM zs js)) ∧ Below w.heap.size w w' := by
  have bel : Below w.heap.size w (w.alloc (.cells #[.slice (some ⟨b, 0, none⟩) n cap, .slice aJ m cap'] 26)) := (Below.refl _ w).alloc (Nat.le_refl _) _
  have HV := hid (validStack_any b n cap zs (w.alloc (.cells #[.slice (some ⟨b, 0, none⟩) n cap, .slice aJ m cap'] 26)) (hS.below bel hS.1) hn)
  have hln := hS.2.2.2
  have hlm := hJ.2.2
  rw [← hn] at hln
  rw [← hm] at hlm
  have hgl := hJ.1
  have HC := hid hJ.2.1
  have M := hid hm
  have HJ0 := hid hJ0
  clear hJ0
  have N := hid hn
  clear hS hJ
  cases hv : okL zs with
  | false =>
    rw [okM_stack hv]
    rw [hv] at HV
    clear hv hn hm
    go_enter Tryz.func33, Tryz.ntmps33
    go_wp2_with (go_at_call 29; refine HV.out.mono ?_; rintro e w' ⟨rfl, rfl⟩)
    go_ret
    exact ⟨rfl, bel⟩
  | true =>
    rw [hv] at HV
    have h1 := (okL_out hv).1
    rw [← hn] at h1
    by_cases hl : m + 1 = n
    · rw [okM_js hv (by omega)]
      have hne : ((m : Int) != (n : Int) - 1) = false := by simp; omega
      clear hv hn hm
      go_enter Tryz.func33, Tryz.ntmps33
      go_wp2_with (go_at_call 29; refine HV.out.mono ?_; rintro e w' ⟨rfl, rfl⟩)
      go_loopw [22] (fun i wr => ∃ k : Nat, k ≤ m ∧ i = .int .i64 k ∧ okJTo js k ∧ Below w.heap.size w wr) (fun i _ => m - (intOf i).toNat)
      case atStart => exact ⟨0, Nat.zero_le _, rfl, fun j hj => by omega, bel⟩
      case round =>
        obtain ⟨k, hk, rfl, hT, hB⟩ := hrel
        by_cases hlt : k < m
        · have hkm : k < js.length := by rw [← M.out]; exact hlt
          have eJ := HJ0.out.resolve_left (by omega)
          subst eJ
          have c0 := (hB.cell (p := ⟨g, k * 2, none⟩) hgl).trans (HC.out k hkm).1
          have c1 := (hB.cell (p := ⟨g, k * 2 + 1, none⟩) hgl).trans (HC.out k hkm).2
          have HS := hid (fun e => okJTo_succ hT e)
          have HA := hid (fun e => okJs_at (js := js) k hkm e)
          clear hT hkm
          obtain ⟨x, hx⟩ : ∃ x, x = jk js k := ⟨_, rfl⟩
          obtain ⟨y, hy⟩ : ∃ y, y = jf js k := ⟨_, rfl⟩
          rw [← hx] at c0
          rw [← hy] at c1
          rw [← hx, ← hy] at HS HA
          clear hx hy
          have hzw := hB.size
          have hB2 : Below w.heap.size w (wr.alloc (.cells #[.int .i8 x, .int .i16 y] 39)) := hB.alloc hzw _
          have HX := hid (jvalid_any x y (wr.alloc (.cells #[.int .i8 x, .int .i16 y] 39)))
          cases hj : okJ x y with
          | true =>
            rw [hj] at HX
            have HS' := hid (HS.out hj)
            clear hj HS HA
            go_wp2_with (go_at_call 49; refine HX.out.mono ?_; rintro e w3 ⟨rfl, hB3⟩)
            go_roundw
            case rel => exact ⟨k + 1, by omega, by go_num, HS'.out, hB2.trans (hB3.mono (by simp; omega))⟩
            case measure => simp [intOf]; omega
          | false =>
            rw [hj] at HX
            have HA' := hid (HA.out hj)
            clear hj HS HA
            go_wp2_with (go_at_call 49; refine HX.out.mono ?_; rintro e w3 ⟨rfl, hB3⟩)
            go_ret
            exact ⟨by rw [HA'.out]; rfl, hB2.trans (hB3.mono (by simp; omega))⟩
        · obtain rfl : k = m := by omega
          have HZ := hid (okJs_of (js := js) (by rw [← M.out]; exact hT))
          clear hT
          go_wp2_with fail
          go_ret
          exact ⟨by rw [HZ.out]; rfl, hB⟩
    · rw [okM_len (by omega)]
      have hne : ((m : Int) != (n : Int) - 1) = true := by rw [bne_iff_ne]; omega
      clear hv hn hm hl
      go_enter Tryz.func33, Tryz.ntmps33
      go_wp2_with (go_at_call 29; refine HV.out.mono ?_; rintro e w' ⟨rfl, rfl⟩)
      go_ret
      exact ⟨rfl, bel⟩

set_option maxHeartbeats 2000000 in
theorem l02OkN_any (aJ : Option Addr) (B b n cap g m cap' : Nat) (zs : List Int) (js : List (Int × Int)) (w : World) (hR : Row w B 26 [.slice (some ⟨b, 0, none⟩) n cap, .slice aJ m cap']) (hS : Stk w b zs) (hJ : Jst w g js) (hn : n = zs.length) (hm : m = js.length) (hJ0 : m = 0 ∨ aJ = some ⟨g, 0, none⟩) (hb : ∀ j, j < js.length → (-128 ≤ jk js j ∧ jk js j ≤ 127) ∧ (-32768 ≤ jf js j ∧ jf js j ≤ 32767)) :
    Calls Tryz.prog 12 #[.pointer (some ⟨B, 0, none⟩)] w fun e w' => e = .returned (.bool (okM zs js)) ∧ Below w.heap.size w w' := by
  have HV := hid (fun n' => specValidStack_any b n cap zs (w.drewN n') hS hn)
  have hBl := hR.lt
  have p0 := hR.cell 0
  have p1 := hR.cell 1
  simp only [List.getElem?_cons_zero, List.getElem?_cons_succ] at p0 p1
  have hln := hS.2.2.2
  have hlm := hJ.2.2
  rw [← hn] at hln
  rw [← hm] at hlm
  have hgl := hJ.1
  have HC := hid hJ.2.1
  have HR := hid hR
  have HB := hid hb
  have M := hid hm
  have HJ0 := hid hJ0
  clear hJ0
  have N := hid hn
  clear hS hJ hR hb
  cases hv : okL zs with
  | false =>
    rw [okM_stack hv]
    rw [hv] at HV
    clear hv hn hm
    go_enter Tryz.func12, Tryz.ntmps12
    go_wp2_with fail
    go_quiet ((go_at_call 25; exact quiet_left (HV.out _)))
    go_wp2_with fail
    go_ret
    exact ⟨rfl, below_drewN (Below.refl _ _) _⟩
  | true =>
    rw [hv] at HV
    have h1 := (okL_out hv).1
    rw [← hn] at h1
    have wn : IntKind.i64.wrap ((n : Int) - 1) = (n : Int) - 1 := IntWalk.i64_in _ (by omega)
    by_cases hl : m + 1 = n
    · rw [okM_js hv (by omega)]
      have hne : ((m : Int) != (n : Int) - 1) = false := by simp; omega
      clear hv hn hm
      go_enter Tryz.func12, Tryz.ntmps12
      go_wp2_with fail
      go_quiet ((go_at_call 25; exact quiet_left (HV.out _)))
      go_wp2_with fail
      go_loopw [3] (fun i wr => ∃ k : Nat, k ≤ m ∧ i = .int .i64 k ∧ okJTo js k ∧ Below w.heap.size w wr) (fun i _ => m - (intOf i).toNat)
      case atStart => exact ⟨0, Nat.zero_le _, rfl, fun j hj => by omega, below_drewN (Below.refl _ _) _⟩
      case round =>
        obtain ⟨k, hk, rfl, hT, hB⟩ := hrel
        clear p0 p1
        have q := HR.out.below hB hBl
        have p1 := q.cell 1
        simp only [List.getElem?_cons_zero, List.getElem?_cons_succ] at p1
        clear q
        by_cases hlt : k < m
        · have hkm : k < js.length := by rw [← M.out]; exact hlt
          have eJ := HJ0.out.resolve_left (by omega)
          subst eJ
          have c0 := (hB.cell (p := ⟨g, k * 2, none⟩) hgl).trans (HC.out k hkm).1
          have c1 := (hB.cell (p := ⟨g, k * 2 + 1, none⟩) hgl).trans (HC.out k hkm).2
          have bb := HB.out k hkm
          have HS := hid (fun e => okJTo_succ hT e)
          have HA := hid (fun e => okJs_at (js := js) k hkm e)
          clear hT hkm
          obtain ⟨x, hx⟩ : ∃ x, x = jk js k := ⟨_, rfl⟩
          obtain ⟨y, hy⟩ : ∃ y, y = jf js k := ⟨_, rfl⟩
          rw [← hx] at c0
          rw [← hy] at c1
          rw [← hx, ← hy] at HS HA bb
          clear hx hy
          have hzw := hB.size
          have hB2 : Below w.heap.size w (wr.alloc (.cells #[.int .i8 x, .int .i16 y] 39)) := hB.alloc hzw _
          obtain ⟨bx, by'⟩ := bb
          by_cases x0 : x = 0
          · subst x0
            by_cases y0 : y = 0
            · subst y0
              have HS' := hid (HS.out (okJ_even rfl))
              clear HS HA
              go_wp2_with (go_at_call 26; refine (inr_yes _ _ _ _ (by omega)).mono ?_; rintro e w' ⟨rfl, rfl⟩)
              go_roundw
              case rel => exact ⟨k + 1, by omega, by go_num, HS'.out, hB2⟩
              case measure => simp [intOf]; omega
            · have HA' := hid (HA.out (okJ_even_no y0))
              have hb1 : (y != 0) = true := by rw [bne_iff_ne]; exact y0
              clear HS HA y0
              go_wp2_with fail
              go_ret
              exact ⟨by rw [HA'.out]; rfl, hB2⟩
          · have hb0 : (x == 0) = false := by simp [x0]
            by_cases x1 : x = 1
            · subst x1
              by_cases yr : 0 ≤ y ∧ y < 1000
              · have HS' := hid (HS.out (okJ_late yr))
                clear HS HA x0
                go_wp2_with fail
                refine (inr_yes _ _ _ _ (by omega)).mono ?_
                rintro e w' ⟨rfl, rfl⟩
                go_wp2_with fail
                refine (inr_yes _ _ _ _ (by omega)).mono ?_
                rintro e w' ⟨rfl, rfl⟩
                go_wp2_with fail
                go_roundw
                case rel => exact ⟨k + 1, by omega, by go_num, HS'.out, hB2⟩
                case measure => simp [intOf]; omega
              · have HA' := hid (HA.out (okJ_late_no yr))
                have HI := hid (fun w => inr_no y 0 999 w (by omega))
                clear HS HA x0 yr
                go_wp2_with fail
                refine (inr_yes _ _ _ _ (by omega)).mono ?_
                rintro e w' ⟨rfl, rfl⟩
                go_wp2_with fail
                refine (HI.out _).mono ?_
                rintro e w' ⟨rfl, rfl⟩
                go_wp2_with fail
                go_ret
                exact ⟨by rw [HA'.out]; rfl, hB2⟩
            · have HA' := hid (HA.out (okJ_kind x0 x1))
              have HI := hid (fun w => inr_no x 0 1 w (by omega))
              clear HS HA x0 x1
              go_wp2_with fail
              refine (HI.out _).mono ?_
              rintro e w' ⟨rfl, rfl⟩
              go_wp2_with fail
              go_ret
              exact ⟨by rw [HA'.out]; rfl, hB2⟩
        · obtain rfl : k = m := by omega
          have HZ := hid (okJs_of (js := js) (by rw [← M.out]; exact hT))
          clear hT
          go_wp2_with fail
          go_ret
          exact ⟨by rw [HZ.out]; rfl, hB⟩
    · rw [okM_len (by omega)]
      have hne : ((m : Int) != (n : Int) - 1) = true := by rw [bne_iff_ne]; omega
      clear hv hn hm hl
      go_enter Tryz.func12, Tryz.ntmps12
      go_wp2_with fail
      go_quiet ((go_at_call 25; exact quiet_left (HV.out _)))
      go_wp2_with fail
      go_ret
      exact ⟨rfl, below_drewN (Below.refl _ _) _⟩
set_option maxRecDepth 100000 in
set_option maxHeartbeats 4000000 in
theorem implMTTN_any (aJ : Option Addr) (b n cap g m cap' : Nat) (zs : List Int) (js : List (Int × Int)) (w : World) (hS : Stk w b zs) (hJ : Jst w g js) (hn : n = zs.length) (hm : m = js.length) (hJ0 : m = 0 ∨ aJ = some ⟨g, 0, none⟩) (ht : Lib.TabIs Tryz.prog w "internal/strconv.uint64pow10" .u64 Lib.pow10Tab) (hg : 5 < w.heap.size) :
    Calls Tryz.prog 16 #[.agg #[.slice (some ⟨b, 0, none⟩) n cap, .slice aJ m cap']] w fun e w' => e = .returned (.string ⟨(mtR zs js).toArray⟩) ∧ Below w.heap.size w w' := by
  obtain ⟨i0, hi, iz0, iz1, iz2⟩ := info_parts Tryz.infoStr
  obtain ⟨V, hV⟩ : ∃ V, V = w.alloc (.cells #[.slice (some ⟨b, 0, none⟩) n cap, .slice aJ m cap'] 26) := ⟨_, rfl⟩
  have bV : Below w.heap.size w V := by rw [hV]; exact (Below.refl _ _).alloc (Nat.le_refl _) _
  have sV : V.heap.size = w.heap.size + 1 := by rw [hV]; simp
  have rV : Row V w.heap.size 26 [.slice (some ⟨b, 0, none⟩) n cap, .slice aJ m cap'] := by rw [hV]; exact Row.new w _ _
  have hSV := hS.below bV hS.1
  have hJV := hJ.below bV hJ.1
  have HV := hid (implValidMotionN_any aJ b n cap g m cap' zs js V hSV hJV hn hm hJ0)
  have HST := hid (fun w1 (hB : Below V.heap.size V w1) t gg => implST_any b n cap zs w1 (hSV.below hB hSV.1) hn t gg)
  have HJ0 := hid hJ0
  clear hJ0
  have HJ := hid hJV; have HM := hid hm; have HN := hid hn; have RV := hid rV; have BV := hid bV; have HW := hid hV; have HTV := hid (tab_belowO ht bV hg); have HG0 := hid hg
  have c0 := rV.cell 0; have c1 := rV.cell 1
  simp only [List.getElem?_cons_zero, List.getElem?_cons_succ] at c0 c1
  rw [hV] at c0 c1
  clear hS hJ ht hg hSV hJV hV bV rV
  cases hv : okM zs js with
  | false =>
    rw [mtR_no hv]
    rw [hv] at HV
    clear hv hm hn
    go_enter Tryz.func16, Tryz.ntmps16
    go_wp2_with (go_at_call 33; rw [← HW.out]; refine HV.out.mono ?_; rintro e w1 ⟨rfl, hB1⟩)
    go_ret
    exact ⟨rfl, BV.out.trans (hB1.mono BV.out.size)⟩
  | true =>
    obtain ⟨hL, hlen, hjs⟩ := okM_out hv
    have HJO := hid (fun k hk => okJs_out hjs k hk)
    have HLEN := hid (mtA_len zs js hL (fun j hj => okJs_out hjs j hj))
    have h8 := (okL_out hL).2.1
    rw [mtR_yes hv, ← hm]
    rw [hv] at HV
    have hm8 : m ≤ 8 := by omega
    clear hv hm hn hjs hL hlen h8
    go_enter Tryz.func16, Tryz.ntmps16
    go_wp2_with fail
    rw [← HW.out]
    refine HV.out.mono ?_
    rintro e w1 ⟨rfl, hB1⟩
    have B1 := hid hB1
    have hz1 := hB1.size
    have q1 := RV.out.below hB1 RV.out.lt
    have R1 := hid q1
    have HT1 := hid (tab_belowO HTV.out hB1 (by have := HG0.out; omega))
    have HST1 := hid (HST.out w1 hB1 HT1.out (by have := HG0.out; omega))
    replace c0 := q1.cell 0; replace c1 := q1.cell 1
    simp only [List.getElem?_cons_zero, List.getElem?_cons_succ] at c0 c1
    clear hB1 q1
    go_wp2_with fail
    refine HST1.out.mono ?_
    rintro e w2 ⟨rfl, hB2⟩
    have hz2 := hB2.size
    have B2 := hid (B1.out.trans (hB2.mono hz1))
    have HT2 := hid (tab_belowO HT1.out hB2 (by have := HG0.out; omega))
    have q2 := R1.out.below hB2 R1.out.lt
    have HP2 := hid (HJ.out.below B2.out HJ.out.1)
    obtain ⟨T, hT⟩ : ∃ y : ByteArray, ⟨(txS zs).toArray⟩ = y := ⟨_, rfl⟩
    rw [hT]
    have o2 := World.ownsRow_lit (base := w2.heap.size) (e := 9) (size := 1) w2 #[.string T] 1 (Nat.le_refl _) (by unfold maxLen; omega) rfl
    have b2 : Below w2.heap.size w2 (w2.alloc (.cells #[.string T] 9)) := (Below.refl _ _).alloc (Nat.le_refl _) _
    have q3 := q2.below b2 q2.lt
    replace c0 := q3.cell 0; replace c1 := q3.cell 1
    simp only [List.getElem?_cons_zero, List.getElem?_cons_succ] at c0 c1
    have O2 := hid o2
    have BB2 := hid b2
    have HTT := hid hT
    clear hB2 o2 b2 q2 q3 hT
    go_wp2_with fail
    go_loopw [3, 16] (fun v i wr => ∃ k : Nat, k ≤ m ∧ i = .int .i64 k ∧ wr.ownsRow w2.heap.size 9 1 v (1 + k) ((mtL zs js k).map Value.string) ∧ Below w2.heap.size w2 wr) (fun _ i _ => m - (intOf i).toNat)
    case atStart => exact ⟨0, by omega, rfl, by rw [mtL_zero, HTT.out]; exact O2.out, BB2.out⟩
    case round =>
      obtain ⟨k, hk, rfl, hown, hB⟩ := hrel
      have hzr := hB.size
      by_cases hkn : k < m
      · have sP := HP2.out.below hB HP2.out.1
        have hkl : k < js.length := by have := HM.out; omega
        have eJ := HJ0.out.resolve_left (by omega)
        subst eJ
        obtain ⟨x0, x1⟩ := sP.2.1 k hkl
        obtain ⟨VV, HA0, HC0⟩ := joint_text (jk js k) (jf js k) (HJO.out k hkl)
        have HSN0 := mtL_succ zs js k
        unfold mtP at HSN0
        obtain ⟨p, hp⟩ : ∃ y, jk js k = y := ⟨_, rfl⟩
        obtain ⟨q, hq⟩ : ∃ y, jf js k = y := ⟨_, rfl⟩
        rw [hp] at x0 HA0 HC0 HSN0
        rw [hq] at x1 HA0 HC0 HSN0
        obtain ⟨C, hC⟩ : ∃ y : ByteArray, ⟨(mtW p q).toArray⟩ = y := ⟨_, rfl⟩
        rw [hC] at HC0 HSN0
        have HA := hid HA0; have HC := hid HC0; have HSN := hid HSN0
        have k0 : (0 : Int) ≤ (k : Int) := by omega
        have k1 : (k : Int) < (m : Int) := by omega
        have w1' : IntKind.i64.wrap ((k : Int) + 1) = (k : Int) + 1 := IntWalk.i64_in _ (by omega)
        have HO := hid (hown.alloc (.cells #[.int .i8 p, .int .i16 q] 39))
        have HBX := hid (show Below w2.heap.size w2 (wr.alloc (.cells #[.int .i8 p, .int .i16 q] 39)) from hB.alloc hB.size _)
        clear hp hq hC HSN0 HA0 HC0 hown hB sP
        go_wp2_with fail
        clear x0 x1
        refine (HA.out _).mono ?_
        rintro e w3 ⟨rfl, hB3⟩
        have HO3 := hid (owns_belowP HO.out hB3)
        have HX3 := hid (HBX.out.trans (hB3.mono HBX.out.size))
        have HT3 := hid (tab_belowO HT2.out HX3.out (by have := HG0.out; omega))
        clear hB3
        go_wp2_with fail
        refine (HC.out w3 HT3.out (by have := HG0.out; have := HX3.out.size; omega)).mono ?_
        rintro e w4 ⟨rfl, hB4⟩
        have HO4 := hid ((owns_belowP HO3.out hB4).alloc (.cells #[.string C] 9))
        have b4 := HX3.out.trans (hB4.mono HX3.out.size)
        have HX4 := hid (b4.alloc b4.size (.cells #[.string C] 9))
        have nr := Row.new w4 9 [.string C]
        have nc := nr.cell 0
        simp only [List.getElem?_cons_zero] at nc
        clear hB4 b4 nr
        go_upto_region 8 with (at_builtin; refine wpList_append_own _ rfl _ _ 32 rfl w2.heap.size 9 i0 (.string ⟨#[]⟩) 1 16 Tryz.underlying32 hi iz0 iz1 iz2 rfl (by decide) _ _ _ rfl HO4.out ⟨w4.heap.size, 0, none⟩ 1 1 [.string C] rfl rfl (by intro j u hj; match j, hj with | 0, hj => simp at hj; subst hj; simp [Addr.add, nc]) (by intro u hu; simp at hu; subst hu; rfl) (by unfold maxLen; omega) (by omega) (by have := HX4.out.size; exact this) ?_; rintro v' w5 hown' hgrow -)
        have hg2 : (w4.alloc (.cells #[.string C] 9)).grownBy w5 _ := hgrow
        have HB2 := hid (HX4.out.grown hg2 (by simp; have := HX4.out.size; simp at this; omega) (fun k e => by have := (HO4.out.lt k e).1; omega))
        have hown2 := hid (show w5.ownsRow w2.heap.size 9 1 v' (1 + (k + 1)) ((mtL zs js (k + 1)).map Value.string) by rw [HSN.out]; exact hown')
        clear hown' hgrow hg2 nc HO4 HX4
        go_wp2_with fail
        go_roundw
        case rel => exact ⟨k + 1, by omega, by go_num, hown2.out, HB2.out⟩
        case measure => simp [intOf]; omega
      · obtain rfl : k = m := by omega
        have k1 : ¬ (k : Int) < (k : Int) := by omega
        rcases hown.2 with h90 | ⟨g', gcap, cur, rfl, h92, h93, h94⟩
        · exact absurd h90.2 (by omega)
        have HJN := hid (Tryz.strings_Join g' 0 gcap (mtL zs js k) ⟨#[32]⟩ wr (own_cells hown) (lt_of_block h93) (by rw [mtL_len]; omega) (by rw [mtL_len]; exact own_cap hown) (by rw [show (⟨#[32]⟩ : ByteArray).data.toList = [32] from rfl, mtL_join]; have := HLEN.out k (by have := HM.out; omega); omega))
        rw [mtL_len, show (⟨#[32]⟩ : ByteArray).data.toList = [32] from rfl, mtL_join] at HJN
        have BB := hid hB
        clear hown h92 h93 h94 hB
        go_wp2_with (go_at_call 36; refine HJN.out.mono ?_; rintro e w9 ⟨rfl, hB9⟩)
        go_ret
        exact ⟨rfl, BV.out.trans ((B2.out.trans ((BB.out.trans (hB9.mono hzr)).mono (by omega))).mono BV.out.size)⟩
end Go.Proofs.YtklkdbfdejabiaaGreatDoor
