/- Motions that are valid: the program's answer and the model's. -/
import Derived.Test.YtklkdbfdejabiaaGreatDoorMotion
import Derived.Test.YtklkdbfdejabiaaGreatDoorValid
namespace Go.Proofs.YtklkdbfdejabiaaGreatDoor
open Go.RowKit

theorem quiet_left {P : Program} {f : FuncId} {args : Array Value} {w : World} {n : Nat} {v : Value}
    (h : Calls P f args (w.drewN n) fun e w' => e = .returned v ∧ w.drewN n = w') : Calls P f args (w.drewN n) fun e w'' => e = .returned v ∧ ∃ m, w'' = w.drewN m := by
  refine h.mono ?_
  rintro e w' ⟨he, hm⟩
  exact ⟨he, n, hm.symm⟩
def okJ (k f : Int) : Bool := if k = 0 then decide (f = 0) else if k = 1 then decide (0 ≤ f ∧ f < 1000) else false
theorem okJ_even {f : Int} (h : f = 0) : okJ 0 f = true := by simp [okJ, h]
theorem okJ_even_no {f : Int} (h : f ≠ 0) : okJ 0 f = false := by simp [okJ, h]
theorem okJ_late {f : Int} (h : 0 ≤ f ∧ f < 1000) : okJ 1 f = true := by simp [okJ, h]
theorem okJ_late_no {f : Int} (h : ¬ (0 ≤ f ∧ f < 1000)) : okJ 1 f = false := by
  show (if (1 : Int) = 0 then _ else if (1 : Int) = 1 then decide (0 ≤ f ∧ f < 1000) else false) = false
  rw [if_neg (by decide), if_pos rfl]; simpa using h
theorem okJ_kind {k f : Int} (h0 : k ≠ 0) (h1 : k ≠ 1) : okJ k f = false := by simp [okJ, h0, h1]
theorem okJ_out {k f : Int} (h : okJ k f = true) : (k = 0 ∧ f = 0) ∨ (k = 1 ∧ 0 ≤ f ∧ f < 1000) := by
  unfold okJ at h
  split at h
  · left; exact ⟨by assumption, by simpa using h⟩
  · split at h
    · right; exact ⟨by assumption, by simpa using h⟩
    · simp at h
def okJs (js : List (Int × Int)) : Bool := js.all fun j => okJ j.1 j.2
def okJTo (js : List (Int × Int)) (k : Nat) : Prop := ∀ j, j < k → okJ (jk js j) (jf js j) = true
theorem okJTo_succ {js : List (Int × Int)} {k : Nat} (h : okJTo js k) (e : okJ (jk js k) (jf js k) = true) : okJTo js (k + 1) := fun j hj => by
  by_cases h' : j = k
  · subst h'; exact e
  · exact h j (by omega)
theorem okJs_of {js : List (Int × Int)} (h : okJTo js js.length) : okJs js = true := by
  simp only [okJs, List.all_eq_true]
  intro j hj
  obtain ⟨i, hi, rfl⟩ := List.mem_iff_getElem.1 hj
  have := h i hi
  simpa [jk, jf, hi] using this
theorem okJs_at {js : List (Int × Int)} (k : Nat) (hk : k < js.length) (h : okJ (jk js k) (jf js k) = false) : okJs js = false := by
  cases hb : okJs js with
  | false => rfl
  | true =>
    simp only [okJs, List.all_eq_true] at hb
    have := hb js[k] (List.getElem_mem hk)
    simp [jk, jf, hk] at h
    rw [h] at this
    cases this
theorem okJs_out {js : List (Int × Int)} (h : okJs js = true) (k : Nat) (hk : k < js.length) : okJ (jk js k) (jf js k) = true := by
  simp only [okJs, List.all_eq_true] at h
  have := h js[k] (List.getElem_mem hk)
  simpa [jk, jf, hk] using this
def okM (zs : List Int) (js : List (Int × Int)) : Bool := okL zs && (decide (js.length + 1 = zs.length) && okJs js)
theorem okM_stack {zs : List Int} {js : List (Int × Int)} (h : okL zs = false) : okM zs js = false := by simp [okM, h]
theorem okM_len {zs : List Int} {js : List (Int × Int)} (h : js.length + 1 ≠ zs.length) : okM zs js = false := by simp [okM, h]
theorem okM_js {zs : List Int} {js : List (Int × Int)} (h : okL zs = true) (k : js.length + 1 = zs.length) : okM zs js = okJs js := by simp [okM, h, k]
theorem okM_out {zs : List Int} {js : List (Int × Int)} (h : okM zs js = true) : okL zs = true ∧ js.length + 1 = zs.length ∧ okJs js = true := by
  simp only [okM, Bool.and_eq_true, decide_eq_true_eq] at h
  exact ⟨h.1, h.2.1, h.2.2⟩

theorem jvalid_any (k f : Int) (w : World) : Calls Tryz.prog 49 #[.agg #[.int .i8 k, .int .i16 f]] w fun e w' => e = .returned (.bool (okJ k f)) ∧ Below w.heap.size w w' := by
  have bel : Below w.heap.size w (w.alloc (.cells #[.int .i8 k, .int .i16 f] 39)) := (Below.refl _ w).alloc (Nat.le_refl _) _
  by_cases h0 : k = 0
  · subst h0
    by_cases hf : f = 0
    · subst hf
      rw [okJ_even rfl]
      go_enter Tryz.func49, Tryz.ntmps49
      go_wp2_with fail
      go_ret
      exact ⟨rfl, bel⟩
    · rw [okJ_even_no hf]
      have hb : (f == 0) = false := by simp [hf]
      clear hf
      go_enter Tryz.func49, Tryz.ntmps49
      go_wp2_with fail
      go_ret
      exact ⟨rfl, bel⟩
  · have hb0 : (k == 0) = false := by simp [h0]
    by_cases h1 : k = 1
    · subst h1
      clear h0 hb0
      by_cases hf : 0 ≤ f
      · by_cases hg : f < 1000
        · rw [okJ_late ⟨hf, hg⟩]
          go_enter Tryz.func49, Tryz.ntmps49
          go_wp2_with fail
          go_ret
          exact ⟨rfl, bel⟩
        · rw [okJ_late_no (by omega)]
          have hg' : 1000 ≤ f := by omega
          have hd : decide (f < 1000) = false := by simp; omega
          clear hg
          go_enter Tryz.func49, Tryz.ntmps49
          go_wp2_with fail
          go_ret
          exact ⟨rfl, bel⟩
      · rw [okJ_late_no (by omega)]
        have hf' : f < 0 := by omega
        clear hf
        go_enter Tryz.func49, Tryz.ntmps49
        go_wp2_with fail
        go_ret
        exact ⟨rfl, bel⟩
    · have hb1 : (k == 1) = false := by simp [h1]
      rw [okJ_kind h0 h1]
      clear h0 h1
      go_enter Tryz.func49, Tryz.ntmps49
      go_wp2_with fail
      go_ret
      exact ⟨rfl, bel⟩

set_option maxHeartbeats 2000000 in
theorem implValidMotion_any (b n cap g m cap' : Nat) (zs : List Int) (js : List (Int × Int)) (w : World) (hS : Stk w b zs) (hJ : Jst w g js) (hn : n = zs.length) (hm : m = js.length) :
    Calls Tryz.prog 33 #[.agg #[.slice (some ⟨b, 0, none⟩) n cap, .slice (some ⟨g, 0, none⟩) m cap']] w fun e w' => e = .returned (.bool (okM zs js)) ∧ Below w.heap.size w w' := by
  have bel : Below w.heap.size w (w.alloc (.cells #[.slice (some ⟨b, 0, none⟩) n cap, .slice (some ⟨g, 0, none⟩) m cap'] 26)) := (Below.refl _ w).alloc (Nat.le_refl _) _
  have HV := hid (validStack_any b n cap zs (w.alloc (.cells #[.slice (some ⟨b, 0, none⟩) n cap, .slice (some ⟨g, 0, none⟩) m cap'] 26)) (hS.below bel hS.1) hn)
  have hln := hS.2.2.2
  have hlm := hJ.2.2
  rw [← hn] at hln
  rw [← hm] at hlm
  have hgl := hJ.1
  have HC := hid hJ.2.1
  have M := hid hm
  have N := hid hn
  clear hS hJ
  cases hv : okL zs with
  | false =>
    rw [okM_stack hv]
    rw [hv] at HV
    clear hv hn hm
    go_enter Tryz.func33, Tryz.ntmps33
    go_wp2_with (go_at_call 29; refine HV.out.mono ?_; rintro e w' ⟨rfl, rfl⟩)
    go_ret
    exact ⟨rfl, bel⟩
  | true =>
    rw [hv] at HV
    have h1 := (okL_out hv).1
    rw [← hn] at h1
    by_cases hl : m + 1 = n
    · rw [okM_js hv (by omega)]
      have hne : ((m : Int) != (n : Int) - 1) = false := by simp; omega
      clear hv hn hm
      go_enter Tryz.func33, Tryz.ntmps33
      go_wp2_with (go_at_call 29; refine HV.out.mono ?_; rintro e w' ⟨rfl, rfl⟩)
      go_loopw [22] (fun i wr => ∃ k : Nat, k ≤ m ∧ i = .int .i64 k ∧ okJTo js k ∧ Below w.heap.size w wr) (fun i _ => m - (intOf i).toNat)
      case atStart => exact ⟨0, Nat.zero_le _, rfl, fun j hj => by omega, bel⟩
      case round =>
        obtain ⟨k, hk, rfl, hT, hB⟩ := hrel
        by_cases hlt : k < m
        · have hkm : k < js.length := by rw [← M.out]; exact hlt
          have c0 := (hB.cell (p := ⟨g, k * 2, none⟩) hgl).trans (HC.out k hkm).1
          have c1 := (hB.cell (p := ⟨g, k * 2 + 1, none⟩) hgl).trans (HC.out k hkm).2
          have HS := hid (fun e => okJTo_succ hT e)
          have HA := hid (fun e => okJs_at (js := js) k hkm e)
          clear hT hkm
          obtain ⟨x, hx⟩ : ∃ x, x = jk js k := ⟨_, rfl⟩
          obtain ⟨y, hy⟩ : ∃ y, y = jf js k := ⟨_, rfl⟩
          rw [← hx] at c0
          rw [← hy] at c1
          rw [← hx, ← hy] at HS HA
          clear hx hy
          have hzw := hB.size
          have hB2 : Below w.heap.size w (wr.alloc (.cells #[.int .i8 x, .int .i16 y] 39)) := hB.alloc hzw _
          have HX := hid (jvalid_any x y (wr.alloc (.cells #[.int .i8 x, .int .i16 y] 39)))
          cases hj : okJ x y with
          | true =>
            rw [hj] at HX
            have HS' := hid (HS.out hj)
            clear hj HS HA
            go_wp2_with (go_at_call 49; refine HX.out.mono ?_; rintro e w3 ⟨rfl, hB3⟩)
            go_roundw
            case rel => exact ⟨k + 1, by omega, by go_num, HS'.out, hB2.trans (hB3.mono (by simp; omega))⟩
            case measure => simp [intOf]; omega
          | false =>
            rw [hj] at HX
            have HA' := hid (HA.out hj)
            clear hj HS HA
            go_wp2_with (go_at_call 49; refine HX.out.mono ?_; rintro e w3 ⟨rfl, hB3⟩)
            go_ret
            exact ⟨by rw [HA'.out]; rfl, hB2.trans (hB3.mono (by simp; omega))⟩
        · obtain rfl : k = m := by omega
          have HZ := hid (okJs_of (js := js) (by rw [← M.out]; exact hT))
          clear hT
          go_wp2_with fail
          go_ret
          exact ⟨by rw [HZ.out]; rfl, hB⟩
    · rw [okM_len (by omega)]
      have hne : ((m : Int) != (n : Int) - 1) = true := by rw [bne_iff_ne]; omega
      clear hv hn hm hl
      go_enter Tryz.func33, Tryz.ntmps33
      go_wp2_with (go_at_call 29; refine HV.out.mono ?_; rintro e w' ⟨rfl, rfl⟩)
      go_ret
      exact ⟨rfl, bel⟩

set_option maxHeartbeats 2000000 in
theorem l02Ok_any (B b n cap g m cap' : Nat) (zs : List Int) (js : List (Int × Int)) (w : World) (hR : Row w B 26 [.slice (some ⟨b, 0, none⟩) n cap, .slice (some ⟨g, 0, none⟩) m cap']) (hS : Stk w b zs) (hJ : Jst w g js) (hn : n = zs.length) (hm : m = js.length) (hb : ∀ j, j < js.length → (-128 ≤ jk js j ∧ jk js j ≤ 127) ∧ (-32768 ≤ jf js j ∧ jf js j ≤ 32767)) :
    Calls Tryz.prog 12 #[.pointer (some ⟨B, 0, none⟩)] w fun e w' => e = .returned (.bool (okM zs js)) ∧ Below w.heap.size w w' := by
  have HV := hid (fun n' => specValidStack_any b n cap zs (w.drewN n') hS hn)
  have hBl := hR.lt
  have p0 := hR.cell 0
  have p1 := hR.cell 1
  simp only [List.getElem?_cons_zero, List.getElem?_cons_succ] at p0 p1
  have hln := hS.2.2.2
  have hlm := hJ.2.2
  rw [← hn] at hln
  rw [← hm] at hlm
  have hgl := hJ.1
  have HC := hid hJ.2.1
  have HR := hid hR
  have HB := hid hb
  have M := hid hm
  have N := hid hn
  clear hS hJ hR hb
  cases hv : okL zs with
  | false =>
    rw [okM_stack hv]
    rw [hv] at HV
    clear hv hn hm
    go_enter Tryz.func12, Tryz.ntmps12
    go_wp2_with fail
    go_quiet ((go_at_call 25; exact quiet_left (HV.out _)))
    go_wp2_with fail
    go_ret
    exact ⟨rfl, below_drewN (Below.refl _ _) _⟩
  | true =>
    rw [hv] at HV
    have h1 := (okL_out hv).1
    rw [← hn] at h1
    have wn : IntKind.i64.wrap ((n : Int) - 1) = (n : Int) - 1 := IntWalk.i64_in _ (by omega)
    by_cases hl : m + 1 = n
    · rw [okM_js hv (by omega)]
      have hne : ((m : Int) != (n : Int) - 1) = false := by simp; omega
      clear hv hn hm
      go_enter Tryz.func12, Tryz.ntmps12
      go_wp2_with fail
      go_quiet ((go_at_call 25; exact quiet_left (HV.out _)))
      go_wp2_with fail
      go_loopw [3] (fun i wr => ∃ k : Nat, k ≤ m ∧ i = .int .i64 k ∧ okJTo js k ∧ Below w.heap.size w wr) (fun i _ => m - (intOf i).toNat)
      case atStart => exact ⟨0, Nat.zero_le _, rfl, fun j hj => by omega, below_drewN (Below.refl _ _) _⟩
      case round =>
        obtain ⟨k, hk, rfl, hT, hB⟩ := hrel
        clear p0 p1
        have q := HR.out.below hB hBl
        have p1 := q.cell 1
        simp only [List.getElem?_cons_zero, List.getElem?_cons_succ] at p1
        clear q
        by_cases hlt : k < m
        · have hkm : k < js.length := by rw [← M.out]; exact hlt
          have c0 := (hB.cell (p := ⟨g, k * 2, none⟩) hgl).trans (HC.out k hkm).1
          have c1 := (hB.cell (p := ⟨g, k * 2 + 1, none⟩) hgl).trans (HC.out k hkm).2
          have bb := HB.out k hkm
          have HS := hid (fun e => okJTo_succ hT e)
          have HA := hid (fun e => okJs_at (js := js) k hkm e)
          clear hT hkm
          obtain ⟨x, hx⟩ : ∃ x, x = jk js k := ⟨_, rfl⟩
          obtain ⟨y, hy⟩ : ∃ y, y = jf js k := ⟨_, rfl⟩
          rw [← hx] at c0
          rw [← hy] at c1
          rw [← hx, ← hy] at HS HA bb
          clear hx hy
          have hzw := hB.size
          have hB2 : Below w.heap.size w (wr.alloc (.cells #[.int .i8 x, .int .i16 y] 39)) := hB.alloc hzw _
          obtain ⟨bx, by'⟩ := bb
          by_cases x0 : x = 0
          · subst x0
            by_cases y0 : y = 0
            · subst y0
              have HS' := hid (HS.out (okJ_even rfl))
              clear HS HA
              go_wp2_with (go_at_call 26; refine (inr_yes _ _ _ _ (by omega)).mono ?_; rintro e w' ⟨rfl, rfl⟩)
              go_roundw
              case rel => exact ⟨k + 1, by omega, by go_num, HS'.out, hB2⟩
              case measure => simp [intOf]; omega
            · have HA' := hid (HA.out (okJ_even_no y0))
              have hb1 : (y != 0) = true := by rw [bne_iff_ne]; exact y0
              clear HS HA y0
              go_wp2_with fail
              go_ret
              exact ⟨by rw [HA'.out]; rfl, hB2⟩
          · have hb0 : (x == 0) = false := by simp [x0]
            by_cases x1 : x = 1
            · subst x1
              by_cases yr : 0 ≤ y ∧ y < 1000
              · have HS' := hid (HS.out (okJ_late yr))
                clear HS HA x0
                go_wp2_with fail
                refine (inr_yes _ _ _ _ (by omega)).mono ?_
                rintro e w' ⟨rfl, rfl⟩
                go_wp2_with fail
                refine (inr_yes _ _ _ _ (by omega)).mono ?_
                rintro e w' ⟨rfl, rfl⟩
                go_wp2_with fail
                go_roundw
                case rel => exact ⟨k + 1, by omega, by go_num, HS'.out, hB2⟩
                case measure => simp [intOf]; omega
              · have HA' := hid (HA.out (okJ_late_no yr))
                have HI := hid (fun w => inr_no y 0 999 w (by omega))
                clear HS HA x0 yr
                go_wp2_with fail
                refine (inr_yes _ _ _ _ (by omega)).mono ?_
                rintro e w' ⟨rfl, rfl⟩
                go_wp2_with fail
                refine (HI.out _).mono ?_
                rintro e w' ⟨rfl, rfl⟩
                go_wp2_with fail
                go_ret
                exact ⟨by rw [HA'.out]; rfl, hB2⟩
            · have HA' := hid (HA.out (okJ_kind x0 x1))
              have HI := hid (fun w => inr_no x 0 1 w (by omega))
              clear HS HA x0 x1
              go_wp2_with fail
              refine (HI.out _).mono ?_
              rintro e w' ⟨rfl, rfl⟩
              go_wp2_with fail
              go_ret
              exact ⟨by rw [HA'.out]; rfl, hB2⟩
        · obtain rfl : k = m := by omega
          have HZ := hid (okJs_of (js := js) (by rw [← M.out]; exact hT))
          clear hT
          go_wp2_with fail
          go_ret
          exact ⟨by rw [HZ.out]; rfl, hB⟩
    · rw [okM_len (by omega)]
      have hne : ((m : Int) != (n : Int) - 1) = true := by rw [bne_iff_ne]; omega
      clear hv hn hm hl
      go_enter Tryz.func12, Tryz.ntmps12
      go_wp2_with fail
      go_quiet ((go_at_call 25; exact quiet_left (HV.out _)))
      go_wp2_with fail
      go_ret
      exact ⟨rfl, below_drewN (Below.refl _ _) _⟩

end Go.Proofs.YtklkdbfdejabiaaGreatDoor
