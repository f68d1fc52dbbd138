/- TotalsText. -/
import Derived.Test.YtdfbenjccjaejaaDoorTxG
import Derived.Test.YtdfbenjccjaejaaDoorTotV
import Derived.Test.YtdfbenjccjaejaaDoorBui
namespace Go.Proofs.YtdfbenjccjaejaaDoor
open Go.RowKit Go.Shelf
set_option linter.unusedVariables false
set_option linter.unusedSimpArgs false
def toP (js : List (Int × Int)) (k : Nat) : List UInt8 := Lib.itoa (rd js k) ++ [32] ++ Lib.itoa (rv js k) ++ [10]
def toA (js : List (Int × Int)) (k : Nat) : List UInt8 := ((List.range k).map (toP js)).flatten
theorem toA_zero (js : List (Int × Int)) : toA js 0 = [] := rfl
theorem toA_succ (js : List (Int × Int)) (k : Nat) : toA js (k + 1) = toA js k ++ toP js k := by simp [toA, List.range_succ]
def toR (js : List (Int × Int)) : List UInt8 := if okTs js then toA js js.length else []
theorem toR_no {js : List (Int × Int)} (h : okTs js = false) : toR js = [] := by simp [toR, h]
theorem toR_yes {js : List (Int × Int)} (h : okTs js = true) : toR js = toA js js.length := by simp [toR, h]
theorem okTs_bd {js : List (Int × Int)} (h : okTs js = true) : js.length ≤ 60 ∧ ∀ k, k < js.length → (0 ≤ rd js k ∧ rd js k ≤ 100000) ∧ 0 ≤ rv js k ∧ rv js k ≤ 1000000000000 := by
  simp only [okTs, Bool.and_eq_true, decide_eq_true_eq, List.all_eq_true, List.mem_range] at h
  refine ⟨h.1, fun k hk => ?_⟩
  have := h.2.1 k hk
  simp only [okTd, decide_eq_true_eq] at this
  omega
theorem toA_len (js : List (Int × Int)) (h : ∀ k, k < js.length → (0 ≤ rd js k ∧ rd js k ≤ 100000) ∧ 0 ≤ rv js k ∧ rv js k ≤ 1000000000000) : ∀ k, k ≤ js.length → (toA js k).length ≤ 40 * k
  | 0, _ => by simp [toA]
  | k + 1, hk => by
    have a := toA_len js h k (by omega)
    have b := h k (by omega)
    have p := itoa_bigO (rd js k) (by omega); have q := itoa_bigO (rv js k) (by omega)
    rw [toA_succ]
    simp [toP]
    omega
set_option maxRecDepth 100000 in
set_option maxHeartbeats 4000000 in
theorem implTOT_any (b n cap : Nat) (js : List (Int × Int)) (w : World) (hR : Rst w b js) (hn : n = js.length) (ht : Lib.TabIs Tryd.prog w "internal/strconv.uint64pow10" .u64 Lib.pow10Tab) (hg : 3 < w.heap.size) :
    Calls Tryd.prog 14 #[.slice (some ⟨b, 0, none⟩) n cap] w fun e w' => e = .returned (.string ⟨(toR js).toArray⟩) ∧ Below w.heap.size w w' := by
  have HV := hid (implTotals_any b n cap js hn w hR)
  have HR := hid hR; have HN := hid hn; have HT0 := hid ht; have HG0 := hid hg
  clear hR ht hg
  cases hv : okTs js with
  | false =>
    rw [toR_no hv]
    rw [hv] at HV
    clear hv hn
    go_enter Tryd.func14, Tryd.ntmps14
    go_wp2_with (go_at_call 21; refine HV.out.mono ?_; rintro e w1 ⟨rfl, hB1⟩)
    go_ret
    exact ⟨rfl, hB1⟩
  | true =>
    obtain ⟨h60, hbd⟩ := okTs_bd hv
    have HLEN := hid (toA_len js hbd)
    rw [toR_yes hv, ← hn]
    rw [hv] at HV
    have HBD := hid hbd
    rw [← hn] at h60
    clear hv hbd hn
    go_enter Tryd.func14, Tryd.ntmps14
    go_wp2_with fail
    refine HV.out.mono ?_
    rintro e w1 ⟨rfl, hB1⟩
    have B1 := hid hB1
    have hz1 := hB1.size
    have HTB := hid (tab_belowO HT0.out hB1 HG0.out)
    have HG1 := hid (Nat.lt_of_lt_of_le HG0.out hz1)
    have HP := hid (HR.out.below hB1 HR.out.1)
    have HBN := hid (BuS.new w1)
    have HBW := hid (show Below w1.heap.size w1 (w1.alloc (.cells #[.pointer none, .slice none 0 0] 53)) from (Below.refl _ _).alloc (Nat.le_refl _) _)
    clear hB1
    go_wp2_with fail
    go_loopw [11] (fun i wr => ∃ k : Nat, k ≤ n ∧ i = .int .i64 k ∧ BuS wr w1.heap.size (toA js k) ∧ Below w1.heap.size w1 wr) (fun i _ => n - (intOf i).toNat)
    case atStart => exact ⟨0, by omega, rfl, HBN.out, HBW.out⟩
    case round =>
      obtain ⟨k, hk, rfl, hU, hB⟩ := hrel
      have hzr := hB.size
      by_cases hkn : k < n
      · have sP := HP.out.below hB HP.out.1
        have hkl : k < js.length := by have := HN.out; omega
        obtain ⟨⟨a1, a2⟩, b1, b2⟩ := HBD.out k hkl
        obtain ⟨x0, x1⟩ := sP.2.1 k hkl
        have HSN0 := toA_succ js k
        have lL := HLEN.out k (by omega)
        have HA := hid (fun W t => dec_i64O (rd js k) (by omega) W t)
        have HC := hid (fun W t => dec_i64O (rv js k) (by omega) W t)
        have l1 := itoa_bigO (rd js k) (by omega); have l2 := itoa_bigO (rv js k) (by omega)
        unfold toP at HSN0
        obtain ⟨p, hp⟩ : ∃ y, rd js k = y := ⟨_, rfl⟩
        obtain ⟨q, hq⟩ : ∃ y, rv js k = y := ⟨_, rfl⟩
        rw [hp] at x0 HA l1 HSN0
        rw [hq] at x1 HC l2 HSN0
        obtain ⟨A, hA⟩ : ∃ y, Lib.itoa p = y := ⟨_, rfl⟩
        obtain ⟨C, hC⟩ : ∃ y, Lib.itoa q = y := ⟨_, rfl⟩
        rw [hA] at HA l1 HSN0
        rw [hC] at HC l2 HSN0
        obtain ⟨L, hL⟩ : ∃ y, toA js k = y := ⟨_, rfl⟩
        rw [hL] at hU lL HSN0
        have HW0 := fun W h => write_any w1.heap.size L (A ++ [32] ++ C ++ [10]) W h (by simp; omega)
        rw [← app4] at HW0
        have HW := hid HW0
        have HSN := hid HSN0
        have s1 : ¬ (9223372036854775807 < A.length + 1) := by omega
        have s2 : ¬ (9223372036854775807 < A.length + 1 + C.length) := by omega
        have s3 : ¬ (9223372036854775807 < A.length + 1 + C.length + 1) := by omega
        have k0 : (0 : Int) ≤ (k : Int) := by omega
        have k1 : (k : Int) < (n : Int) := by omega
        have w1' : IntKind.i64.wrap ((k : Int) + 1) = (k : Int) + 1 := IntWalk.i64_in _ (by omega)
        have rP := Row.new wr 33 [.int .i64 p, .int .i64 q]
        have bB : Below w1.heap.size w1 (wr.alloc (.cells #[.int .i64 p, .int .i64 q] 33)) := hB.alloc hB.size _
        have hO : BuS (wr.alloc (.cells #[.int .i64 p, .int .i64 q] 33)) w1.heap.size L := hU.below ((Below.refl _ _).alloc (Nat.le_refl _) _) hU.1
        have GNE := hid (show wr.heap.size ≠ w1.heap.size from fun e => by have := hU.1; omega)
        clear hp hq hA hC HSN0 l1 l2 hU hB sP lL hL HW0
        go_wp2_with fail
        clear x0 x1
        refine wp_region_held (S := fun W' : World => Row W' wr.heap.size 33 [.int .i64 p, .int .i64 q]) (by kernel_rfl) ?_
        change wpAnyH _ _ _ _ _ _ _ _ (World.drew _)
        obtain ⟨W0, hW0⟩ : ∃ X, X = World.drew (wr.alloc (.cells #[.int .i64 p, .int .i64 q] 33)) := ⟨_, rfl⟩
        have hD0 : Below (wr.alloc (.cells #[.int .i64 p, .int .i64 q] 33)).heap.size (wr.alloc (.cells #[.int .i64 p, .int .i64 q] 33)) W0 := by rw [hW0]; exact (Below.refl _ _).drew
        replace rP := rP.below hD0 rP.lt
        replace hO := hO.below hD0 hO.1
        have bW0 := bB.trans (hD0.mono bB.size)
        have bR : Below W0.heap.size W0 W0 := Below.refl _ _
        rw [← hW0]
        clear hW0 hD0
        have l_rP := rP.lt
        have l_hO := hO.1
        have hS0 : (fun W' : World => Row W' wr.heap.size 33 [.int .i64 p, .int .i64 q]) W0 := rP
        refine wpAnyH_takeD (some 15) (i := 0) (v := ?_) rfl rfl (by kernel_rfl) (by kernel_rfl) (by kernel_rfl) (fun _ _ _ h => h) (.inl ⟨by kernel_rfl, ?_⟩) hS0 ?_
        rotate_left
        · intro w' hw'; have hrow0 := hw'; have e0x0 := Row.cell hrow0 0; have e0x1 := Row.cell hrow0 1; simp only [List.getElem?_cons_zero, List.getElem?_cons_succ] at e0x0 e0x1; clear hrow0; clear hw'; go_simp; try with_reducible rfl
        try simp only [Act.put, List.setIfInBounds_toArray, List.set_cons_zero, List.set_cons_succ]
        refine wpAnyH_takeD (some 16) (i := 1) (v := ?_) rfl rfl (by kernel_rfl) (by kernel_rfl) (by kernel_rfl) (fun _ _ _ h => h) (.inl ⟨by kernel_rfl, ?_⟩) hS0 ?_
        rotate_left
        · intro w' hw'; have hrow0 := hw'; have e0x0 := Row.cell hrow0 0; have e0x1 := Row.cell hrow0 1; simp only [List.getElem?_cons_zero, List.getElem?_cons_succ] at e0x0 e0x1; clear hrow0; clear hw'; go_simp; try with_reducible rfl
        try simp only [Act.put, List.setIfInBounds_toArray, List.set_cons_zero, List.set_cons_succ]
        refine wpAnyH_takeD (some 19) (i := 4) (v := ?_) rfl rfl (by kernel_rfl) (by kernel_rfl) (by kernel_rfl) (fun _ _ _ h => h) (.inl ⟨by kernel_rfl, ?_⟩) hS0 ?_
        rotate_left
        · intro w' hw'; have hrow0 := hw'; have e0x0 := Row.cell hrow0 0; have e0x1 := Row.cell hrow0 1; simp only [List.getElem?_cons_zero, List.getElem?_cons_succ] at e0x0 e0x1; clear hrow0; clear hw'; go_simp; try with_reducible rfl
        try simp only [Act.put, List.setIfInBounds_toArray, List.set_cons_zero, List.set_cons_succ]
        refine wpAnyH_takeD (some 20) (i := 5) (v := ?_) rfl rfl (by kernel_rfl) (by kernel_rfl) (by kernel_rfl) (fun _ _ _ h => h) (.inl ⟨by kernel_rfl, ?_⟩) hS0 ?_
        rotate_left
        · intro w' hw'; have hrow0 := hw'; have e0x0 := Row.cell hrow0 0; have e0x1 := Row.cell hrow0 1; simp only [List.getElem?_cons_zero, List.getElem?_cons_succ] at e0x0 e0x1; clear hrow0; clear hw'; go_simp; try with_reducible rfl
        try simp only [Act.put, List.setIfInBounds_toArray, List.set_cons_zero, List.set_cons_succ]
        refine wpAnyH_all (rs := [2]) (by kernel_rfl) (by simp) ?_
        intro i hi; simp only [List.mem_cons, List.not_mem_nil, or_false] at hi
        subst hi
        refine wpOp_step rfl (fun K hK => ?_)
        go_simp
        with_reducible refine (HA.out W0 (tab_belowO HTB.out (bW0.trans (bR.mono bW0.size)) HG1.out)).mono ?_
        rintro e v1 ⟨rfl, hB1⟩
        replace rP := rP.below hB1 rP.lt
        replace hO := hO.below hB1 hO.1
        replace bR := bR.trans (hB1.mono bR.size)
        have hS1 : (fun W' : World => Row W' wr.heap.size 33 [.int .i64 p, .int .i64 q]) v1 := rP
        refine hK _ _ ⟨hS1, ?_⟩
        try simp only [Act.put, List.setIfInBounds_toArray, List.set_cons_zero, List.set_cons_succ]
        clear hB1 hK K hS0
        refine wpAnyH_takeD (some 18) (i := 3) (v := ?_) rfl rfl (by kernel_rfl) (by kernel_rfl) (by kernel_rfl) (fun _ _ _ h => h) (.inl ⟨by kernel_rfl, ?_⟩) hS1 ?_
        rotate_left
        · intro w' hw'; go_simp; try with_reducible rfl
        try simp only [Act.put, List.setIfInBounds_toArray, List.set_cons_zero, List.set_cons_succ]
        refine wpAnyH_all (rs := [6]) (by kernel_rfl) (by simp) ?_
        intro i hi; simp only [List.mem_cons, List.not_mem_nil, or_false] at hi
        subst hi
        refine wpOp_step rfl (fun K hK => ?_)
        go_simp
        with_reducible refine (HC.out v1 (tab_belowO HTB.out (bW0.trans (bR.mono bW0.size)) HG1.out)).mono ?_
        rintro e v2 ⟨rfl, hB2⟩
        replace rP := rP.below hB2 rP.lt
        replace hO := hO.below hB2 hO.1
        replace bR := bR.trans (hB2.mono bR.size)
        have hS2 : (fun W' : World => Row W' wr.heap.size 33 [.int .i64 p, .int .i64 q]) v2 := rP
        refine hK _ _ ⟨hS2, ?_⟩
        try simp only [Act.put, List.setIfInBounds_toArray, List.set_cons_zero, List.set_cons_succ]
        clear hB2 hK K hS1
        refine wpAnyH_takeD (some 22) (i := 7) (v := ?_) rfl rfl (by kernel_rfl) (by kernel_rfl) (by kernel_rfl) (fun _ _ _ h => h) (.inl ⟨by kernel_rfl, ?_⟩) hS2 ?_
        rotate_left
        · intro w' hw'; go_simp; try with_reducible rfl
        try simp only [Act.put, List.setIfInBounds_toArray, List.set_cons_zero, List.set_cons_succ]
        refine wpAnyH_takeD (some 23) (i := 8) (v := ?_) rfl rfl (by kernel_rfl) (by kernel_rfl) (by kernel_rfl) (fun _ _ _ h => h) (.inl ⟨by kernel_rfl, ?_⟩) hS2 ?_
        rotate_left
        · intro w' hw'; go_simp; try with_reducible rfl
        try simp only [Act.put, List.setIfInBounds_toArray, List.set_cons_zero, List.set_cons_succ]
        refine wpAnyH_all (rs := [9]) (by kernel_rfl) (by simp) ?_
        intro i hi; simp only [List.mem_cons, List.not_mem_nil, or_false] at hi
        subst hi
        refine wpOp_step rfl (fun K hK => ?_)
        go_simp
        with_reducible refine (HW.out v2 hO).mono ?_
        rintro e w7 ⟨rfl, hU, hB7, hK7⟩
        have r7 := row_others rP hK7 GNE.out (by decide)
        have bel := hid (show Below w1.heap.size w1 w7 from (bW0.trans (bR.mono bW0.size)).trans hB7)
        have OU := hid hU
        have hS7 : (fun W' : World => Row W' wr.heap.size 33 [.int .i64 p, .int .i64 q]) w7 := r7
        refine hK _ _ ⟨hS7, ?_⟩
        try simp only [Act.put, List.setIfInBounds_toArray, List.set_cons_zero, List.set_cons_succ]
        clear hK K hU hB7 hK7 rP hO bR
        refine wpAnyH_done (by kernel_rfl) ?_ _
        go_wp2_with fail
        go_roundw
        case rel => exact ⟨k + 1, by omega, by go_num, by rw [HSN.out]; exact OU.out, bel.out⟩
        case measure => simp [intOf]; omega
      · obtain rfl : k = n := by omega
        have k1 : ¬ (k : Int) < (k : Int) := by omega
        have HJ := hid (bstring_any w1.heap.size (toA js k) wr hU)
        have BB := hid hB
        clear hU hB
        go_wp2_with (go_at_call 24; refine HJ.out.mono ?_; rintro e w9 ⟨rfl, hB9⟩)
        go_ret
        exact ⟨rfl, B1.out.trans ((BB.out.trans hB9).mono hz1)⟩
end Go.Proofs.YtdfbenjccjaejaaDoor
