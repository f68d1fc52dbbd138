/- LogText. -/
import Derived.Test.YtocaogkbnlicjaaDoorBui
import Derived.Test.YtocaogkbnlicjaaDoorValGI
import Derived.Test.YtocaogkbnlicjaaDoorValGS
import Derived.Test.YtocaogkbnlicjaaDoorTxF
import Derived.Test.YtocaogkbnlicjaaDoorOfS
namespace Go.Proofs.YtocaogkbnlicjaaDoor
open Go.RowKit Go.Shelf
set_option linter.unusedVariables false
set_option linter.unusedSimpArgs false
def ds8 (zs : List Int) (v : Int) : List Int := [dg (dgL zs v) 0, dg (dgL zs v) 1, dg (dgL zs v) 2, dg (dgL zs v) 3, dg (dgL zs v) 4, dg (dgL zs v) 5, dg (dgL zs v) 6, dg (dgL zs v) 7]
theorem ds8_oct (zs : List Int) (v : Int) (hz : inB zs zs.length) : Oct (dg (dgL zs v) 0) (dg (dgL zs v) 1) (dg (dgL zs v) 2) (dg (dgL zs v) 3) (dg (dgL zs v) 4) (dg (dgL zs v) 5) (dg (dgL zs v) 6) (dg (dgL zs v) 7) := by
  have key : ∀ k, k < 8 → 0 ≤ dg (dgL zs v) k ∧ dg (dgL zs v) k ≤ 255 := fun k hk => by
    have := dgL_bd zs v hz k hk
    unfold dg
    omega
  exact ⟨key 0 (by omega), key 1 (by omega), key 2 (by omega), key 3 (by omega), key 4 (by omega), key 5 (by omega), key 6 (by omega), key 7 (by omega)⟩
theorem txD_le (zs : List Int) {d0 d1 d2 d3 d4 d5 d6 d7 : Int} (ho : Oct d0 d1 d2 d3 d4 d5 d6 d7) : (txD zs [d0, d1, d2, d3, d4, d5, d6, d7]).length ≤ 100 := by
  cases hv : okV zs [d0, d1, d2, d3, d4, d5, d6, d7] with
  | false => rw [txD_no hv]; simp
  | true =>
    rw [txD_yes hv]
    obtain ⟨hv1, hv2⟩ := okV_out hv
    obtain ⟨h1n, h8, hin, _, _⟩ := okL_out hv1
    have hlt := okD_lt hv2 h8 (fun j hj => (oct_bd ho j hj).1)
    have hll : (List.take zs.length [d0, d1, d2, d3, d4, d5, d6, d7]).length = zs.length := by simp; omega
    have := txT_len (List.take zs.length [d0, d1, d2, d3, d4, d5, d6, d7]) (wdD zs) 2 (fun k hk => by
      rw [hll] at hk
      have a := hin k hk; have b := hlt k hk; have c := oct_bd ho k (by omega)
      have e : ug (List.take zs.length [d0, d1, d2, d3, d4, d5, d6, d7]) k = ([d0, d1, d2, d3, d4, d5, d6, d7] : List Int)[k]?.getD 0 := ug_take _ _ _ hk
      unfold txP
      rw [padZ_len, e]
      have q := itoa2 (([d0, d1, d2, d3, d4, d5, d6, d7] : List Int)[k]?.getD 0) (by omega); have r := wdD_le zs k a
      omega)
    rw [hll] at this
    omega
def lgP (zs : List Int) (js : List (Int × Int)) (k : Nat) : List UInt8 := Lib.itoa (rd js k) ++ [32] ++ txD zs (ds8 zs (rv js k)) ++ [10]
def lgA (zs : List Int) (js : List (Int × Int)) (k : Nat) : List UInt8 := ((List.range k).map (lgP zs js)).flatten
theorem lgA_zero (zs : List Int) (js : List (Int × Int)) : lgA zs js 0 = [] := rfl
theorem lgA_succ (zs : List Int) (js : List (Int × Int)) (k : Nat) : lgA zs js (k + 1) = lgA zs js k ++ lgP zs js k := by simp [lgA, List.range_succ]
def lgR (zs : List Int) (js : List (Int × Int)) : List UInt8 := if okG zs js then lgA zs js js.length else []
theorem lgR_no {zs : List Int} {js : List (Int × Int)} (h : okG zs js = false) : lgR zs js = [] := by simp [lgR, h]
theorem lgR_yes {zs : List Int} {js : List (Int × Int)} (h : okG zs js = true) : lgR zs js = lgA zs js js.length := by simp [lgR, h]
theorem okG_bd {zs : List Int} {js : List (Int × Int)} (h : okG zs js = true) : js.length ≤ 40 ∧ ∀ k, k < js.length → (0 ≤ rd js k ∧ rd js k ≤ 100000) ∧ 0 ≤ rv js k ∧ rv js k ≤ 1000000000000 := by
  obtain ⟨h1, h2, h3, _⟩ := okG_out h
  obtain ⟨_, _, _, _, hz⟩ := okL_out h1
  refine ⟨h2, fun k hk => ?_⟩
  have := okRd_out (h3 k hk)
  omega
theorem lgA_len (zs : List Int) (js : List (Int × Int)) (hz : inB zs zs.length) (h : ∀ k, k < js.length → (0 ≤ rd js k ∧ rd js k ≤ 100000) ∧ 0 ≤ rv js k ∧ rv js k ≤ 1000000000000) : ∀ k, k ≤ js.length → (lgA zs js k).length ≤ 200 * k
  | 0, _ => by simp [lgA]
  | k + 1, hk => by
    have a := lgA_len zs js hz h k (by omega)
    have b := h k (by omega)
    have p := itoa_bigO (rd js k) (by omega); have q := txD_le zs (ds8_oct zs (rv js k) hz)
    rw [lgA_succ]
    simp only [lgP, List.length_append, List.length_cons, List.length_nil]
    unfold ds8
    omega
set_option maxRecDepth 100000 in
set_option maxHeartbeats 4000000 in
theorem implLGT_any (bS nS capS : Nat) (zs : List Int) (hnS : nS = zs.length) (b n cap : Nat) (js : List (Int × Int)) (hn : n = js.length) (w : World) (hS : Stk w bS zs) (hR : Rst w b js) (ht : Lib.TabIs Tryd.prog w "internal/strconv.uint64pow10" .u64 Lib.pow10Tab) (hg : 4 < w.heap.size) :
    Calls Tryd.prog 16 #[.slice (some ⟨bS, 0, none⟩) nS capS, .slice (some ⟨b, 0, none⟩) n cap] w fun e w' => e = .returned (.string ⟨(lgR zs js).toArray⟩) ∧ Below w.heap.size w w' := by
  have HV := hid (implValidLog_any bS nS capS zs hnS b n cap js hn w hS hR)
  have HR := hid hR; have HN := hid hn; have HT0 := hid ht; have HG0 := hid hg; have HS := hid hS; have HNS := hid hnS
  clear hR ht hg hS hnS
  cases hv : okG zs js with
  | false =>
    rw [lgR_no hv]
    rw [hv] at HV
    clear hv hn
    go_enter Tryd.func16, Tryd.ntmps16
    go_wp2_with (go_at_call 41; refine HV.out.mono ?_; rintro e w1 ⟨rfl, hB1⟩)
    go_ret
    exact ⟨rfl, hB1⟩
  | true =>
    obtain ⟨h60, hbd⟩ := okG_bd hv
    have HVS := hid (okG_out hv).1
    have HZ := hid (okL_out HVS.out).2.2.1
    have HLEN := hid (lgA_len zs js HZ.out hbd)
    rw [lgR_yes hv, ← hn]
    rw [hv] at HV
    have HBD := hid hbd
    rw [← hn] at h60
    clear hv hbd hn
    go_enter Tryd.func16, Tryd.ntmps16
    go_wp2_with fail
    refine HV.out.mono ?_
    rintro e w1 ⟨rfl, hB1⟩
    have B1 := hid hB1
    have hz1 := hB1.size
    have HTB := hid (tab_belowO HT0.out hB1 HG0.out)
    have HG1 := hid (Nat.lt_of_lt_of_le HG0.out hz1)
    have HP := hid (HR.out.below hB1 HR.out.1)
    have HSP := hid (HS.out.below hB1 HS.out.1)
    have HBN := hid (BuS.new w1)
    have HBW := hid (show Below w1.heap.size w1 (w1.alloc (.cells #[.pointer none, .slice none 0 0] 86)) from (Below.refl _ _).alloc (Nat.le_refl _) _)
    clear hB1
    go_wp2_with fail
    go_loopw [14] (fun i wr => ∃ k : Nat, k ≤ n ∧ i = .int .i64 k ∧ BuS wr w1.heap.size (lgA zs js k) ∧ Below w1.heap.size w1 wr) (fun i _ => n - (intOf i).toNat)
    case atStart => exact ⟨0, by omega, rfl, HBN.out, HBW.out⟩
    case round =>
      obtain ⟨k, hk, rfl, hU, hB⟩ := hrel
      have hzr := hB.size
      by_cases hkn : k < n
      · have sP := HP.out.below hB HP.out.1
        have sS := HSP.out.below hB HSP.out.1
        have hkl : k < js.length := by have := HN.out; omega
        obtain ⟨⟨a1, a2⟩, b1, b2⟩ := HBD.out k hkl
        obtain ⟨x0, x1⟩ := sP.2.1 k hkl
        have HSN0 := lgA_succ zs js k
        have lL := HLEN.out k (by omega)
        have HA := hid (fun W t => dec_i64O (rd js k) (by omega) W t)
        have l1 := itoa_bigO (rd js k) (by omega)
        have HD := hid (fun W h => digits_any bS nS capS zs HNS.out HVS.out (rv js k) (by omega) (by omega) W h)
        have HOC := hid (ds8_oct zs (rv js k) HZ.out)
        have HT0 := fun W h => implDT_any bS nS capS zs _ _ _ _ _ _ _ _ W h HNS.out HOC.out
        have l2 := txD_le zs HOC.out
        unfold lgP ds8 at HSN0
        obtain ⟨p, hp⟩ : ∃ y, rd js k = y := ⟨_, rfl⟩
        obtain ⟨q, hq⟩ : ∃ y, rv js k = y := ⟨_, rfl⟩
        rw [hp] at x0 HA l1 HSN0
        rw [hq] at x1 HD HT0 l2 HSN0
        obtain ⟨e0, he0⟩ : ∃ y, dg (dgL zs q) 0 = y := ⟨_, rfl⟩
        obtain ⟨e1, he1⟩ : ∃ y, dg (dgL zs q) 1 = y := ⟨_, rfl⟩
        obtain ⟨e2, he2⟩ : ∃ y, dg (dgL zs q) 2 = y := ⟨_, rfl⟩
        obtain ⟨e3, he3⟩ : ∃ y, dg (dgL zs q) 3 = y := ⟨_, rfl⟩
        obtain ⟨e4, he4⟩ : ∃ y, dg (dgL zs q) 4 = y := ⟨_, rfl⟩
        obtain ⟨e5, he5⟩ : ∃ y, dg (dgL zs q) 5 = y := ⟨_, rfl⟩
        obtain ⟨e6, he6⟩ : ∃ y, dg (dgL zs q) 6 = y := ⟨_, rfl⟩
        obtain ⟨e7, he7⟩ : ∃ y, dg (dgL zs q) 7 = y := ⟨_, rfl⟩
        rw [he0, he1, he2, he3, he4, he5, he6, he7] at HD HT0 l2 HSN0
        obtain ⟨A, hA⟩ : ∃ y, Lib.itoa p = y := ⟨_, rfl⟩
        obtain ⟨C, hC⟩ : ∃ y, txD zs [e0, e1, e2, e3, e4, e5, e6, e7] = y := ⟨_, rfl⟩
        rw [hA] at HA l1 HSN0
        rw [hC] at HT0 l2 HSN0
        have HT := hid HT0
        obtain ⟨L, hL⟩ : ∃ y, lgA zs js k = y := ⟨_, rfl⟩
        rw [hL] at hU lL HSN0
        have HW0 := fun W h => write_any w1.heap.size L (A ++ [32] ++ C ++ [10]) W h (by simp; omega)
        rw [← app4] at HW0
        have HW := hid HW0
        have HSN := hid HSN0
        have s1 : ¬ (9223372036854775807 < A.length + 1) := by omega
        have s2 : ¬ (9223372036854775807 < A.length + 1 + C.length) := by omega
        have s3 : ¬ (9223372036854775807 < A.length + 1 + C.length + 1) := by omega
        have k0 : (0 : Int) ≤ (k : Int) := by omega
        have k1 : (k : Int) < (n : Int) := by omega
        have w1' : IntKind.i64.wrap ((k : Int) + 1) = (k : Int) + 1 := IntWalk.i64_in _ (by omega)
        have rP := Row.new wr 81 [.int .i64 p, .int .i64 q]
        have bB : Below w1.heap.size w1 (wr.alloc (.cells #[.int .i64 p, .int .i64 q] 81)) := hB.alloc hB.size _
        have hO : BuS (wr.alloc (.cells #[.int .i64 p, .int .i64 q] 81)) w1.heap.size L := hU.below ((Below.refl _ _).alloc (Nat.le_refl _) _) hU.1
        replace sS : Stk (wr.alloc (.cells #[.int .i64 p, .int .i64 q] 81)) bS zs := sS.below ((Below.refl _ _).alloc (Nat.le_refl _) _) sS.1
        have GNE := hid (show wr.heap.size ≠ w1.heap.size from fun e => by have := hU.1; omega)
        clear hp hq hA hC HSN0 l1 l2 hU hB sP lL hL HW0 HT0 he0 he1 he2 he3 he4 he5 he6 he7
        go_wp2_with fail
        clear x0 x1
        refine wp_region_held (S := fun W' : World => Row W' wr.heap.size 81 [.int .i64 p, .int .i64 q]) (by kernel_rfl) ?_
        change wpAnyH _ _ _ _ _ _ _ _ (World.drew _)
        obtain ⟨W0, hW0⟩ : ∃ X, X = World.drew (wr.alloc (.cells #[.int .i64 p, .int .i64 q] 81)) := ⟨_, rfl⟩
        have hD0 : Below (wr.alloc (.cells #[.int .i64 p, .int .i64 q] 81)).heap.size (wr.alloc (.cells #[.int .i64 p, .int .i64 q] 81)) W0 := by rw [hW0]; exact (Below.refl _ _).drew
        replace rP := rP.below hD0 rP.lt
        replace hO := hO.below hD0 hO.1
        replace sS := sS.below hD0 sS.1
        have bW0 := bB.trans (hD0.mono bB.size)
        have bR : Below W0.heap.size W0 W0 := Below.refl _ _
        rw [← hW0]
        clear hW0 hD0
        have l_rP := rP.lt
        have l_hO := hO.1
        have l_sS := sS.1
        have hS0 : (fun W' : World => Row W' wr.heap.size 81 [.int .i64 p, .int .i64 q]) W0 := rP
        refine wpAnyH_takeD (some 18) (i := 0) (v := ?_) rfl rfl (by kernel_rfl) (by kernel_rfl) (by kernel_rfl) (fun _ _ _ h => h) (.inl ⟨by kernel_rfl, ?_⟩) hS0 ?_
        rotate_left
        · intro w' hw'; have hrow0 := hw'; have e0x0 := Row.cell hrow0 0; have e0x1 := Row.cell hrow0 1; simp only [List.getElem?_cons_zero, List.getElem?_cons_succ] at e0x0 e0x1; clear hrow0; clear hw'; go_simp; try with_reducible rfl
        try simp only [Act.put, List.setIfInBounds_toArray, List.set_cons_zero, List.set_cons_succ]
        refine wpAnyH_takeD (some 19) (i := 1) (v := ?_) rfl rfl (by kernel_rfl) (by kernel_rfl) (by kernel_rfl) (fun _ _ _ h => h) (.inl ⟨by kernel_rfl, ?_⟩) hS0 ?_
        rotate_left
        · intro w' hw'; have hrow0 := hw'; have e0x0 := Row.cell hrow0 0; have e0x1 := Row.cell hrow0 1; simp only [List.getElem?_cons_zero, List.getElem?_cons_succ] at e0x0 e0x1; clear hrow0; clear hw'; go_simp; try with_reducible rfl
        try simp only [Act.put, List.setIfInBounds_toArray, List.set_cons_zero, List.set_cons_succ]
        refine wpAnyH_takeD (some 22) (i := 4) (v := ?_) rfl rfl (by kernel_rfl) (by kernel_rfl) (by kernel_rfl) (fun _ _ _ h => h) (.inl ⟨by kernel_rfl, ?_⟩) hS0 ?_
        rotate_left
        · intro w' hw'; go_simp; try with_reducible rfl
        try simp only [Act.put, List.setIfInBounds_toArray, List.set_cons_zero, List.set_cons_succ]
        refine wpAnyH_takeD (some 23) (i := 5) (v := ?_) rfl rfl (by kernel_rfl) (by kernel_rfl) (by kernel_rfl) (fun _ _ _ h => h) (.inl ⟨by kernel_rfl, ?_⟩) hS0 ?_
        rotate_left
        · intro w' hw'; go_simp; try with_reducible rfl
        try simp only [Act.put, List.setIfInBounds_toArray, List.set_cons_zero, List.set_cons_succ]
        refine wpAnyH_takeD (some 24) (i := 6) (v := ?_) rfl rfl (by kernel_rfl) (by kernel_rfl) (by kernel_rfl) (fun _ _ _ h => h) (.inl ⟨by kernel_rfl, ?_⟩) hS0 ?_
        rotate_left
        · intro w' hw'; have hrow0 := hw'; have e0x0 := Row.cell hrow0 0; have e0x1 := Row.cell hrow0 1; simp only [List.getElem?_cons_zero, List.getElem?_cons_succ] at e0x0 e0x1; clear hrow0; clear hw'; go_simp; try with_reducible rfl
        try simp only [Act.put, List.setIfInBounds_toArray, List.set_cons_zero, List.set_cons_succ]
        refine wpAnyH_takeD (some 25) (i := 7) (v := ?_) rfl rfl (by kernel_rfl) (by kernel_rfl) (by kernel_rfl) (fun _ _ _ h => h) (.inl ⟨by kernel_rfl, ?_⟩) hS0 ?_
        rotate_left
        · intro w' hw'; have hrow0 := hw'; have e0x0 := Row.cell hrow0 0; have e0x1 := Row.cell hrow0 1; simp only [List.getElem?_cons_zero, List.getElem?_cons_succ] at e0x0 e0x1; clear hrow0; clear hw'; go_simp; try with_reducible rfl
        try simp only [Act.put, List.setIfInBounds_toArray, List.set_cons_zero, List.set_cons_succ]
        refine wpAnyH_all (rs := [2]) (by kernel_rfl) (by simp) ?_
        intro i hi; simp only [List.mem_cons, List.not_mem_nil, or_false] at hi
        subst hi
        refine wpOp_step rfl (fun K hK => ?_)
        go_simp
        with_reducible refine (HA.out W0 (tab_belowO HTB.out (bW0.trans (bR.mono bW0.size)) HG1.out)).mono ?_
        rintro e v1 ⟨rfl, hB1⟩
        replace rP := rP.below hB1 rP.lt
        replace hO := hO.below hB1 hO.1
        replace sS := sS.below hB1 sS.1
        replace bR := bR.trans (hB1.mono bR.size)
        have hS1 : (fun W' : World => Row W' wr.heap.size 81 [.int .i64 p, .int .i64 q]) v1 := rP
        refine hK _ _ ⟨hS1, ?_⟩
        try simp only [Act.put, List.setIfInBounds_toArray, List.set_cons_zero, List.set_cons_succ]
        clear hB1 hK K hS0
        refine wpAnyH_takeD (some 21) (i := 3) (v := ?_) rfl rfl (by kernel_rfl) (by kernel_rfl) (by kernel_rfl) (fun _ _ _ h => h) (.inl ⟨by kernel_rfl, ?_⟩) hS1 ?_
        rotate_left
        · intro w' hw'; go_simp; try with_reducible rfl
        try simp only [Act.put, List.setIfInBounds_toArray, List.set_cons_zero, List.set_cons_succ]
        refine wpAnyH_all (rs := [8]) (by kernel_rfl) (by simp) ?_
        intro i hi; simp only [List.mem_cons, List.not_mem_nil, or_false] at hi
        subst hi
        refine wpOp_step rfl (fun K hK => ?_)
        go_simp
        with_reducible refine (HD.out v1 sS).mono ?_
        rintro e v2 ⟨rfl, hB2⟩
        replace rP := rP.below hB2 rP.lt
        replace hO := hO.below hB2 hO.1
        replace sS := sS.below hB2 sS.1
        replace bR := bR.trans (hB2.mono bR.size)
        have hS2 : (fun W' : World => Row W' wr.heap.size 81 [.int .i64 p, .int .i64 q]) v2 := rP
        refine hK _ _ ⟨hS2, ?_⟩
        try simp only [Act.put, List.setIfInBounds_toArray, List.set_cons_zero, List.set_cons_succ]
        clear hB2 hK K hS1
        refine wpAnyH_all (rs := [9]) (by kernel_rfl) (by simp) ?_
        intro i hi; simp only [List.mem_cons, List.not_mem_nil, or_false] at hi
        subst hi
        refine wpOp_step rfl (fun K hK => ?_)
        go_simp
        with_reducible refine (HT.out v2 sS).mono ?_
        rintro e v3 ⟨rfl, hB3⟩
        replace rP := rP.below hB3 rP.lt
        replace hO := hO.below hB3 hO.1
        replace sS := sS.below hB3 sS.1
        replace bR := bR.trans (hB3.mono bR.size)
        have hS3 : (fun W' : World => Row W' wr.heap.size 81 [.int .i64 p, .int .i64 q]) v3 := rP
        refine hK _ _ ⟨hS3, ?_⟩
        try simp only [Act.put, List.setIfInBounds_toArray, List.set_cons_zero, List.set_cons_succ]
        clear hB3 hK K hS2
        refine wpAnyH_takeD (some 28) (i := 10) (v := ?_) rfl rfl (by kernel_rfl) (by kernel_rfl) (by kernel_rfl) (fun _ _ _ h => h) (.inl ⟨by kernel_rfl, ?_⟩) hS3 ?_
        rotate_left
        · intro w' hw'; go_simp; try with_reducible rfl
        try simp only [Act.put, List.setIfInBounds_toArray, List.set_cons_zero, List.set_cons_succ]
        refine wpAnyH_takeD (some 29) (i := 11) (v := ?_) rfl rfl (by kernel_rfl) (by kernel_rfl) (by kernel_rfl) (fun _ _ _ h => h) (.inl ⟨by kernel_rfl, ?_⟩) hS3 ?_
        rotate_left
        · intro w' hw'; go_simp; try with_reducible rfl
        try simp only [Act.put, List.setIfInBounds_toArray, List.set_cons_zero, List.set_cons_succ]
        refine wpAnyH_all (rs := [12]) (by kernel_rfl) (by simp) ?_
        intro i hi; simp only [List.mem_cons, List.not_mem_nil, or_false] at hi
        subst hi
        refine wpOp_step rfl (fun K hK => ?_)
        go_simp
        with_reducible refine (HW.out v3 hO).mono ?_
        rintro e w7 ⟨rfl, hU, hB7, hK7⟩
        have r7 := row_others rP hK7 GNE.out (by decide)
        have bel := hid (show Below w1.heap.size w1 w7 from (bW0.trans (bR.mono bW0.size)).trans hB7)
        have OU := hid hU
        have hS7 : (fun W' : World => Row W' wr.heap.size 81 [.int .i64 p, .int .i64 q]) w7 := r7
        refine hK _ _ ⟨hS7, ?_⟩
        try simp only [Act.put, List.setIfInBounds_toArray, List.set_cons_zero, List.set_cons_succ]
        clear hK K hU hB7 hK7 rP hO sS bR
        refine wpAnyH_done (by kernel_rfl) ?_ _
        go_wp2_with fail
        go_roundw
        case rel => exact ⟨k + 1, by omega, by go_num, by rw [HSN.out]; exact OU.out, bel.out⟩
        case measure => simp [intOf]; omega
      · obtain rfl : k = n := by omega
        have k1 : ¬ (k : Int) < (k : Int) := by omega
        have HJ := hid (bstring_any w1.heap.size (lgA zs js k) wr hU)
        have BB := hid hB
        clear hU hB
        go_wp2_with (go_at_call 46; refine HJ.out.mono ?_; rintro e w9 ⟨rfl, hB9⟩)
        go_ret
        exact ⟨rfl, B1.out.trans ((BB.out.trans hB9).mono hz1)⟩
set_option maxRecDepth 100000 in
set_option maxHeartbeats 4000000 in
theorem l04Text_any (bS nS capS : Nat) (zs : List Int) (hnS : nS = zs.length) (b n cap : Nat) (js : List (Int × Int)) (hn : n = js.length) (w : World) (hS : Stk w bS zs) (hR : Rst w b js) (hv : okG zs js = true) :
    Calls Tryd.prog 39 #[.slice (some ⟨bS, 0, none⟩) nS capS, .slice (some ⟨b, 0, none⟩) n cap] w fun e w' => e = .returned (.string ⟨(lgA zs js js.length).toArray⟩) ∧ Below w.heap.size w w' := by
  obtain ⟨h60, hbd⟩ := okG_bd hv
  have HN := hid hn; have HR := hid hR; have HS := hid hS; have HNS := hid hnS
  have HVS := hid (okG_out hv).1
  have HZ := hid (okL_out HVS.out).2.2.1
  have HLEN := hid (lgA_len zs js HZ.out hbd)
  rw [← hn] at h60 ⊢
  have HBD := hid hbd
  clear hR hS hnS hv hbd hn
  go_enter Tryd.func39, Tryd.ntmps39
  go_wp2_with fail
  go_loopw [5, 6] (fun v i wr => ∃ k : Nat, k ≤ n ∧ i = .int .i64 k ∧ v = .string ⟨(lgA zs js k).toArray⟩ ∧ Rst wr b js ∧ Stk wr bS zs ∧ Below w.heap.size w wr) (fun _ i _ => n - (intOf i).toNat)
  case atStart => exact ⟨0, by omega, rfl, rfl, HR.out, HS.out, Below.refl _ _⟩
  case round =>
    obtain ⟨k, hk, rfl, rfl, sP, sS, hB⟩ := hrel
    have hzr := hB.size
    by_cases hkn : k < n
    · have hkl : k < js.length := by have := HN.out; omega
      obtain ⟨⟨a1, a2⟩, b1, b2⟩ := HBD.out k hkl
      have lA := HLEN.out k (by omega)
      have HA := hid (fun W => dec_bigO (rd js k) (by omega) W)
      have l1 := itoa_bigO (rd js k) (by omega)
      have HSN0 := lgA_succ zs js k
      have x0f : ∀ {W : World}, Rst W b js → W.cell? ⟨b, k * 2, none⟩ = some (.int .i64 (rd js k)) := fun h => (h.2.1 k hkl).1
      have x1f : ∀ {W : World}, Rst W b js → W.cell? ⟨b, k * 2 + 1, none⟩ = some (.int .i64 (rv js k)) := fun h => (h.2.1 k hkl).2
      have HD := hid (fun W h => l01Of_any bS nS capS zs HNS.out HVS.out (rv js k) (by omega) (by omega) W h)
      have HOC := hid (ds8_oct zs (rv js k) HZ.out)
      have HT0 := fun W h => specDT_any bS nS capS zs _ _ _ _ _ _ _ _ W h HNS.out HOC.out
      have l2 := txD_le zs HOC.out
      unfold lgP ds8 at HSN0
      obtain ⟨p, hp⟩ : ∃ y, rd js k = y := ⟨_, rfl⟩
      obtain ⟨q, hq⟩ : ∃ y, rv js k = y := ⟨_, rfl⟩
      rw [hp] at x0f HA l1 HSN0
      rw [hq] at x1f HD HT0 l2 HSN0
      obtain ⟨e0, he0⟩ : ∃ y, dg (dgL zs q) 0 = y := ⟨_, rfl⟩
      obtain ⟨e1, he1⟩ : ∃ y, dg (dgL zs q) 1 = y := ⟨_, rfl⟩
      obtain ⟨e2, he2⟩ : ∃ y, dg (dgL zs q) 2 = y := ⟨_, rfl⟩
      obtain ⟨e3, he3⟩ : ∃ y, dg (dgL zs q) 3 = y := ⟨_, rfl⟩
      obtain ⟨e4, he4⟩ : ∃ y, dg (dgL zs q) 4 = y := ⟨_, rfl⟩
      obtain ⟨e5, he5⟩ : ∃ y, dg (dgL zs q) 5 = y := ⟨_, rfl⟩
      obtain ⟨e6, he6⟩ : ∃ y, dg (dgL zs q) 6 = y := ⟨_, rfl⟩
      obtain ⟨e7, he7⟩ : ∃ y, dg (dgL zs q) 7 = y := ⟨_, rfl⟩
      rw [he0, he1, he2, he3, he4, he5, he6, he7] at HD HT0 l2 HSN0
      obtain ⟨A, hA⟩ : ∃ y, Lib.itoa p = y := ⟨_, rfl⟩
      obtain ⟨C, hC⟩ : ∃ y, txD zs [e0, e1, e2, e3, e4, e5, e6, e7] = y := ⟨_, rfl⟩
      rw [hA] at HA l1 HSN0
      rw [hC] at HT0 l2 HSN0
      have HT := hid HT0
      have s1 : ¬ (9223372036854775807 < A.length + 1) := by omega
      have s2 : ¬ (9223372036854775807 < A.length + 1 + C.length) := by omega
      have s3 : ¬ (9223372036854775807 < A.length + 1 + C.length + 1) := by omega
      have k0 : (0 : Int) ≤ (k : Int) := by omega
      have k1 : (k : Int) < (n : Int) := by omega
      have w1' : IntKind.i64.wrap ((k : Int) + 1) = (k : Int) + 1 := IntWalk.i64_in _ (by omega)
      have HFIN0 : Value.string (⟨(lgA zs js k).toArray⟩ ++ ((⟨A.toArray⟩ : ByteArray) ++ ⟨#[32]⟩ ++ ⟨C.toArray⟩ ++ ⟨#[10]⟩)) = .string ⟨(lgA zs js (k + 1)).toArray⟩ := by rw [HSN0, app4, app_mk]
      obtain ⟨L, hL⟩ : ∃ y, lgA zs js k = y := ⟨_, rfl⟩
      rw [hL] at HFIN0 lA ⊢
      have HFIN := hid HFIN0
      have s4 : ¬ (9223372036854775807 < L.length + (A.length + 1 + C.length + 1)) := by omega
      clear HSN0 hp hq hA hC HFIN0 HT0 l1 l2 lA hL he0 he1 he2 he3 he4 he5 he6 he7
      go_wp2_with fail
      refine wp_region_held (S := fun W' : World => W'.cell? ⟨b, k * 2, none⟩ = some (.int .i64 p) ∧ W'.cell? ⟨b, k * 2 + 1, none⟩ = some (.int .i64 q)) (by kernel_rfl) ?_
      change wpAnyH _ _ _ _ _ _ _ _ (World.drew _)
      obtain ⟨W0, hW0⟩ : ∃ X, X = World.drew (wr) := ⟨_, rfl⟩
      have hD0 : Below (wr).heap.size (wr) W0 := by rw [hW0]; exact (Below.refl _ _).drew
      replace sP := sP.below hD0 sP.1
      replace sS := sS.below hD0 sS.1
      have bW0 := hB.trans (hD0.mono hB.size)
      have bR : Below W0.heap.size W0 W0 := Below.refl _ _
      rw [← hW0]
      clear hW0 hD0
      have l_sP := sP.1
      have l_sS := sS.1
      have hS0 : (fun W' : World => W'.cell? ⟨b, k * 2, none⟩ = some (.int .i64 p) ∧ W'.cell? ⟨b, k * 2 + 1, none⟩ = some (.int .i64 q)) W0 := ⟨(x0f sP), (x1f sP)⟩
      refine wpAnyH_takeD (some 13) (i := 0) (v := ?_) rfl rfl (by kernel_rfl) (by kernel_rfl) (by kernel_rfl) (fun _ _ _ h => h) (.inl ⟨by kernel_rfl, ?_⟩) hS0 ?_
      rotate_left
      · intro w' hw'; go_simp; try with_reducible rfl
      try simp only [Act.put, List.setIfInBounds_toArray, List.set_cons_zero, List.set_cons_succ]
      refine wpAnyH_takeD (some 14) (i := 1) (v := ?_) rfl rfl (by kernel_rfl) (by kernel_rfl) (by kernel_rfl) (fun _ _ _ h => h) (.inl ⟨by kernel_rfl, ?_⟩) hS0 ?_
      rotate_left
      · intro w' hw'; go_simp; try with_reducible rfl
      try simp only [Act.put, List.setIfInBounds_toArray, List.set_cons_zero, List.set_cons_succ]
      refine wpAnyH_takeD (some 15) (i := 2) (v := ?_) rfl rfl (by kernel_rfl) (by kernel_rfl) (by kernel_rfl) (fun _ _ _ h => h) (.inl ⟨by kernel_rfl, ?_⟩) hS0 ?_
      rotate_left
      · intro w' hw'; go_simp; try with_reducible rfl
      try simp only [Act.put, List.setIfInBounds_toArray, List.set_cons_zero, List.set_cons_succ]
      refine wpAnyH_takeD (some 16) (i := 3) (v := ?_) rfl rfl (by kernel_rfl) (by kernel_rfl) (by kernel_rfl) (fun _ _ _ h => h) (.inl ⟨by kernel_rfl, ?_⟩) hS0 ?_
      rotate_left
      · intro w' hw'; have e0 := hw'.1; have e1 := hw'.2; clear hw'; go_simp; try with_reducible rfl
      try simp only [Act.put, List.setIfInBounds_toArray, List.set_cons_zero, List.set_cons_succ]
      refine wpAnyH_takeD (some 17) (i := 4) (v := ?_) rfl rfl (by kernel_rfl) (by kernel_rfl) (by kernel_rfl) (fun _ _ _ h => h) (.inl ⟨by kernel_rfl, ?_⟩) hS0 ?_
      rotate_left
      · intro w' hw'; have e0 := hw'.1; have e1 := hw'.2; clear hw'; go_simp; try with_reducible rfl
      try simp only [Act.put, List.setIfInBounds_toArray, List.set_cons_zero, List.set_cons_succ]
      refine wpAnyH_takeD (some 18) (i := 5) (v := ?_) rfl rfl (by kernel_rfl) (by kernel_rfl) (by kernel_rfl) (fun _ _ _ h => h) (.inl ⟨by kernel_rfl, ?_⟩) hS0 ?_
      rotate_left
      · intro w' hw'; have e0 := hw'.1; have e1 := hw'.2; clear hw'; go_simp; try with_reducible rfl
      try simp only [Act.put, List.setIfInBounds_toArray, List.set_cons_zero, List.set_cons_succ]
      refine wpAnyH_takeD (some 21) (i := 8) (v := ?_) rfl rfl (by kernel_rfl) (by kernel_rfl) (by kernel_rfl) (fun _ _ _ h => h) (.inl ⟨by kernel_rfl, ?_⟩) hS0 ?_
      rotate_left
      · intro w' hw'; go_simp; try with_reducible rfl
      try simp only [Act.put, List.setIfInBounds_toArray, List.set_cons_zero, List.set_cons_succ]
      refine wpAnyH_takeD (some 22) (i := 9) (v := ?_) rfl rfl (by kernel_rfl) (by kernel_rfl) (by kernel_rfl) (fun _ _ _ h => h) (.inl ⟨by kernel_rfl, ?_⟩) hS0 ?_
      rotate_left
      · intro w' hw'; go_simp; try with_reducible rfl
      try simp only [Act.put, List.setIfInBounds_toArray, List.set_cons_zero, List.set_cons_succ]
      refine wpAnyH_takeD (some 23) (i := 10) (v := ?_) rfl rfl (by kernel_rfl) (by kernel_rfl) (by kernel_rfl) (fun _ _ _ h => h) (.inl ⟨by kernel_rfl, ?_⟩) hS0 ?_
      rotate_left
      · intro w' hw'; go_simp; try with_reducible rfl
      try simp only [Act.put, List.setIfInBounds_toArray, List.set_cons_zero, List.set_cons_succ]
      refine wpAnyH_takeD (some 24) (i := 11) (v := ?_) rfl rfl (by kernel_rfl) (by kernel_rfl) (by kernel_rfl) (fun _ _ _ h => h) (.inl ⟨by kernel_rfl, ?_⟩) hS0 ?_
      rotate_left
      · intro w' hw'; go_simp; try with_reducible rfl
      try simp only [Act.put, List.setIfInBounds_toArray, List.set_cons_zero, List.set_cons_succ]
      refine wpAnyH_takeD (some 25) (i := 12) (v := ?_) rfl rfl (by kernel_rfl) (by kernel_rfl) (by kernel_rfl) (fun _ _ _ h => h) (.inl ⟨by kernel_rfl, ?_⟩) hS0 ?_
      rotate_left
      · intro w' hw'; have e0 := hw'.1; have e1 := hw'.2; clear hw'; go_simp; try with_reducible rfl
      try simp only [Act.put, List.setIfInBounds_toArray, List.set_cons_zero, List.set_cons_succ]
      refine wpAnyH_takeD (some 26) (i := 13) (v := ?_) rfl rfl (by kernel_rfl) (by kernel_rfl) (by kernel_rfl) (fun _ _ _ h => h) (.inl ⟨by kernel_rfl, ?_⟩) hS0 ?_
      rotate_left
      · intro w' hw'; have e0 := hw'.1; have e1 := hw'.2; clear hw'; go_simp; try with_reducible rfl
      try simp only [Act.put, List.setIfInBounds_toArray, List.set_cons_zero, List.set_cons_succ]
      refine wpAnyH_takeD (some 27) (i := 14) (v := ?_) rfl rfl (by kernel_rfl) (by kernel_rfl) (by kernel_rfl) (fun _ _ _ h => h) (.inl ⟨by kernel_rfl, ?_⟩) hS0 ?_
      rotate_left
      · intro w' hw'; have e0 := hw'.1; have e1 := hw'.2; clear hw'; go_simp; try with_reducible rfl
      try simp only [Act.put, List.setIfInBounds_toArray, List.set_cons_zero, List.set_cons_succ]
      refine wpAnyH_all (rs := [6]) (by kernel_rfl) (by simp) ?_
      intro i hi; simp only [List.mem_cons, List.not_mem_nil, or_false] at hi
      subst hi
      refine wpOp_step rfl (fun K hK => ?_)
      go_simp
      with_reducible refine (HA.out W0).mono ?_
      rintro e v1 ⟨rfl, hB1⟩
      replace sP := sP.below hB1 sP.1
      replace sS := sS.below hB1 sS.1
      replace bR := bR.trans (hB1.mono bR.size)
      have hS1 : (fun W' : World => W'.cell? ⟨b, k * 2, none⟩ = some (.int .i64 p) ∧ W'.cell? ⟨b, k * 2 + 1, none⟩ = some (.int .i64 q)) v1 := ⟨(x0f sP), (x1f sP)⟩
      refine hK _ _ ⟨hS1, ?_⟩
      try simp only [Act.put, List.setIfInBounds_toArray, List.set_cons_zero, List.set_cons_succ]
      clear hB1 hK K hS0
      refine wpAnyH_takeD (some 20) (i := 7) (v := ?_) rfl rfl (by kernel_rfl) (by kernel_rfl) (by kernel_rfl) (fun _ _ _ h => h) (.inl ⟨by kernel_rfl, ?_⟩) hS1 ?_
      rotate_left
      · intro w' hw'; go_simp; try with_reducible rfl
      try simp only [Act.put, List.setIfInBounds_toArray, List.set_cons_zero, List.set_cons_succ]
      refine wpAnyH_all (rs := [15]) (by kernel_rfl) (by simp) ?_
      intro i hi; simp only [List.mem_cons, List.not_mem_nil, or_false] at hi
      subst hi
      refine wpOp_step rfl (fun K hK => ?_)
      go_simp
      with_reducible refine (HD.out v1 sS).mono ?_
      rintro e v2 ⟨rfl, hB2⟩
      replace sP := sP.below hB2 sP.1
      replace sS := sS.below hB2 sS.1
      replace bR := bR.trans (hB2.mono bR.size)
      have hS2 : (fun W' : World => W'.cell? ⟨b, k * 2, none⟩ = some (.int .i64 p) ∧ W'.cell? ⟨b, k * 2 + 1, none⟩ = some (.int .i64 q)) v2 := ⟨(x0f sP), (x1f sP)⟩
      refine hK _ _ ⟨hS2, ?_⟩
      try simp only [Act.put, List.setIfInBounds_toArray, List.set_cons_zero, List.set_cons_succ]
      clear hB2 hK K hS1
      refine wpAnyH_all (rs := [16]) (by kernel_rfl) (by simp) ?_
      intro i hi; simp only [List.mem_cons, List.not_mem_nil, or_false] at hi
      subst hi
      refine wpOp_step rfl (fun K hK => ?_)
      go_simp
      with_reducible refine (HT.out v2 sS).mono ?_
      rintro e v3 ⟨rfl, hB3⟩
      replace sP := sP.below hB3 sP.1
      replace sS := sS.below hB3 sS.1
      replace bR := bR.trans (hB3.mono bR.size)
      have hS3 : (fun W' : World => W'.cell? ⟨b, k * 2, none⟩ = some (.int .i64 p) ∧ W'.cell? ⟨b, k * 2 + 1, none⟩ = some (.int .i64 q)) v3 := ⟨(x0f sP), (x1f sP)⟩
      refine hK _ _ ⟨hS3, ?_⟩
      try simp only [Act.put, List.setIfInBounds_toArray, List.set_cons_zero, List.set_cons_succ]
      clear hB3 hK K hS2
      refine wpAnyH_takeD (some 30) (i := 17) (v := ?_) rfl rfl (by kernel_rfl) (by kernel_rfl) (by kernel_rfl) (fun _ _ _ h => h) (.inl ⟨by kernel_rfl, ?_⟩) hS3 ?_
      rotate_left
      · intro w' hw'; go_simp; try with_reducible rfl
      try simp only [Act.put, List.setIfInBounds_toArray, List.set_cons_zero, List.set_cons_succ]
      refine wpAnyH_takeD (some 31) (i := 18) (v := ?_) rfl rfl (by kernel_rfl) (by kernel_rfl) (by kernel_rfl) (fun _ _ _ h => h) (.inl ⟨by kernel_rfl, ?_⟩) hS3 ?_
      rotate_left
      · intro w' hw'; go_simp; try with_reducible rfl
      try simp only [Act.put, List.setIfInBounds_toArray, List.set_cons_zero, List.set_cons_succ]
      refine wpAnyH_takeD (some 32) (i := 19) (v := ?_) rfl rfl (by kernel_rfl) (by kernel_rfl) (by kernel_rfl) (fun _ _ _ h => h) (.inl ⟨by kernel_rfl, ?_⟩) hS3 ?_
      rotate_left
      · intro w' hw'; go_simp; try with_reducible rfl
      try simp only [Act.put, List.setIfInBounds_toArray, List.set_cons_zero, List.set_cons_succ]
      refine wpAnyH_takeD (some 5) (i := 20) (v := ?_) rfl rfl (by kernel_rfl) (by kernel_rfl) (by kernel_rfl) (fun _ _ _ h => h) (.inl ⟨by kernel_rfl, ?_⟩) hS3 ?_
      rotate_left
      · intro w' hw'; go_simp; try with_reducible rfl
      try simp only [Act.put, List.setIfInBounds_toArray, List.set_cons_zero, List.set_cons_succ]
      refine wpAnyH_done (by kernel_rfl) ?_ _
      have bX := hid (bW0.trans (bR.mono bW0.size))
      have sX := hid sP
      have sY := hid sS
      clear sP sS bW0 bR hB
      go_wp2_with fail
      go_roundw
      case rel => exact ⟨k + 1, by omega, by go_num, HFIN.out, sX.out, sY.out, bX.out⟩
      case measure => simp [intOf] <;> omega
    · obtain rfl : k = n := by omega
      have k1 : ¬ (k : Int) < (k : Int) := by omega
      clear sP sS
      go_wp2_with fail
      go_ret
      exact ⟨rfl, hB⟩
theorem specLGT_any (bS nS capS : Nat) (zs : List Int) (hnS : nS = zs.length) (b n cap : Nat) (js : List (Int × Int)) (hn : n = js.length) (w : World) (hS : Stk w bS zs) (hR : Rst w b js) :
    Calls Tryd.prog 13 #[.slice (some ⟨bS, 0, none⟩) nS capS, .slice (some ⟨b, 0, none⟩) n cap] w fun e w' => e = .returned (.string ⟨(lgR zs js).toArray⟩) ∧ Below w.heap.size w w' := by
  have HV := hid (l04Ok_any bS nS capS zs hnS b n cap js hn w hS hR)
  cases hv : okG zs js with
  | false =>
    rw [lgR_no hv]
    rw [hv] at HV
    clear hv hR hS hn hnS
    go_enter Tryd.func13, Tryd.ntmps13
    go_wp2_with (go_at_call 38; refine HV.out.mono ?_; rintro e w1 ⟨rfl, hB1⟩)
    go_ret
    exact ⟨rfl, hB1⟩
  | true =>
    have HT := hid (fun w1 (hB : Below w.heap.size w w1) => l04Text_any bS nS capS zs hnS b n cap js hn w1 (hS.below hB hS.1) (hR.below hB hR.1) hv)
    rw [lgR_yes hv]
    rw [hv] at HV
    obtain ⟨T, hT⟩ : ∃ T, lgA zs js js.length = T := ⟨_, rfl⟩
    rw [hT] at HT ⊢
    clear hv hR hn hT hS hnS
    go_enter Tryd.func13, Tryd.ntmps13
    go_wp2_with (first | (go_at_call 38; refine HV.out.mono ?_; rintro e w1 ⟨rfl, hB1⟩; have HTW := hid (HT.out _ hB1)) | (go_at_call 39; refine HTW.out.mono ?_; rintro e w2 ⟨rfl, hB2⟩))
    go_ret
    exact ⟨rfl, hB1.trans (hB2.mono hB1.size)⟩
end Go.Proofs.YtocaogkbnlicjaaDoor
