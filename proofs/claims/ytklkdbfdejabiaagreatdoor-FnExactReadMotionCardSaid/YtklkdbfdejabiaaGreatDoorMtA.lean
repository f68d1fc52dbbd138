/- MotionText. -/
import Derived.Test.YtklkdbfdejabiaaGreatDoorMoOk
import Derived.Test.YtklkdbfdejabiaaGreatDoorBui
import Derived.Test.YtklkdbfdejabiaaGreatDoorTxF
namespace Go.Proofs.YtklkdbfdejabiaaGreatDoor
open Go.RowKit Go.Shelf
set_option linter.unusedVariables false
set_option linter.unusedSimpArgs false
def mtW (k f : Int) : List UInt8 := if k = 0 then [101, 118, 101, 110] else [108, 97, 116, 101] ++ Lib.itoa f
def mtP (js : List (Int × Int)) (k : Nat) : List UInt8 := mtW (jk js k) (jf js k)
def mtL (zs : List Int) (js : List (Int × Int)) (k : Nat) : List ByteArray := ⟨(txS zs).toArray⟩ :: (List.range k).map fun j => ⟨(mtP js j).toArray⟩
def mtA (zs : List Int) (js : List (Int × Int)) (k : Nat) : List UInt8 := Lib.join (txS zs :: (List.range k).map (mtP js)) [32]
def mtR (zs : List Int) (js : List (Int × Int)) : List UInt8 := if okM zs js then mtA zs js js.length else []
theorem mtR_no {zs : List Int} {js : List (Int × Int)} (h : okM zs js = false) : mtR zs js = [] := by simp [mtR, h]
theorem mtR_yes {zs : List Int} {js : List (Int × Int)} (h : okM zs js = true) : mtR zs js = mtA zs js js.length := by simp [mtR, h]
theorem mtL_len (zs : List Int) (js : List (Int × Int)) (k : Nat) : (mtL zs js k).length = 1 + k := by simp [mtL]; omega
theorem mtL_zero (zs : List Int) (js : List (Int × Int)) : (mtL zs js 0).map Value.string = [.string ⟨(txS zs).toArray⟩] := rfl
theorem mtL_succ (zs : List Int) (js : List (Int × Int)) (k : Nat) : (mtL zs js (k + 1)).map Value.string = (mtL zs js k).map Value.string ++ [.string ⟨(mtP js k).toArray⟩] := by simp [mtL, List.range_succ]
theorem mtL_join (zs : List Int) (js : List (Int × Int)) (k : Nat) : Lib.join ((mtL zs js k).map (·.data.toList)) [32] = mtA zs js k := by
  unfold mtA mtL
  congr 1
  simp [Function.comp_def]
theorem join_snocM (sep x : List UInt8) (l : List (List UInt8)) (h : l ≠ []) : Lib.join (l ++ [x]) sep = Lib.join l sep ++ sep ++ x := by
  rw [join_snoc]
  cases l with
  | nil => exact absurd rfl h
  | cons y r =>
    have e := shift_sep sep r
    rw [Lib.join_cons, Lib.joinTail, List.append_assoc y, e]
    simp
theorem mtA_zero (zs : List Int) (js : List (Int × Int)) : mtA zs js 0 = txS zs := by
  unfold mtA
  rw [show (List.range 0).map (mtP js) = [] from rfl, Lib.join_one]
theorem mtA_succ (zs : List Int) (js : List (Int × Int)) (k : Nat) : mtA zs js (k + 1) = mtA zs js k ++ [32] ++ mtP js k := by
  unfold mtA
  rw [List.range_succ, List.map_append, List.map_cons, List.map_nil, ← List.cons_append, join_snocM _ _ _ (by simp)]
theorem txS_len {zs : List Int} (h : okL zs = true) : (txS zs).length ≤ 100 := by
  rw [txS_yes h]
  obtain ⟨h1n, h8, hin, _, _⟩ := okL_out h
  have := txT_len zs (fun _ => 1) 4 (fun k hk => by
    have a := hin k hk
    unfold txP
    rw [padZ_len]
    obtain ⟨n, hn⟩ : ∃ n : Nat, ug zs k = (n : Int) := ⟨(ug zs k).toNat, by unfold ug; omega⟩
    have q : (Lib.itoa (ug zs k)).length ≤ 4 := by
      rw [hn, itoa_nat]
      exact dec_len 3 n (by unfold ug at hn; omega)
    show max 1 (Lib.itoa (ug zs k)).length ≤ 4
    omega)
  omega
theorem mtW_len {k f : Int} (h : okJ k f = true) : (mtW k f).length ≤ 20 := by
  unfold mtW
  split
  · simp
  · rcases okJ_out h with ⟨a, b⟩ | ⟨a, b, c⟩
    · exact absurd a (by assumption)
    · have := itoa_bigO f (by omega)
      simp
      omega
theorem mtA_len (zs : List Int) (js : List (Int × Int)) (hv : okL zs = true) (hj : okJTo js js.length) : ∀ k, k ≤ js.length → (mtA zs js k).length ≤ 100 + 21 * k
  | 0, _ => by rw [mtA_zero]; have := txS_len hv; omega
  | k + 1, hk => by
    have a := mtA_len zs js hv hj k (by omega)
    have b := mtW_len (hj k (by omega))
    rw [mtA_succ]
    simp only [List.length_append, List.length_cons, List.length_nil]
    unfold mtP
    omega
theorem carryM_late (f : Int) (w : World) (hf : 0 ≤ f ∧ f < 1000) : Calls Tryz.prog 35 #[.agg #[.int .i8 1, .int .i16 f]] w fun e w' => e = .returned (.iface 87 (.agg #[.int .i64 f])) ∧ Below w.heap.size w w' := by
  obtain ⟨h1, h2⟩ := hf
  have wf : IntKind.i64.wrap f = f := IntWalk.i64_in f (by omega)
  go_enter Tryz.func35, Tryz.ntmps35
  go_wp2_with fail
  go_ret
  exact ⟨rfl, (Below.refl _ _).alloc (Nat.le_refl _) _⟩
theorem carryM_even (f : Int) (w : World) : Calls Tryz.prog 35 #[.agg #[.int .i8 0, .int .i16 f]] w fun e w' => e = .returned (.iface 85 (.agg #[])) ∧ Below w.heap.size w w' := by
  go_enter Tryz.func35, Tryz.ntmps35
  go_wp2_with fail
  go_ret
  exact ⟨rfl, (Below.refl _ _).alloc (Nat.le_refl _) _⟩
theorem ctext_even (w : World) : Calls Tryz.prog 34 #[.iface 85 (.agg #[])] w fun e w' => e = .returned (.string ⟨#[101, 118, 101, 110]⟩) ∧ Below w.heap.size w w' := by
  have ta : ∀ w, (Instr.typeAssert (.iface 85 (.agg #[])) 68 85 true).run Tryz.prog w = .ok (.tuple #[.agg #[], .bool true]) w := fun _ => by kernel_rfl
  go_enter Tryz.func34, Tryz.ntmps34
  go_wp2_with fail
  go_ret
  exact ⟨rfl, (Below.refl _ _).alloc (Nat.le_refl _) _⟩
theorem app_late (A : List UInt8) : (⟨#[108, 97, 116, 101]⟩ : ByteArray) ++ ⟨A.toArray⟩ = ⟨([108, 97, 116, 101] ++ A).toArray⟩ := by
  rw [show (⟨#[108, 97, 116, 101]⟩ : ByteArray) = ⟨([108, 97, 116, 101] : List UInt8).toArray⟩ from rfl, app_mk]
theorem ctext_late (f : Int) (hf : 0 ≤ f ∧ f < 1000) (w : World) (ht : Lib.TabIs Tryz.prog w "internal/strconv.uint64pow10" .u64 Lib.pow10Tab) (hg : 5 < w.heap.size) : Calls Tryz.prog 34 #[.iface 87 (.agg #[.int .i64 f])] w fun e w' => e = .returned (.string ⟨([108, 97, 116, 101] ++ Lib.itoa f).toArray⟩) ∧ Below w.heap.size w w' := by
  have ta : ∀ w, (Instr.typeAssert (.iface 87 (.agg #[.int .i64 f])) 68 85 true).run Tryz.prog w = .ok (.tuple #[.agg #[], .bool false]) w := fun _ => by kernel_rfl
  have tb : ∀ w, (Instr.typeAssert (.iface 87 (.agg #[.int .i64 f])) 68 87 true).run Tryz.prog w = .ok (.tuple #[.agg #[.int .i64 f], .bool true]) w := fun _ => by kernel_rfl
  have bB : Below w.heap.size w (w.alloc (.cells #[.int .i64 f] 87)) := (Below.refl _ _).alloc (Nat.le_refl _) _
  have HD := hid (dec_i64O f (by omega) _ (tab_belowO ht bB hg))
  have l1 := itoa_bigO f (by omega)
  rw [← app_late]
  obtain ⟨A, hA⟩ : ∃ y, Lib.itoa f = y := ⟨_, rfl⟩
  rw [hA] at HD l1 ⊢
  have s1 : ¬ (9223372036854775807 < 4 + A.length) := by omega
  have BB := hid bB
  clear hA l1 ht hg bB
  go_enter Tryz.func34, Tryz.ntmps34
  go_wp2_with fail
  refine HD.out.mono ?_
  rintro e w1 ⟨rfl, hB1⟩
  go_wp2_with fail
  go_ret
  exact ⟨rfl, BB.out.trans (hB1.mono BB.out.size)⟩
/-- a valid joint: what carries, and its text -/
theorem joint_text (k f : Int) (h : okJ k f = true) : ∃ V, (∀ W, Calls Tryz.prog 35 #[.agg #[.int .i8 k, .int .i16 f]] W fun e w' => e = .returned V ∧ Below W.heap.size W w') ∧
    (∀ W, Lib.TabIs Tryz.prog W "internal/strconv.uint64pow10" .u64 Lib.pow10Tab → 5 < W.heap.size → Calls Tryz.prog 34 #[V] W fun e w' => e = .returned (.string ⟨(mtW k f).toArray⟩) ∧ Below W.heap.size W w') := by
  rcases okJ_out h with ⟨rfl, rfl⟩ | ⟨rfl, hf⟩
  · exact ⟨_, fun W => carryM_even 0 W, fun W _ _ => ctext_even W⟩
  · exact ⟨_, fun W => carryM_late f W hf, fun W t g => ctext_late f hf W t g⟩
set_option maxRecDepth 100000 in
set_option maxHeartbeats 4000000 in
theorem implMTT_any (b n cap g m cap' : Nat) (zs : List Int) (js : List (Int × Int)) (w : World) (hS : Stk w b zs) (hJ : Jst w g js) (hn : n = zs.length) (hm : m = js.length) (ht : Lib.TabIs Tryz.prog w "internal/strconv.uint64pow10" .u64 Lib.pow10Tab) (hg : 5 < w.heap.size) :
    Calls Tryz.prog 16 #[.agg #[.slice (some ⟨b, 0, none⟩) n cap, .slice (some ⟨g, 0, none⟩) m cap']] w fun e w' => e = .returned (.string ⟨(mtR zs js).toArray⟩) ∧ Below w.heap.size w w' := by
  obtain ⟨i0, hi, iz0, iz1, iz2⟩ := info_parts Tryz.infoStr
  obtain ⟨V, hV⟩ : ∃ V, V = w.alloc (.cells #[.slice (some ⟨b, 0, none⟩) n cap, .slice (some ⟨g, 0, none⟩) m cap'] 26) := ⟨_, rfl⟩
  have bV : Below w.heap.size w V := by rw [hV]; exact (Below.refl _ _).alloc (Nat.le_refl _) _
  have sV : V.heap.size = w.heap.size + 1 := by rw [hV]; simp
  have rV : Row V w.heap.size 26 [.slice (some ⟨b, 0, none⟩) n cap, .slice (some ⟨g, 0, none⟩) m cap'] := by rw [hV]; exact Row.new w _ _
  have hSV := hS.below bV hS.1
  have hJV := hJ.below bV hJ.1
  have HV := hid (implValidMotion_any b n cap g m cap' zs js V hSV hJV hn hm)
  have HST := hid (fun w1 (hB : Below V.heap.size V w1) t gg => implST_any b n cap zs w1 (hSV.below hB hSV.1) hn t gg)
  have HJ := hid hJV; have HM := hid hm; have HN := hid hn; have RV := hid rV; have BV := hid bV; have HW := hid hV; have HTV := hid (tab_belowO ht bV hg); have HG0 := hid hg
  have c0 := rV.cell 0; have c1 := rV.cell 1
  simp only [List.getElem?_cons_zero, List.getElem?_cons_succ] at c0 c1
  rw [hV] at c0 c1
  clear hS hJ ht hg hSV hJV hV bV rV
  cases hv : okM zs js with
  | false =>
    rw [mtR_no hv]
    rw [hv] at HV
    clear hv hm hn
    go_enter Tryz.func16, Tryz.ntmps16
    go_wp2_with (go_at_call 33; rw [← HW.out]; refine HV.out.mono ?_; rintro e w1 ⟨rfl, hB1⟩)
    go_ret
    exact ⟨rfl, BV.out.trans (hB1.mono BV.out.size)⟩
  | true =>
    obtain ⟨hL, hlen, hjs⟩ := okM_out hv
    have HJO := hid (fun k hk => okJs_out hjs k hk)
    have HLEN := hid (mtA_len zs js hL (fun j hj => okJs_out hjs j hj))
    have h8 := (okL_out hL).2.1
    rw [mtR_yes hv, ← hm]
    rw [hv] at HV
    have hm8 : m ≤ 8 := by omega
    clear hv hm hn hjs hL hlen h8
    go_enter Tryz.func16, Tryz.ntmps16
    go_wp2_with fail
    rw [← HW.out]
    refine HV.out.mono ?_
    rintro e w1 ⟨rfl, hB1⟩
    have B1 := hid hB1
    have hz1 := hB1.size
    have q1 := RV.out.below hB1 RV.out.lt
    have R1 := hid q1
    have HT1 := hid (tab_belowO HTV.out hB1 (by have := HG0.out; omega))
    have HST1 := hid (HST.out w1 hB1 HT1.out (by have := HG0.out; omega))
    replace c0 := q1.cell 0; replace c1 := q1.cell 1
    simp only [List.getElem?_cons_zero, List.getElem?_cons_succ] at c0 c1
    clear hB1 q1
    go_wp2_with fail
    refine HST1.out.mono ?_
    rintro e w2 ⟨rfl, hB2⟩
    have hz2 := hB2.size
    have B2 := hid (B1.out.trans (hB2.mono hz1))
    have HT2 := hid (tab_belowO HT1.out hB2 (by have := HG0.out; omega))
    have q2 := R1.out.below hB2 R1.out.lt
    have HP2 := hid (HJ.out.below B2.out HJ.out.1)
    obtain ⟨T, hT⟩ : ∃ y : ByteArray, ⟨(txS zs).toArray⟩ = y := ⟨_, rfl⟩
    rw [hT]
    have o2 := World.ownsRow_lit (base := w2.heap.size) (e := 9) (size := 1) w2 #[.string T] 1 (Nat.le_refl _) (by unfold maxLen; omega) rfl
    have b2 : Below w2.heap.size w2 (w2.alloc (.cells #[.string T] 9)) := (Below.refl _ _).alloc (Nat.le_refl _) _
    have q3 := q2.below b2 q2.lt
    replace c0 := q3.cell 0; replace c1 := q3.cell 1
    simp only [List.getElem?_cons_zero, List.getElem?_cons_succ] at c0 c1
    have O2 := hid o2
    have BB2 := hid b2
    have HTT := hid hT
    clear hB2 o2 b2 q2 q3 hT
    go_wp2_with fail
    go_loopw [3, 16] (fun v i wr => ∃ k : Nat, k ≤ m ∧ i = .int .i64 k ∧ wr.ownsRow w2.heap.size 9 1 v (1 + k) ((mtL zs js k).map Value.string) ∧ Below w2.heap.size w2 wr) (fun _ i _ => m - (intOf i).toNat)
    case atStart => exact ⟨0, by omega, rfl, by rw [mtL_zero, HTT.out]; exact O2.out, BB2.out⟩
    case round =>
      obtain ⟨k, hk, rfl, hown, hB⟩ := hrel
      have hzr := hB.size
      by_cases hkn : k < m
      · have sP := HP2.out.below hB HP2.out.1
        have hkl : k < js.length := by have := HM.out; omega
        obtain ⟨x0, x1⟩ := sP.2.1 k hkl
        obtain ⟨VV, HA0, HC0⟩ := joint_text (jk js k) (jf js k) (HJO.out k hkl)
        have HSN0 := mtL_succ zs js k
        unfold mtP at HSN0
        obtain ⟨p, hp⟩ : ∃ y, jk js k = y := ⟨_, rfl⟩
        obtain ⟨q, hq⟩ : ∃ y, jf js k = y := ⟨_, rfl⟩
        rw [hp] at x0 HA0 HC0 HSN0
        rw [hq] at x1 HA0 HC0 HSN0
        obtain ⟨C, hC⟩ : ∃ y : ByteArray, ⟨(mtW p q).toArray⟩ = y := ⟨_, rfl⟩
        rw [hC] at HC0 HSN0
        have HA := hid HA0; have HC := hid HC0; have HSN := hid HSN0
        have k0 : (0 : Int) ≤ (k : Int) := by omega
        have k1 : (k : Int) < (m : Int) := by omega
        have w1' : IntKind.i64.wrap ((k : Int) + 1) = (k : Int) + 1 := IntWalk.i64_in _ (by omega)
        have HO := hid (hown.alloc (.cells #[.int .i8 p, .int .i16 q] 39))
        have HBX := hid (show Below w2.heap.size w2 (wr.alloc (.cells #[.int .i8 p, .int .i16 q] 39)) from hB.alloc hB.size _)
        clear hp hq hC HSN0 HA0 HC0 hown hB sP
        go_wp2_with fail
        clear x0 x1
        refine (HA.out _).mono ?_
        rintro e w3 ⟨rfl, hB3⟩
        have HO3 := hid (owns_belowP HO.out hB3)
        have HX3 := hid (HBX.out.trans (hB3.mono HBX.out.size))
        have HT3 := hid (tab_belowO HT2.out HX3.out (by have := HG0.out; omega))
        clear hB3
        go_wp2_with fail
        refine (HC.out w3 HT3.out (by have := HG0.out; have := HX3.out.size; omega)).mono ?_
        rintro e w4 ⟨rfl, hB4⟩
        have HO4 := hid ((owns_belowP HO3.out hB4).alloc (.cells #[.string C] 9))
        have b4 := HX3.out.trans (hB4.mono HX3.out.size)
        have HX4 := hid (b4.alloc b4.size (.cells #[.string C] 9))
        have nr := Row.new w4 9 [.string C]
        have nc := nr.cell 0
        simp only [List.getElem?_cons_zero] at nc
        clear hB4 b4 nr
        go_upto_region 8 with (at_builtin; refine wpList_append_own _ rfl _ _ 32 rfl w2.heap.size 9 i0 (.string ⟨#[]⟩) 1 16 Tryz.underlying32 hi iz0 iz1 iz2 rfl (by decide) _ _ _ rfl HO4.out ⟨w4.heap.size, 0, none⟩ 1 1 [.string C] rfl rfl (by intro j u hj; match j, hj with | 0, hj => simp at hj; subst hj; simp [Addr.add, nc]) (by intro u hu; simp at hu; subst hu; rfl) (by unfold maxLen; omega) (by omega) (by have := HX4.out.size; exact this) ?_; rintro v' w5 hown' hgrow -)
        have hg2 : (w4.alloc (.cells #[.string C] 9)).grownBy w5 _ := hgrow
        have HB2 := hid (HX4.out.grown hg2 (by simp; have := HX4.out.size; simp at this; omega) (fun k e => by have := (HO4.out.lt k e).1; omega))
        have hown2 := hid (show w5.ownsRow w2.heap.size 9 1 v' (1 + (k + 1)) ((mtL zs js (k + 1)).map Value.string) by rw [HSN.out]; exact hown')
        clear hown' hgrow hg2 nc HO4 HX4
        go_wp2_with fail
        go_roundw
        case rel => exact ⟨k + 1, by omega, by go_num, hown2.out, HB2.out⟩
        case measure => simp [intOf]; omega
      · obtain rfl : k = m := by omega
        have k1 : ¬ (k : Int) < (k : Int) := by omega
        rcases hown.2 with h90 | ⟨g', gcap, cur, rfl, h92, h93, h94⟩
        · exact absurd h90.2 (by omega)
        have HJN := hid (Tryz.strings_Join g' 0 gcap (mtL zs js k) ⟨#[32]⟩ wr (own_cells hown) (lt_of_block h93) (by rw [mtL_len]; omega) (by rw [mtL_len]; exact own_cap hown) (by rw [show (⟨#[32]⟩ : ByteArray).data.toList = [32] from rfl, mtL_join]; have := HLEN.out k (by have := HM.out; omega); omega))
        rw [mtL_len, show (⟨#[32]⟩ : ByteArray).data.toList = [32] from rfl, mtL_join] at HJN
        have BB := hid hB
        clear hown h92 h93 h94 hB
        go_wp2_with (go_at_call 36; refine HJN.out.mono ?_; rintro e w9 ⟨rfl, hB9⟩)
        go_ret
        exact ⟨rfl, BV.out.trans ((B2.out.trans ((BB.out.trans (hB9.mono hzr)).mono (by omega))).mono BV.out.size)⟩
theorem app_sev (L : List UInt8) (f : Int) : (⟨L.toArray⟩ : ByteArray) ++ ⟨#[32, 101, 118, 101, 110]⟩ = ⟨(L ++ [32] ++ mtW 0 f).toArray⟩ := by
  rw [show (⟨#[32, 101, 118, 101, 110]⟩ : ByteArray) = ⟨([32, 101, 118, 101, 110] : List UInt8).toArray⟩ from rfl, app_mk]
  congr 2
  simp [mtW]
theorem app_slt (L : List UInt8) (f : Int) : (⟨L.toArray⟩ : ByteArray) ++ ((⟨#[32, 108, 97, 116, 101]⟩ : ByteArray) ++ ⟨(Lib.itoa f).toArray⟩) = ⟨(L ++ [32] ++ mtW 1 f).toArray⟩ := by
  rw [show (⟨#[32, 108, 97, 116, 101]⟩ : ByteArray) = ⟨([32, 108, 97, 116, 101] : List UInt8).toArray⟩ from rfl, app_mk, app_mk]
  congr 2
  simp [mtW]
end Go.Proofs.YtklkdbfdejabiaaGreatDoor
