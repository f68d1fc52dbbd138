/- TotalsText. -/
import Derived.Test.YtkdndejfdlbcbaaDoorTxG
import Derived.Test.YtkdndejfdlbcbaaDoorTotV
import Derived.Shelf.Strings.BuilderK
namespace Go.Proofs.YtkdndejfdlbcbaaDoor
open Go.RowKit Go.Shelf
set_option linter.unusedVariables false
set_option linter.unusedSimpArgs false
theorem laysW : Lays.n166 Tryd.prog Tryd.lays156_ren := { Tryd.lays156 with }
theorem laysS : Lays.n169 Tryd.prog Tryd.lays156_ren := { Tryd.lays156 with }
theorem tab_belowO {W W' : World} {B : Nat} (h : Lib.TabIs Tryd.prog W "internal/strconv.uint64pow10" .u64 Lib.pow10Tab) (hb : Below B W W') (hB : 0 < B) : Lib.TabIs Tryd.prog W' "internal/strconv.uint64pow10" .u64 Lib.pow10Tab := var?_below hb (by kernel_rfl) hB h
theorem dec_bigO (z : Int) (h : 0 ≤ z ∧ z ≤ 1000000000000) (w : World) : Calls Tryd.prog 44 #[.int .i64 z] w fun e w' => e = .returned (.string ⟨(Lib.itoa z).toArray⟩) ∧ Below w.heap.size w w' := by
  obtain ⟨n, rfl⟩ : ∃ n : Nat, z = (n : Int) := ⟨z.toNat, by omega⟩
  rw [itoa_nat]
  exact dec_any 13 (by omega) n (by omega) w
theorem itoa_bigO (z : Int) (h : 0 ≤ z ∧ z ≤ 1000000000000) : (Lib.itoa z).length ≤ 14 := by
  obtain ⟨n, rfl⟩ : ∃ n : Nat, z = (n : Int) := ⟨z.toNat, by omega⟩
  rw [itoa_nat]
  exact dec_len 13 n (by omega)
theorem pad1O (z : Int) (h : 0 ≤ z) : padZ 1 (Lib.itoa z) = Lib.itoa z := by
  have e : ∀ l : List UInt8, 1 ≤ l.length → padZ 1 l = l := fun l hl => by rw [padZ, Nat.sub_eq_zero_of_le hl]; rfl
  apply e
  obtain ⟨m, rfl⟩ : ∃ m : Nat, z = (m : Int) := ⟨z.toNat, by omega⟩
  rw [itoa_nat, Lib.decDigits]
  split <;> simp
theorem dec_i64O (z : Int) (h : 0 ≤ z ∧ z ≤ 1000000000000) (w : World) (ht : Lib.TabIs Tryd.prog w "internal/strconv.uint64pow10" .u64 Lib.pow10Tab) : Calls Tryd.prog 33 #[.int .i64 z, .int .i64 1] w fun e w' => e = .returned (.string ⟨(Lib.itoa z).toArray⟩) ∧ Below w.heap.size w w' := by
  have := decimal64_any z (by omega) 1 (by omega) (by have := itoa_bigO z h; omega) w (fmt_tab z (by omega) (by omega) w ht)
  rw [pad1O z h.1] at this
  exact this
def toP (js : List (Int × Int)) (k : Nat) : List UInt8 := Lib.itoa (rd js k) ++ [32] ++ Lib.itoa (rv js k) ++ [10]
def toA (js : List (Int × Int)) (k : Nat) : List UInt8 := ((List.range k).map (toP js)).flatten
theorem toA_zero (js : List (Int × Int)) : toA js 0 = [] := rfl
theorem toA_succ (js : List (Int × Int)) (k : Nat) : toA js (k + 1) = toA js k ++ toP js k := by simp [toA, List.range_succ]
def toR (js : List (Int × Int)) : List UInt8 := if okTs js then toA js js.length else []
theorem toR_no {js : List (Int × Int)} (h : okTs js = false) : toR js = [] := by simp [toR, h]
theorem toR_yes {js : List (Int × Int)} (h : okTs js = true) : toR js = toA js js.length := by simp [toR, h]
theorem okTs_bd {js : List (Int × Int)} (h : okTs js = true) : js.length ≤ 60 ∧ ∀ k, k < js.length → (0 ≤ rd js k ∧ rd js k ≤ 100000) ∧ 0 ≤ rv js k ∧ rv js k ≤ 1000000000000 := by
  simp only [okTs, Bool.and_eq_true, decide_eq_true_eq, List.all_eq_true, List.mem_range] at h
  refine ⟨h.1, fun k hk => ?_⟩
  have := h.2.1 k hk
  simp only [okTd, decide_eq_true_eq] at this
  omega
theorem toA_len (js : List (Int × Int)) (h : ∀ k, k < js.length → (0 ≤ rd js k ∧ rd js k ≤ 100000) ∧ 0 ≤ rv js k ∧ rv js k ≤ 1000000000000) : ∀ k, k ≤ js.length → (toA js k).length ≤ 40 * k
  | 0, _ => by simp [toA]
  | k + 1, hk => by
    have a := toA_len js h k (by omega)
    have b := h k (by omega)
    have p := itoa_bigO (rd js k) (by omega); have q := itoa_bigO (rv js k) (by omega)
    rw [toA_succ]
    simp [toP]
    omega
theorem app4 (A C : List UInt8) : (⟨A.toArray⟩ : ByteArray) ++ ⟨#[32]⟩ ++ ⟨C.toArray⟩ ++ ⟨#[10]⟩ = ⟨(A ++ [32] ++ C ++ [10]).toArray⟩ := by
  rw [show (⟨#[32]⟩ : ByteArray) = ⟨([32] : List UInt8).toArray⟩ from rfl, show (⟨#[10]⟩ : ByteArray) = ⟨([10] : List UInt8).toArray⟩ from rfl, app_mk, app_mk, app_mk]
theorem byte_app (a b : List UInt8) : Lib.byteCells a ++ Lib.strCells ⟨b.toArray⟩ = Lib.byteCells (a ++ b) := by simp [Lib.byteCells, Lib.strCells]
/-- a builder in memory of its own holds these bytes -/
def BuS (w : World) (b : Nat) (l : List UInt8) : Prop := b < w.heap.size ∧ Lib.IsBuilderF 68 5 b b (Lib.byteCells l) w
theorem BuS.below {w w' : World} {b : Nat} {l : List UInt8} (h : BuS w b l) (hb : Below w.heap.size w w') (_ : b < w.heap.size) : BuS w' b l := by
  refine ⟨Nat.lt_of_lt_of_le h.1 hb.size, ?_⟩
  have key : ∀ p, Lib.BuilderAtF 68 5 b b p (Lib.byteCells l) w → Lib.BuilderAtF 68 5 b b p (Lib.byteCells l) w' := fun p hp => by
    obtain ⟨hB, v, hbk, hown, hne⟩ := hp
    refine ⟨hB, v, (hb.block b h.1).trans hbk, ⟨hown.1, ?_⟩, hne⟩
    rcases hown.2 with h0 | ⟨g, cap, cur, fz, hv, h2, h3, h4⟩
    · exact .inl h0
    · exact .inr ⟨g, cap, cur, fz, hv, h2, (hb.block g (lt_of_block h3)).trans h3, h4⟩
  exact h.2.elim (fun x => .inl (key _ x)) (fun x => .inr (key _ x))
theorem BuS.new (w : World) : BuS (w.alloc (.cells #[.pointer none, .slice none 0 0] 68)) w.heap.size [] := by
  refine ⟨by simp, Lib.IsBuilderF.of (.inl ⟨Nat.le_refl _, .slice none 0 0, heap_alloc_new w _, ⟨rfl, .inl ⟨rfl, rfl⟩⟩, by simp [Value.ownBlock]⟩)⟩
theorem write_any (b : Nat) (l s : List UInt8) (w : World) (h : BuS w b l) (hl : l.length + s.length ≤ 100000) :
    Calls Tryd.prog 32 #[.pointer (some ⟨b, 0, none⟩), .string ⟨s.toArray⟩] w fun e w' => e = .returned (.tuple #[.int .i64 s.length, .nilIface]) ∧ BuS w' b (l ++ s) ∧ Below b w w' ∧ Lib.OthersKept 5 (some b) w w' := by
  have := Any.Builder_WriteString_k laysW Tryd.Builder_Extra_156 b b (Lib.byteCells l) ⟨s.toArray⟩ w h.2 (by simp [Lib.byteCells, ByteArray.size]; omega) (Nat.le_of_lt h.1)
  refine this.mono ?_
  rintro e w' ⟨rfl, h1, h2, h3⟩
  refine ⟨by simp [ByteArray.size], ⟨Nat.lt_of_lt_of_le h.1 h2.size, ?_⟩, h2, h3⟩
  rw [← byte_app]
  exact .inr h1
theorem bstring_any (b : Nat) (l : List UInt8) (w : World) (h : BuS w b l) :
    Calls Tryd.prog 34 #[.pointer (some ⟨b, 0, none⟩)] w fun e w' => e = .returned (.string ⟨l.toArray⟩) ∧ Below b w w' :=
  (Any.Builder_String_any_k laysS Tryd.Builder_Extra_156 b b l w h.2 (Nat.le_of_lt h.1)).mono fun e w' h => ⟨h.1, h.2.2.1⟩
theorem row_others {w w' : World} {g b : Nat} {e e' : TypeId} {xs : List Value} (h : Row w g e xs) (ho : Lib.OthersKept e' (some b) w w') (hg : g ≠ b) (he : e ≠ e') : Row w' g e xs :=
  ho g _ h (fun x => hg (Option.some.inj x)) (fun c fz x => he (by cases x; rfl))
set_option maxRecDepth 100000 in
set_option maxHeartbeats 4000000 in
theorem implTOT_any (b n cap : Nat) (js : List (Int × Int)) (w : World) (hR : Rst w b js) (hn : n = js.length) (ht : Lib.TabIs Tryd.prog w "internal/strconv.uint64pow10" .u64 Lib.pow10Tab) (hg : 0 < w.heap.size) :
    Calls Tryd.prog 14 #[.slice (some ⟨b, 0, none⟩) n cap] w fun e w' => e = .returned (.string ⟨(toR js).toArray⟩) ∧ Below w.heap.size w w' := by
  have HV := hid (implTotals_any b n cap js hn w hR)
  have HR := hid hR; have HN := hid hn; have HT0 := hid ht; have HG0 := hid hg
  clear hR ht hg
  cases hv : okTs js with
  | false =>
    rw [toR_no hv]
    rw [hv] at HV
    clear hv hn
    go_enter Tryd.func14, Tryd.ntmps14
    go_wp2_with (go_at_call 31; refine HV.out.mono ?_; rintro e w1 ⟨rfl, hB1⟩)
    go_ret
    exact ⟨rfl, hB1⟩
  | true =>
    obtain ⟨h60, hbd⟩ := okTs_bd hv
    have HLEN := hid (toA_len js hbd)
    rw [toR_yes hv, ← hn]
    rw [hv] at HV
    have HBD := hid hbd
    rw [← hn] at h60
    clear hv hbd hn
    go_enter Tryd.func14, Tryd.ntmps14
    go_wp2_with fail
    refine HV.out.mono ?_
    rintro e w1 ⟨rfl, hB1⟩
    have B1 := hid hB1
    have hz1 := hB1.size
    have HTB := hid (tab_belowO HT0.out hB1 HG0.out)
    have HG1 := hid (Nat.lt_of_lt_of_le HG0.out hz1)
    have HP := hid (HR.out.below hB1 HR.out.1)
    have HBN := hid (BuS.new w1)
    have HBW := hid (show Below w1.heap.size w1 (w1.alloc (.cells #[.pointer none, .slice none 0 0] 68)) from (Below.refl _ _).alloc (Nat.le_refl _) _)
    clear hB1
    go_wp2_with fail
    go_loopw [11] (fun i wr => ∃ k : Nat, k ≤ n ∧ i = .int .i64 k ∧ BuS wr w1.heap.size (toA js k) ∧ Below w1.heap.size w1 wr) (fun i _ => n - (intOf i).toNat)
    case atStart => exact ⟨0, by omega, rfl, HBN.out, HBW.out⟩
    case round =>
      obtain ⟨k, hk, rfl, hU, hB⟩ := hrel
      have hzr := hB.size
      by_cases hkn : k < n
      · have sP := HP.out.below hB HP.out.1
        have hkl : k < js.length := by have := HN.out; omega
        obtain ⟨⟨a1, a2⟩, b1, b2⟩ := HBD.out k hkl
        obtain ⟨x0, x1⟩ := sP.2.1 k hkl
        have HSN0 := toA_succ js k
        have lL := HLEN.out k (by omega)
        have HA := hid (fun W t => dec_i64O (rd js k) (by omega) W t)
        have HC := hid (fun W t => dec_i64O (rv js k) (by omega) W t)
        have l1 := itoa_bigO (rd js k) (by omega); have l2 := itoa_bigO (rv js k) (by omega)
        unfold toP at HSN0
        obtain ⟨p, hp⟩ : ∃ y, rd js k = y := ⟨_, rfl⟩
        obtain ⟨q, hq⟩ : ∃ y, rv js k = y := ⟨_, rfl⟩
        rw [hp] at x0 HA l1 HSN0
        rw [hq] at x1 HC l2 HSN0
        obtain ⟨A, hA⟩ : ∃ y, Lib.itoa p = y := ⟨_, rfl⟩
        obtain ⟨C, hC⟩ : ∃ y, Lib.itoa q = y := ⟨_, rfl⟩
        rw [hA] at HA l1 HSN0
        rw [hC] at HC l2 HSN0
        obtain ⟨L, hL⟩ : ∃ y, toA js k = y := ⟨_, rfl⟩
        rw [hL] at hU lL HSN0
        have HW0 := fun W h => write_any w1.heap.size L (A ++ [32] ++ C ++ [10]) W h (by simp; omega)
        rw [← app4] at HW0
        have HW := hid HW0
        have HSN := hid HSN0
        have s1 : ¬ (9223372036854775807 < A.length + 1) := by omega
        have s2 : ¬ (9223372036854775807 < A.length + 1 + C.length) := by omega
        have s3 : ¬ (9223372036854775807 < A.length + 1 + C.length + 1) := by omega
        have k0 : (0 : Int) ≤ (k : Int) := by omega
        have k1 : (k : Int) < (n : Int) := by omega
        have w1' : IntKind.i64.wrap ((k : Int) + 1) = (k : Int) + 1 := IntWalk.i64_in _ (by omega)
        have rP := Row.new wr 63 [.int .i64 p, .int .i64 q]
        have bB : Below w1.heap.size w1 (wr.alloc (.cells #[.int .i64 p, .int .i64 q] 63)) := hB.alloc hB.size _
        have hO : BuS (wr.alloc (.cells #[.int .i64 p, .int .i64 q] 63)) w1.heap.size L := hU.below ((Below.refl _ _).alloc (Nat.le_refl _) _) hU.1
        have GNE := hid (show wr.heap.size ≠ w1.heap.size from fun e => by have := hU.1; omega)
        clear hp hq hA hC HSN0 l1 l2 hU hB sP lL hL HW0
        go_wp2_with fail
        clear x0 x1
        refine wp_region_held (S := fun W' : World => Row W' wr.heap.size 63 [.int .i64 p, .int .i64 q]) (by kernel_rfl) ?_
        change wpAnyH _ _ _ _ _ _ _ _ (World.drew _)
        obtain ⟨W0, hW0⟩ : ∃ X, X = World.drew (wr.alloc (.cells #[.int .i64 p, .int .i64 q] 63)) := ⟨_, rfl⟩
        have hD0 : Below (wr.alloc (.cells #[.int .i64 p, .int .i64 q] 63)).heap.size (wr.alloc (.cells #[.int .i64 p, .int .i64 q] 63)) W0 := by rw [hW0]; exact (Below.refl _ _).drew
        replace rP := rP.below hD0 rP.lt
        replace hO := hO.below hD0 hO.1
        have bW0 := bB.trans (hD0.mono bB.size)
        have bR : Below W0.heap.size W0 W0 := Below.refl _ _
        rw [← hW0]
        clear hW0 hD0
        have l_rP := rP.lt
        have l_hO := hO.1
        have hS0 : (fun W' : World => Row W' wr.heap.size 63 [.int .i64 p, .int .i64 q]) W0 := rP
        refine wpAnyH_takeD (some 15) (i := 0) (v := ?_) rfl rfl (by kernel_rfl) (by kernel_rfl) (by kernel_rfl) (fun _ _ _ h => h) (.inl ⟨by kernel_rfl, ?_⟩) hS0 ?_
        rotate_left
        · intro w' hw'; have hrow0 := hw'; have e0x0 := Row.cell hrow0 0; have e0x1 := Row.cell hrow0 1; simp only [List.getElem?_cons_zero, List.getElem?_cons_succ] at e0x0 e0x1; clear hrow0; clear hw'; go_simp; try with_reducible rfl
        try simp only [Act.put, List.setIfInBounds_toArray, List.set_cons_zero, List.set_cons_succ]
        refine wpAnyH_takeD (some 16) (i := 1) (v := ?_) rfl rfl (by kernel_rfl) (by kernel_rfl) (by kernel_rfl) (fun _ _ _ h => h) (.inl ⟨by kernel_rfl, ?_⟩) hS0 ?_
        rotate_left
        · intro w' hw'; have hrow0 := hw'; have e0x0 := Row.cell hrow0 0; have e0x1 := Row.cell hrow0 1; simp only [List.getElem?_cons_zero, List.getElem?_cons_succ] at e0x0 e0x1; clear hrow0; clear hw'; go_simp; try with_reducible rfl
        try simp only [Act.put, List.setIfInBounds_toArray, List.set_cons_zero, List.set_cons_succ]
        refine wpAnyH_takeD (some 19) (i := 4) (v := ?_) rfl rfl (by kernel_rfl) (by kernel_rfl) (by kernel_rfl) (fun _ _ _ h => h) (.inl ⟨by kernel_rfl, ?_⟩) hS0 ?_
        rotate_left
        · intro w' hw'; have hrow0 := hw'; have e0x0 := Row.cell hrow0 0; have e0x1 := Row.cell hrow0 1; simp only [List.getElem?_cons_zero, List.getElem?_cons_succ] at e0x0 e0x1; clear hrow0; clear hw'; go_simp; try with_reducible rfl
        try simp only [Act.put, List.setIfInBounds_toArray, List.set_cons_zero, List.set_cons_succ]
        refine wpAnyH_takeD (some 20) (i := 5) (v := ?_) rfl rfl (by kernel_rfl) (by kernel_rfl) (by kernel_rfl) (fun _ _ _ h => h) (.inl ⟨by kernel_rfl, ?_⟩) hS0 ?_
        rotate_left
        · intro w' hw'; have hrow0 := hw'; have e0x0 := Row.cell hrow0 0; have e0x1 := Row.cell hrow0 1; simp only [List.getElem?_cons_zero, List.getElem?_cons_succ] at e0x0 e0x1; clear hrow0; clear hw'; go_simp; try with_reducible rfl
        try simp only [Act.put, List.setIfInBounds_toArray, List.set_cons_zero, List.set_cons_succ]
        refine wpAnyH_all (rs := [2]) (by kernel_rfl) (by simp) ?_
        intro i hi; simp only [List.mem_cons, List.not_mem_nil, or_false] at hi
        subst hi
        refine wpOp_step rfl (fun K hK => ?_)
        go_simp
        with_reducible refine (HA.out W0 (tab_belowO HTB.out (bW0.trans (bR.mono bW0.size)) HG1.out)).mono ?_
        rintro e v1 ⟨rfl, hB1⟩
        replace rP := rP.below hB1 rP.lt
        replace hO := hO.below hB1 hO.1
        replace bR := bR.trans (hB1.mono bR.size)
        have hS1 : (fun W' : World => Row W' wr.heap.size 63 [.int .i64 p, .int .i64 q]) v1 := rP
        refine hK _ _ ⟨hS1, ?_⟩
        try simp only [Act.put, List.setIfInBounds_toArray, List.set_cons_zero, List.set_cons_succ]
        clear hB1 hK K hS0
        refine wpAnyH_takeD (some 18) (i := 3) (v := ?_) rfl rfl (by kernel_rfl) (by kernel_rfl) (by kernel_rfl) (fun _ _ _ h => h) (.inl ⟨by kernel_rfl, ?_⟩) hS1 ?_
        rotate_left
        · intro w' hw'; go_simp; try with_reducible rfl
        try simp only [Act.put, List.setIfInBounds_toArray, List.set_cons_zero, List.set_cons_succ]
        refine wpAnyH_all (rs := [6]) (by kernel_rfl) (by simp) ?_
        intro i hi; simp only [List.mem_cons, List.not_mem_nil, or_false] at hi
        subst hi
        refine wpOp_step rfl (fun K hK => ?_)
        go_simp
        with_reducible refine (HC.out v1 (tab_belowO HTB.out (bW0.trans (bR.mono bW0.size)) HG1.out)).mono ?_
        rintro e v2 ⟨rfl, hB2⟩
        replace rP := rP.below hB2 rP.lt
        replace hO := hO.below hB2 hO.1
        replace bR := bR.trans (hB2.mono bR.size)
        have hS2 : (fun W' : World => Row W' wr.heap.size 63 [.int .i64 p, .int .i64 q]) v2 := rP
        refine hK _ _ ⟨hS2, ?_⟩
        try simp only [Act.put, List.setIfInBounds_toArray, List.set_cons_zero, List.set_cons_succ]
        clear hB2 hK K hS1
        refine wpAnyH_takeD (some 22) (i := 7) (v := ?_) rfl rfl (by kernel_rfl) (by kernel_rfl) (by kernel_rfl) (fun _ _ _ h => h) (.inl ⟨by kernel_rfl, ?_⟩) hS2 ?_
        rotate_left
        · intro w' hw'; go_simp; try with_reducible rfl
        try simp only [Act.put, List.setIfInBounds_toArray, List.set_cons_zero, List.set_cons_succ]
        refine wpAnyH_takeD (some 23) (i := 8) (v := ?_) rfl rfl (by kernel_rfl) (by kernel_rfl) (by kernel_rfl) (fun _ _ _ h => h) (.inl ⟨by kernel_rfl, ?_⟩) hS2 ?_
        rotate_left
        · intro w' hw'; go_simp; try with_reducible rfl
        try simp only [Act.put, List.setIfInBounds_toArray, List.set_cons_zero, List.set_cons_succ]
        refine wpAnyH_all (rs := [9]) (by kernel_rfl) (by simp) ?_
        intro i hi; simp only [List.mem_cons, List.not_mem_nil, or_false] at hi
        subst hi
        refine wpOp_step rfl (fun K hK => ?_)
        go_simp
        with_reducible refine (HW.out v2 hO).mono ?_
        rintro e w7 ⟨rfl, hU, hB7, hK7⟩
        have r7 := row_others rP hK7 GNE.out (by decide)
        have bel := hid (show Below w1.heap.size w1 w7 from (bW0.trans (bR.mono bW0.size)).trans hB7)
        have OU := hid hU
        have hS7 : (fun W' : World => Row W' wr.heap.size 63 [.int .i64 p, .int .i64 q]) w7 := r7
        refine hK _ _ ⟨hS7, ?_⟩
        try simp only [Act.put, List.setIfInBounds_toArray, List.set_cons_zero, List.set_cons_succ]
        clear hK K hU hB7 hK7 rP hO bR
        refine wpAnyH_done (by kernel_rfl) ?_ _
        go_wp2_with fail
        go_roundw
        case rel => exact ⟨k + 1, by omega, by go_num, by rw [HSN.out]; exact OU.out, bel.out⟩
        case measure => simp [intOf]; omega
      · obtain rfl : k = n := by omega
        have k1 : ¬ (k : Int) < (k : Int) := by omega
        have HJ := hid (bstring_any w1.heap.size (toA js k) wr hU)
        have BB := hid hB
        clear hU hB
        go_wp2_with (go_at_call 34; refine HJ.out.mono ?_; rintro e w9 ⟨rfl, hB9⟩)
        go_ret
        exact ⟨rfl, B1.out.trans ((BB.out.trans hB9).mono hz1)⟩
set_option maxRecDepth 100000 in
set_option maxHeartbeats 4000000 in
theorem l06Text_any (b n cap : Nat) (js : List (Int × Int)) (w : World) (hR : Rst w b js) (hn : n = js.length) (hv : okTs js = true) :
    Calls Tryd.prog 29 #[.slice (some ⟨b, 0, none⟩) n cap] w fun e w' => e = .returned (.string ⟨(toA js js.length).toArray⟩) ∧ Below w.heap.size w w' := by
  obtain ⟨h60, hbd⟩ := okTs_bd hv
  have HN := hid hn; have HS := hid hR
  have HLEN := hid (toA_len js hbd)
  rw [← hn] at h60 ⊢
  have HBD := hid hbd
  clear hR hv hbd hn
  go_enter Tryd.func29, Tryd.ntmps29
  go_wp2_with fail
  go_loopw [3, 4] (fun v i wr => ∃ k : Nat, k ≤ n ∧ i = .int .i64 k ∧ v = .string ⟨(toA js k).toArray⟩ ∧ Rst wr b js ∧ Below w.heap.size w wr) (fun _ i _ => n - (intOf i).toNat)
  case atStart => exact ⟨0, by omega, rfl, rfl, HS.out, Below.refl _ _⟩
  case round =>
    obtain ⟨k, hk, rfl, rfl, sP, hB⟩ := hrel
    have hzr := hB.size
    by_cases hkn : k < n
    · have hkl : k < js.length := by have := HN.out; omega
      obtain ⟨⟨a1, a2⟩, b1, b2⟩ := HBD.out k hkl
      have lA := HLEN.out k (by omega)
      have HA := hid (fun W => dec_bigO (rd js k) (by omega) W)
      have HC := hid (fun W => dec_bigO (rv js k) (by omega) W)
      have l1 := itoa_bigO (rd js k) (by omega); have l2 := itoa_bigO (rv js k) (by omega)
      have e1 := toA_succ js k
      have x0f : ∀ {W : World}, Rst W b js → W.cell? ⟨b, k * 2, none⟩ = some (.int .i64 (rd js k)) := fun h => (h.2.1 k hkl).1
      have x1f : ∀ {W : World}, Rst W b js → W.cell? ⟨b, k * 2 + 1, none⟩ = some (.int .i64 (rv js k)) := fun h => (h.2.1 k hkl).2
      unfold toP at e1
      obtain ⟨p, hp⟩ : ∃ y, rd js k = y := ⟨_, rfl⟩
      obtain ⟨q, hq⟩ : ∃ y, rv js k = y := ⟨_, rfl⟩
      rw [hp] at x0f HA l1 e1
      rw [hq] at x1f HC l2 e1
      obtain ⟨A, hA⟩ : ∃ y, Lib.itoa p = y := ⟨_, rfl⟩
      obtain ⟨C, hC⟩ : ∃ y, Lib.itoa q = y := ⟨_, rfl⟩
      rw [hA] at HA l1 e1
      rw [hC] at HC l2 e1
      have s1 : ¬ (9223372036854775807 < A.length + 1) := by omega
      have s2 : ¬ (9223372036854775807 < A.length + 1 + C.length) := by omega
      have s3 : ¬ (9223372036854775807 < A.length + 1 + C.length + 1) := by omega
      have k0 : (0 : Int) ≤ (k : Int) := by omega
      have k1 : (k : Int) < (n : Int) := by omega
      have w1' : IntKind.i64.wrap ((k : Int) + 1) = (k : Int) + 1 := IntWalk.i64_in _ (by omega)
      have HFIN0 : Value.string (⟨(toA js k).toArray⟩ ++ ((⟨A.toArray⟩ : ByteArray) ++ ⟨#[32]⟩ ++ ⟨C.toArray⟩ ++ ⟨#[10]⟩)) = .string ⟨(toA js (k + 1)).toArray⟩ := by rw [e1, app4, app_mk]
      obtain ⟨L, hL⟩ : ∃ y, toA js k = y := ⟨_, rfl⟩
      rw [hL] at HFIN0 lA ⊢
      have HFIN := hid HFIN0
      have s4 : ¬ (9223372036854775807 < L.length + (A.length + 1 + C.length + 1)) := by omega
      clear e1 hp hq hA hC HFIN0 l1 l2 lA hL
      go_wp2_with fail
      refine wp_region_held (S := fun W' : World => W'.cell? ⟨b, k * 2, none⟩ = some (.int .i64 p) ∧ W'.cell? ⟨b, k * 2 + 1, none⟩ = some (.int .i64 q)) (by kernel_rfl) ?_
      change wpAnyH _ _ _ _ _ _ _ _ (World.drew _)
      obtain ⟨W0, hW0⟩ : ∃ X, X = World.drew (wr) := ⟨_, rfl⟩
      have hD0 : Below (wr).heap.size (wr) W0 := by rw [hW0]; exact (Below.refl _ _).drew
      replace sP := sP.below hD0 sP.1
      have bW0 := hB.trans (hD0.mono hB.size)
      have bR : Below W0.heap.size W0 W0 := Below.refl _ _
      rw [← hW0]
      clear hW0 hD0
      have l_sP := sP.1
      have hS0 : (fun W' : World => W'.cell? ⟨b, k * 2, none⟩ = some (.int .i64 p) ∧ W'.cell? ⟨b, k * 2 + 1, none⟩ = some (.int .i64 q)) W0 := ⟨(x0f sP), (x1f sP)⟩
      refine wpAnyH_takeD (some 11) (i := 0) (v := ?_) rfl rfl (by kernel_rfl) (by kernel_rfl) (by kernel_rfl) (fun _ _ _ h => h) (.inl ⟨by kernel_rfl, ?_⟩) hS0 ?_
      rotate_left
      · intro w' hw'; go_simp; try with_reducible rfl
      try simp only [Act.put, List.setIfInBounds_toArray, List.set_cons_zero, List.set_cons_succ]
      refine wpAnyH_takeD (some 12) (i := 1) (v := ?_) rfl rfl (by kernel_rfl) (by kernel_rfl) (by kernel_rfl) (fun _ _ _ h => h) (.inl ⟨by kernel_rfl, ?_⟩) hS0 ?_
      rotate_left
      · intro w' hw'; go_simp; try with_reducible rfl
      try simp only [Act.put, List.setIfInBounds_toArray, List.set_cons_zero, List.set_cons_succ]
      refine wpAnyH_takeD (some 13) (i := 2) (v := ?_) rfl rfl (by kernel_rfl) (by kernel_rfl) (by kernel_rfl) (fun _ _ _ h => h) (.inl ⟨by kernel_rfl, ?_⟩) hS0 ?_
      rotate_left
      · intro w' hw'; go_simp; try with_reducible rfl
      try simp only [Act.put, List.setIfInBounds_toArray, List.set_cons_zero, List.set_cons_succ]
      refine wpAnyH_takeD (some 14) (i := 3) (v := ?_) rfl rfl (by kernel_rfl) (by kernel_rfl) (by kernel_rfl) (fun _ _ _ h => h) (.inl ⟨by kernel_rfl, ?_⟩) hS0 ?_
      rotate_left
      · intro w' hw'; have e0 := hw'.1; have e1 := hw'.2; clear hw'; go_simp; try with_reducible rfl
      try simp only [Act.put, List.setIfInBounds_toArray, List.set_cons_zero, List.set_cons_succ]
      refine wpAnyH_takeD (some 15) (i := 4) (v := ?_) rfl rfl (by kernel_rfl) (by kernel_rfl) (by kernel_rfl) (fun _ _ _ h => h) (.inl ⟨by kernel_rfl, ?_⟩) hS0 ?_
      rotate_left
      · intro w' hw'; have e0 := hw'.1; have e1 := hw'.2; clear hw'; go_simp; try with_reducible rfl
      try simp only [Act.put, List.setIfInBounds_toArray, List.set_cons_zero, List.set_cons_succ]
      refine wpAnyH_takeD (some 16) (i := 5) (v := ?_) rfl rfl (by kernel_rfl) (by kernel_rfl) (by kernel_rfl) (fun _ _ _ h => h) (.inl ⟨by kernel_rfl, ?_⟩) hS0 ?_
      rotate_left
      · intro w' hw'; have e0 := hw'.1; have e1 := hw'.2; clear hw'; go_simp; try with_reducible rfl
      try simp only [Act.put, List.setIfInBounds_toArray, List.set_cons_zero, List.set_cons_succ]
      refine wpAnyH_takeD (some 19) (i := 8) (v := ?_) rfl rfl (by kernel_rfl) (by kernel_rfl) (by kernel_rfl) (fun _ _ _ h => h) (.inl ⟨by kernel_rfl, ?_⟩) hS0 ?_
      rotate_left
      · intro w' hw'; go_simp; try with_reducible rfl
      try simp only [Act.put, List.setIfInBounds_toArray, List.set_cons_zero, List.set_cons_succ]
      refine wpAnyH_takeD (some 20) (i := 9) (v := ?_) rfl rfl (by kernel_rfl) (by kernel_rfl) (by kernel_rfl) (fun _ _ _ h => h) (.inl ⟨by kernel_rfl, ?_⟩) hS0 ?_
      rotate_left
      · intro w' hw'; go_simp; try with_reducible rfl
      try simp only [Act.put, List.setIfInBounds_toArray, List.set_cons_zero, List.set_cons_succ]
      refine wpAnyH_takeD (some 21) (i := 10) (v := ?_) rfl rfl (by kernel_rfl) (by kernel_rfl) (by kernel_rfl) (fun _ _ _ h => h) (.inl ⟨by kernel_rfl, ?_⟩) hS0 ?_
      rotate_left
      · intro w' hw'; have e0 := hw'.1; have e1 := hw'.2; clear hw'; go_simp; try with_reducible rfl
      try simp only [Act.put, List.setIfInBounds_toArray, List.set_cons_zero, List.set_cons_succ]
      refine wpAnyH_takeD (some 22) (i := 11) (v := ?_) rfl rfl (by kernel_rfl) (by kernel_rfl) (by kernel_rfl) (fun _ _ _ h => h) (.inl ⟨by kernel_rfl, ?_⟩) hS0 ?_
      rotate_left
      · intro w' hw'; have e0 := hw'.1; have e1 := hw'.2; clear hw'; go_simp; try with_reducible rfl
      try simp only [Act.put, List.setIfInBounds_toArray, List.set_cons_zero, List.set_cons_succ]
      refine wpAnyH_takeD (some 23) (i := 12) (v := ?_) rfl rfl (by kernel_rfl) (by kernel_rfl) (by kernel_rfl) (fun _ _ _ h => h) (.inl ⟨by kernel_rfl, ?_⟩) hS0 ?_
      rotate_left
      · intro w' hw'; have e0 := hw'.1; have e1 := hw'.2; clear hw'; go_simp; try with_reducible rfl
      try simp only [Act.put, List.setIfInBounds_toArray, List.set_cons_zero, List.set_cons_succ]
      refine wpAnyH_all (rs := [6]) (by kernel_rfl) (by simp) ?_
      intro i hi; simp only [List.mem_cons, List.not_mem_nil, or_false] at hi
      subst hi
      refine wpOp_step rfl (fun K hK => ?_)
      go_simp
      with_reducible refine (HA.out W0).mono ?_
      rintro e v1 ⟨rfl, hB1⟩
      replace sP := sP.below hB1 sP.1
      replace bR := bR.trans (hB1.mono bR.size)
      have hS1 : (fun W' : World => W'.cell? ⟨b, k * 2, none⟩ = some (.int .i64 p) ∧ W'.cell? ⟨b, k * 2 + 1, none⟩ = some (.int .i64 q)) v1 := ⟨(x0f sP), (x1f sP)⟩
      refine hK _ _ ⟨hS1, ?_⟩
      try simp only [Act.put, List.setIfInBounds_toArray, List.set_cons_zero, List.set_cons_succ]
      clear hB1 hK K hS0
      refine wpAnyH_takeD (some 18) (i := 7) (v := ?_) rfl rfl (by kernel_rfl) (by kernel_rfl) (by kernel_rfl) (fun _ _ _ h => h) (.inl ⟨by kernel_rfl, ?_⟩) hS1 ?_
      rotate_left
      · intro w' hw'; go_simp; try with_reducible rfl
      try simp only [Act.put, List.setIfInBounds_toArray, List.set_cons_zero, List.set_cons_succ]
      refine wpAnyH_all (rs := [13]) (by kernel_rfl) (by simp) ?_
      intro i hi; simp only [List.mem_cons, List.not_mem_nil, or_false] at hi
      subst hi
      refine wpOp_step rfl (fun K hK => ?_)
      go_simp
      with_reducible refine (HC.out v1).mono ?_
      rintro e v2 ⟨rfl, hB2⟩
      replace sP := sP.below hB2 sP.1
      replace bR := bR.trans (hB2.mono bR.size)
      have hS2 : (fun W' : World => W'.cell? ⟨b, k * 2, none⟩ = some (.int .i64 p) ∧ W'.cell? ⟨b, k * 2 + 1, none⟩ = some (.int .i64 q)) v2 := ⟨(x0f sP), (x1f sP)⟩
      refine hK _ _ ⟨hS2, ?_⟩
      try simp only [Act.put, List.setIfInBounds_toArray, List.set_cons_zero, List.set_cons_succ]
      clear hB2 hK K hS1
      refine wpAnyH_takeD (some 25) (i := 14) (v := ?_) rfl rfl (by kernel_rfl) (by kernel_rfl) (by kernel_rfl) (fun _ _ _ h => h) (.inl ⟨by kernel_rfl, ?_⟩) hS2 ?_
      rotate_left
      · intro w' hw'; go_simp; try with_reducible rfl
      try simp only [Act.put, List.setIfInBounds_toArray, List.set_cons_zero, List.set_cons_succ]
      refine wpAnyH_takeD (some 26) (i := 15) (v := ?_) rfl rfl (by kernel_rfl) (by kernel_rfl) (by kernel_rfl) (fun _ _ _ h => h) (.inl ⟨by kernel_rfl, ?_⟩) hS2 ?_
      rotate_left
      · intro w' hw'; go_simp; try with_reducible rfl
      try simp only [Act.put, List.setIfInBounds_toArray, List.set_cons_zero, List.set_cons_succ]
      refine wpAnyH_takeD (some 27) (i := 16) (v := ?_) rfl rfl (by kernel_rfl) (by kernel_rfl) (by kernel_rfl) (fun _ _ _ h => h) (.inl ⟨by kernel_rfl, ?_⟩) hS2 ?_
      rotate_left
      · intro w' hw'; go_simp; try with_reducible rfl
      try simp only [Act.put, List.setIfInBounds_toArray, List.set_cons_zero, List.set_cons_succ]
      refine wpAnyH_takeD (some 3) (i := 17) (v := ?_) rfl rfl (by kernel_rfl) (by kernel_rfl) (by kernel_rfl) (fun _ _ _ h => h) (.inl ⟨by kernel_rfl, ?_⟩) hS2 ?_
      rotate_left
      · intro w' hw'; go_simp; try with_reducible rfl
      try simp only [Act.put, List.setIfInBounds_toArray, List.set_cons_zero, List.set_cons_succ]
      refine wpAnyH_done (by kernel_rfl) ?_ _
      have bX := hid (bW0.trans (bR.mono bW0.size))
      have sX := hid sP
      clear sP bW0 bR hB
      go_wp2_with fail
      go_roundw
      case rel => exact ⟨k + 1, by omega, by go_num, HFIN.out, sX.out, bX.out⟩
      case measure => simp [intOf] <;> omega
    · obtain rfl : k = n := by omega
      have k1 : ¬ (k : Int) < (k : Int) := by omega
      clear sP
      go_wp2_with fail
      go_ret
      exact ⟨rfl, hB⟩
theorem specTOT_any (b n cap : Nat) (js : List (Int × Int)) (w : World) (hR : Rst w b js) (hn : n = js.length) :
    Calls Tryd.prog 12 #[.slice (some ⟨b, 0, none⟩) n cap] w fun e w' => e = .returned (.string ⟨(toR js).toArray⟩) ∧ Below w.heap.size w w' := by
  have HV := hid (l06Totals_any b n cap js hn w hR)
  cases hv : okTs js with
  | false =>
    rw [toR_no hv]
    rw [hv] at HV
    clear hv hR hn
    go_enter Tryd.func12, Tryd.ntmps12
    go_wp2_with (go_at_call 28; refine HV.out.mono ?_; rintro e w1 ⟨rfl, hB1⟩)
    go_ret
    exact ⟨rfl, hB1⟩
  | true =>
    have HT := hid (fun w1 (hB : Below w.heap.size w w1) => l06Text_any b n cap js w1 (hR.below hB hR.1) hn hv)
    rw [toR_yes hv]
    rw [hv] at HV
    obtain ⟨T, hT⟩ : ∃ T, toA js js.length = T := ⟨_, rfl⟩
    rw [hT] at HT ⊢
    clear hv hR hn hT
    go_enter Tryd.func12, Tryd.ntmps12
    go_wp2_with (first | (go_at_call 28; refine HV.out.mono ?_; rintro e w1 ⟨rfl, hB1⟩; have HTW := hid (HT.out _ hB1)) | (go_at_call 29; refine HTW.out.mono ?_; rintro e w2 ⟨rfl, hB2⟩))
    go_ret
    exact ⟨rfl, hB1.trans (hB2.mono hB1.size)⟩
end Go.Proofs.YtkdndejfdlbcbaaDoor
