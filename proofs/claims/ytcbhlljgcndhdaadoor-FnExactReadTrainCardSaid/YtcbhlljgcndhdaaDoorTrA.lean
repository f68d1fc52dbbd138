/- TrainText. -/
import Derived.Test.YtcbhlljgcndhdaaDoorTxE
import Derived.Test.YtcbhlljgcndhdaaDoorTxG
import Derived.Test.YtcbhlljgcndhdaaDoorValT
namespace Go.Proofs.YtcbhlljgcndhdaaDoor
open Go.RowKit Go.Shelf
set_option linter.unusedVariables false
set_option linter.unusedSimpArgs false
/-- an append as one operation of a region that draws its order -/
theorem op_append_own {P : Program} (w : World) {o : Oper} {a : Act} {Q : Exit → Act → World → Prop} {K : Act → World → Prop}
    (s x : Operand) (t : TypeId) (hop : o.op = Op.call { callee := Callee.builtin Builtin.append, args := #[s, x], argTypes := #[t, t] })
    (base : Nat) (e : TypeId) (i : TypeInfo) (z : Value) (size bytes : Nat) (h1 : P.underlying t = some (.slice e)) (h2 : P.info? e = some i) (h3 : i.zero = some z) (h4 : i.size = size) (h5 : i.bytes = bytes) (h6 : z.cells.size = size) (h7 : 0 < size)
    (v : Value) (k : Nat) (xs : List Value) (hs : a.eval s = v) (hown : w.ownsRow base e size v k xs) (ad : Addr) (m c : Nat) (news : List Value) (hx : a.eval x = .slice (some ad) m c) (hn : news.length = m * size)
    (hc : ∀ j u, news[j]? = some u → w.cell? (ad.add j) = some u) (h1c : ∀ u ∈ news, u.oneCell' = true) (b1 : k + m ≤ maxLen) (b2 : (k + m) * bytes ≤ 140737488355328) (b3 : base ≤ w.heap.size)
    (hK : ∀ v' w', w'.ownsRow base e size v' (k + m) (xs ++ news) → w.grownBy w' v.ownBlock → K (a.put o.dst v') w') :
    Oper.wp P o a w K Q := by
  obtain ⟨v', w', hrun, r1, r2, r3⟩ := run_append_own (P := P) w base t o.type e i z size bytes h1 h2 h3 h4 h5 h6 h7 v k xs hown ad m c news hn hc h1c b1 b2 b3
  unfold Oper.wp
  simp [execOp, hop, resolve, invoke, builtin, hs, hx, hrun, Result.andThen]
  exact hK v' w' r1 r2
def trP (js : List (Int × Int)) (k : Nat) : List UInt8 := Lib.itoa (pd js k) ++ [47] ++ Lib.itoa (pn js k)
def trL (js : List (Int × Int)) (k : Nat) : List ByteArray := (List.range k).map fun j => ⟨(trP js j).toArray⟩
def trA (js : List (Int × Int)) (k : Nat) : List UInt8 := Lib.join ((List.range k).map (trP js)) [32]
def trR (js : List (Int × Int)) : List UInt8 := if okT js then trA js js.length else []
theorem trR_no {js : List (Int × Int)} (h : okT js = false) : trR js = [] := by simp [trR, h]
theorem trR_yes {js : List (Int × Int)} (h : okT js = true) : trR js = trA js js.length := by simp [trR, h]
theorem trL_len (js : List (Int × Int)) (k : Nat) : (trL js k).length = k := by simp [trL]
theorem trL_succ (js : List (Int × Int)) (k : Nat) : (trL js (k + 1)).map Value.string = (trL js k).map Value.string ++ [.string ⟨(trP js k).toArray⟩] := by simp [trL, List.range_succ]
theorem trL_join (js : List (Int × Int)) (k : Nat) : Lib.join ((trL js k).map (·.data.toList)) [32] = trA js k := by
  unfold trA trL
  congr 1
  simp [Function.comp_def]
theorem app3 (A C : List UInt8) : (⟨A.toArray⟩ : ByteArray) ++ ⟨#[47]⟩ ++ ⟨C.toArray⟩ = ⟨(A ++ [47] ++ C).toArray⟩ := by
  rw [show (⟨#[47]⟩ : ByteArray) = ⟨([47] : List UInt8).toArray⟩ from rfl, app_mk, app_mk]
theorem join_snoc' (sep x : List UInt8) (l : List (List UInt8)) (h : l ≠ []) : Lib.join (l ++ [x]) sep = Lib.join l sep ++ sep ++ x := by
  rw [join_snoc]
  cases l with
  | nil => exact absurd rfl h
  | cons y r =>
    have e := shift_sep sep r
    rw [Lib.join_cons, Lib.joinTail, List.append_assoc y, e]
    simp
theorem trA_zero (js : List (Int × Int)) : trA js 0 = [] := rfl
theorem trA_one (js : List (Int × Int)) : trA js 1 = trP js 0 := by
  unfold trA
  rw [show (List.range 1).map (trP js) = [trP js 0] from rfl, Lib.join_one]
theorem trA_succ (js : List (Int × Int)) (k : Nat) (h : 1 ≤ k) : trA js (k + 1) = trA js k ++ [32] ++ trP js k := by
  unfold trA
  rw [List.range_succ, List.map_append, List.map_cons, List.map_nil, join_snoc' _ _ _ (by simp; omega)]
theorem tab_belowR {W W' : World} {B : Nat} (h : Lib.TabIs Tryd.prog W "internal/strconv.uint64pow10" .u64 Lib.pow10Tab) (hb : Below B W W') (hB : 5 < B) : Lib.TabIs Tryd.prog W' "internal/strconv.uint64pow10" .u64 Lib.pow10Tab := var?_below hb (by kernel_rfl) hB h
theorem itoa_bigR (z : Int) (h : 0 ≤ z ∧ z ≤ 999) : (Lib.itoa z).length ≤ 4 := by
  obtain ⟨n, rfl⟩ : ∃ n : Nat, z = (n : Int) := ⟨z.toNat, by omega⟩
  rw [itoa_nat]
  exact dec_len 3 n (by omega)
theorem pad1R (z : Int) (h : 0 ≤ z) : padZ 1 (Lib.itoa z) = Lib.itoa z := by
  have e : ∀ l : List UInt8, 1 ≤ l.length → padZ 1 l = l := fun l hl => by rw [padZ, Nat.sub_eq_zero_of_le hl]; rfl
  apply e
  obtain ⟨m, rfl⟩ : ∃ m : Nat, z = (m : Int) := ⟨z.toNat, by omega⟩
  rw [itoa_nat, Lib.decDigits]
  split <;> simp
theorem dec_i16 (z : Int) (h : 0 ≤ z ∧ z ≤ 999) (w : World) (ht : Lib.TabIs Tryd.prog w "internal/strconv.uint64pow10" .u64 Lib.pow10Tab) : Calls Tryd.prog 23 #[.int .i16 z, .int .i64 1] w fun e w' => e = .returned (.string ⟨(Lib.itoa z).toArray⟩) ∧ Below w.heap.size w w' := by
  have := decimal16_any z (by omega) 1 (by omega) (by have := itoa_bigR z h; omega) w (fmt_tab z (by omega) (by omega) w ht)
  rw [pad1R z h.1] at this
  exact this
theorem trA_len (js : List (Int × Int)) (h : okTTo js js.length) (h4 : js.length ≤ 4) (k : Nat) (hk : k ≤ js.length) : (trA js k).length ≤ 60 := by
  have aux : ∀ (m : Nat) (l : List (List UInt8)), (∀ x ∈ l, x.length ≤ m) → (Lib.join l [32]).length ≤ l.length * (m + 1) := fun m l hl => by
    have tl : ∀ (l : List (List UInt8)), (∀ x ∈ l, x.length ≤ m) → (Lib.joinTail [32] l).length ≤ l.length * (m + 1) := fun l => by
      induction l with
      | nil => intro _; simp [Lib.joinTail]
      | cons x r ih =>
        intro h
        have h1 := ih (fun y hy => h y (by simp [hy]))
        have h2 := h x (by simp)
        simp only [Lib.joinTail, List.map_cons, List.flatten_cons, List.length_append, List.length_cons, List.length_nil, Nat.add_mul] at h1 ⊢
        omega
    cases l with
    | nil => simp [Lib.join_nil]
    | cons x r =>
      rw [Lib.join_cons, List.length_append]
      have h1 := tl r (fun y hy => hl y (by simp [hy]))
      have h2 := hl x (by simp)
      simp only [List.length_cons, Nat.add_mul]
      omega
  have := aux 9 ((List.range k).map (trP js)) (fun x hx => by
    obtain ⟨j, hj, rfl⟩ := List.mem_map.1 hx
    have hj' := List.mem_range.1 hj
    obtain ⟨⟨a1, a2⟩, b1, b2⟩ := h j (by omega)
    have p := itoa_bigR (pd js j) (by omega); have q := itoa_bigR (pn js j) (by omega)
    simp [trP]; omega)
  simp at this
  unfold trA
  omega
def OwnS (w : World) (g base : Nat) (v : Value) (n : Nat) (xs : List Value) : Prop := g < w.heap.size ∧ w.ownsRow base 9 1 v n xs
theorem OwnS.below {w w' : World} {g base n : Nat} {v : Value} {xs : List Value} (h : OwnS w g base v n xs) (hb : Below w.heap.size w w') (_ : g < w.heap.size) : OwnS w' g base v n xs := ⟨Nat.lt_of_lt_of_le h.1 hb.size, owns_belowP h.2 hb⟩
set_option maxRecDepth 100000 in
set_option maxHeartbeats 4000000 in
theorem implTR_any (b n cap : Nat) (js : List (Int × Int)) (w : World) (hS : Pst w b js) (hn : n = js.length) (hbd : Bd16 js) (ht : Lib.TabIs Tryd.prog w "internal/strconv.uint64pow10" .u64 Lib.pow10Tab) (hg : 5 < w.heap.size) :
    Calls Tryd.prog 15 #[.slice (some ⟨b, 0, none⟩) n cap] w fun e w' => e = .returned (.string ⟨(trR js).toArray⟩) ∧ Below w.heap.size w w' := by
  obtain ⟨i0, hi, iz0, iz1, iz2⟩ := info_parts Tryd.infoStr
  have HV := hid (implValidTrain_any b n cap js w hS hn hbd)
  have HS := hid hS; have HN := hid hn; have HT0 := hid ht; have HG0 := hid hg
  clear hS hbd ht hg
  cases hv : okT js with
  | false =>
    rw [trR_no hv]
    rw [hv] at HV
    clear hv hn
    go_enter Tryd.func15, Tryd.ntmps15
    go_wp2_with (go_at_call 22; refine HV.out.mono ?_; rintro e w1 ⟨rfl, hB1⟩)
    go_ret
    exact ⟨rfl, hB1⟩
  | true =>
    obtain ⟨h1n, h4, hto⟩ := okT_out hv
    rw [trR_yes hv, ← hn]
    rw [hv] at HV
    rw [← hn] at h1n h4 hto
    have HTO := hid hto
    have HLEN := hid (fun k hk => trA_len js (by rw [← HN.out]; exact HTO.out) (by rw [← HN.out]; exact h4) k hk)
    clear hv hto hn
    go_enter Tryd.func15, Tryd.ntmps15
    go_wp2_with fail
    refine HV.out.mono ?_
    rintro e w1 ⟨rfl, hB1⟩
    have B1 := hid hB1
    have hz1 := hB1.size
    have HTB := hid (tab_belowR HT0.out hB1 HG0.out)
    have HG1 := hid (Nat.lt_of_lt_of_le HG0.out hz1)
    have HP := hid (HS.out.below hB1 HS.out.1)
    clear hB1
    go_wp2_with fail
    go_loopw [3, 11] (fun v i wr => ∃ k : Nat, k ≤ n ∧ i = .int .i64 k ∧ wr.ownsRow w1.heap.size 9 1 v k ((trL js k).map Value.string) ∧ Below w1.heap.size w1 wr) (fun _ i _ => n - (intOf i).toNat)
    case atStart => exact ⟨0, by omega, rfl, ⟨rfl, .inl ⟨rfl, rfl⟩⟩, Below.refl _ _⟩
    case round =>
      obtain ⟨k, hk, rfl, hown, hB⟩ := hrel
      have hzr := hB.size
      by_cases hkn : k < n
      · have sP := HP.out.below hB HP.out.1
        obtain ⟨⟨a1, a2⟩, b1, b2⟩ := HTO.out k hkn
        obtain ⟨x0, x1⟩ := sP.2.1 k (by have := HN.out; omega)
        have HSN0 := trL_succ js k
        have HA := hid (fun W t => dec_i16 (pd js k) (by omega) W t)
        have HC := hid (fun W t => dec_i16 (pn js k) (by omega) W t)
        have l1 := itoa_bigR (pd js k) (by omega); have l2 := itoa_bigR (pn js k) (by omega)
        unfold trP at HSN0
        obtain ⟨p, hp⟩ : ∃ y, pd js k = y := ⟨_, rfl⟩
        obtain ⟨q, hq⟩ : ∃ y, pn js k = y := ⟨_, rfl⟩
        rw [hp] at x0 HA l1 HSN0
        rw [hq] at x1 HC l2 HSN0
        obtain ⟨A, hA⟩ : ∃ y, Lib.itoa p = y := ⟨_, rfl⟩
        obtain ⟨C, hC⟩ : ∃ y, Lib.itoa q = y := ⟨_, rfl⟩
        rw [hA] at HA l1 HSN0
        rw [hC] at HC l2 HSN0
        rw [← app3] at HSN0
        have HSN := hid HSN0
        have s1 : ¬ (9223372036854775807 < A.length + 1) := by omega
        have s2 : ¬ (9223372036854775807 < A.length + 1 + C.length) := by omega
        have k0 : (0 : Int) ≤ (k : Int) := by omega
        have k1 : (k : Int) < (n : Int) := by omega
        have w1' : IntKind.i64.wrap ((k : Int) + 1) = (k : Int) + 1 := IntWalk.i64_in _ (by omega)
        have rP := Row.new wr 36 [.int .i16 p, .int .i16 q]
        have hO : OwnS (wr.alloc (.cells #[.int .i16 p, .int .i16 q] 36)) wr.heap.size w1.heap.size u3 k ((trL js k).map Value.string) := ⟨rP.lt, hown.alloc _⟩
        have bB : Below w1.heap.size w1 (wr.alloc (.cells #[.int .i16 p, .int .i16 q] 36)) := hB.alloc hB.size _
        clear hp hq hA hC HSN0 l1 l2 hown hB sP
        go_wp2_with fail
        clear x0 x1
        refine wp_region_held (S := fun W' : World => Row W' wr.heap.size 36 [.int .i16 p, .int .i16 q]) (by kernel_rfl) ?_
        change wpAnyH _ _ _ _ _ _ _ _ (World.drew _)
        obtain ⟨W0, hW0⟩ : ∃ X, X = World.drew (wr.alloc (.cells #[.int .i16 p, .int .i16 q] 36)) := ⟨_, rfl⟩
        have hD0 : Below (wr.alloc (.cells #[.int .i16 p, .int .i16 q] 36)).heap.size (wr.alloc (.cells #[.int .i16 p, .int .i16 q] 36)) W0 := by rw [hW0]; exact (Below.refl _ _).drew
        replace rP := rP.below hD0 rP.lt
        replace hO := hO.below hD0 hO.1
        have bW0 := bB.trans (hD0.mono bB.size)
        have bR : Below W0.heap.size W0 W0 := Below.refl _ _
        rw [← hW0]
        clear hW0 hD0
        have l_rP := rP.lt
        have l_hO := hO.1
        have hS0 : (fun W' : World => Row W' wr.heap.size 36 [.int .i16 p, .int .i16 q]) W0 := rP
        refine wpAnyH_takeD (some 15) (i := 0) (v := ?_) rfl rfl (by kernel_rfl) (by kernel_rfl) (by kernel_rfl) (fun _ _ _ h => h) (.inl ⟨by kernel_rfl, ?_⟩) hS0 ?_
        rotate_left
        · intro w' hw'; go_simp; try with_reducible rfl
        try simp only [Act.put, List.setIfInBounds_toArray, List.set_cons_zero, List.set_cons_succ]
        refine wpAnyH_takeD (some 16) (i := 1) (v := ?_) rfl rfl (by kernel_rfl) (by kernel_rfl) (by kernel_rfl) (fun _ _ _ h => h) (.inl ⟨by kernel_rfl, ?_⟩) hS0 ?_
        rotate_left
        · intro w' hw'; have hrow0 := hw'; have e0x0 := Row.cell hrow0 0; have e0x1 := Row.cell hrow0 1; simp only [List.getElem?_cons_zero, List.getElem?_cons_succ] at e0x0 e0x1; clear hrow0; clear hw'; go_simp; try with_reducible rfl
        try simp only [Act.put, List.setIfInBounds_toArray, List.set_cons_zero, List.set_cons_succ]
        refine wpAnyH_takeD (some 17) (i := 2) (v := ?_) rfl rfl (by kernel_rfl) (by kernel_rfl) (by kernel_rfl) (fun _ _ _ h => h) (.inl ⟨by kernel_rfl, ?_⟩) hS0 ?_
        rotate_left
        · intro w' hw'; have hrow0 := hw'; have e0x0 := Row.cell hrow0 0; have e0x1 := Row.cell hrow0 1; simp only [List.getElem?_cons_zero, List.getElem?_cons_succ] at e0x0 e0x1; clear hrow0; clear hw'; go_simp; try with_reducible rfl
        try simp only [Act.put, List.setIfInBounds_toArray, List.set_cons_zero, List.set_cons_succ]
        refine wpAnyH_takeD (some 20) (i := 5) (v := ?_) rfl rfl (by kernel_rfl) (by kernel_rfl) (by kernel_rfl) (fun _ _ _ h => h) (.inl ⟨by kernel_rfl, ?_⟩) hS0 ?_
        rotate_left
        · intro w' hw'; have hrow0 := hw'; have e0x0 := Row.cell hrow0 0; have e0x1 := Row.cell hrow0 1; simp only [List.getElem?_cons_zero, List.getElem?_cons_succ] at e0x0 e0x1; clear hrow0; clear hw'; go_simp; try with_reducible rfl
        try simp only [Act.put, List.setIfInBounds_toArray, List.set_cons_zero, List.set_cons_succ]
        refine wpAnyH_takeD (some 21) (i := 6) (v := ?_) rfl rfl (by kernel_rfl) (by kernel_rfl) (by kernel_rfl) (fun _ _ _ h => h) (.inl ⟨by kernel_rfl, ?_⟩) hS0 ?_
        rotate_left
        · intro w' hw'; have hrow0 := hw'; have e0x0 := Row.cell hrow0 0; have e0x1 := Row.cell hrow0 1; simp only [List.getElem?_cons_zero, List.getElem?_cons_succ] at e0x0 e0x1; clear hrow0; clear hw'; go_simp; try with_reducible rfl
        try simp only [Act.put, List.setIfInBounds_toArray, List.set_cons_zero, List.set_cons_succ]
        refine wpAnyH_all (rs := [3]) (by kernel_rfl) (by simp) ?_
        intro i hi; simp only [List.mem_cons, List.not_mem_nil, or_false] at hi
        subst hi
        refine wpOp_step rfl (fun K hK => ?_)
        go_simp
        with_reducible refine (HA.out W0 (tab_belowR HTB.out (bW0.trans (bR.mono bW0.size)) HG1.out)).mono ?_
        rintro e v1 ⟨rfl, hB1⟩
        replace rP := rP.below hB1 rP.lt
        replace hO := hO.below hB1 hO.1
        replace bR := bR.trans (hB1.mono bR.size)
        have hS1 : (fun W' : World => Row W' wr.heap.size 36 [.int .i16 p, .int .i16 q]) v1 := rP
        refine hK _ _ ⟨hS1, ?_⟩
        try simp only [Act.put, List.setIfInBounds_toArray, List.set_cons_zero, List.set_cons_succ]
        clear hB1 hK K hS0
        refine wpAnyH_takeD (some 19) (i := 4) (v := ?_) rfl rfl (by kernel_rfl) (by kernel_rfl) (by kernel_rfl) (fun _ _ _ h => h) (.inl ⟨by kernel_rfl, ?_⟩) hS1 ?_
        rotate_left
        · intro w' hw'; go_simp; try with_reducible rfl
        try simp only [Act.put, List.setIfInBounds_toArray, List.set_cons_zero, List.set_cons_succ]
        refine wpAnyH_all (rs := [7]) (by kernel_rfl) (by simp) ?_
        intro i hi; simp only [List.mem_cons, List.not_mem_nil, or_false] at hi
        subst hi
        refine wpOp_step rfl (fun K hK => ?_)
        go_simp
        with_reducible refine (HC.out v1 (tab_belowR HTB.out (bW0.trans (bR.mono bW0.size)) HG1.out)).mono ?_
        rintro e v2 ⟨rfl, hB2⟩
        replace rP := rP.below hB2 rP.lt
        replace hO := hO.below hB2 hO.1
        replace bR := bR.trans (hB2.mono bR.size)
        have hS2 : (fun W' : World => Row W' wr.heap.size 36 [.int .i16 p, .int .i16 q]) v2 := rP
        refine hK _ _ ⟨hS2, ?_⟩
        try simp only [Act.put, List.setIfInBounds_toArray, List.set_cons_zero, List.set_cons_succ]
        clear hB2 hK K hS1
        refine wpAnyH_takeD (some 23) (i := 8) (v := ?_) rfl rfl (by kernel_rfl) (by kernel_rfl) (by kernel_rfl) (fun _ _ _ h => h) (.inl ⟨by kernel_rfl, ?_⟩) hS2 ?_
        rotate_left
        · intro w' hw'; go_simp; try with_reducible rfl
        try simp only [Act.put, List.setIfInBounds_toArray, List.set_cons_zero, List.set_cons_succ]
        refine wpAnyH_all (rs := [9]) (by kernel_rfl) (by simp) ?_
        intro i hi; simp only [List.mem_cons, List.not_mem_nil, or_false] at hi
        subst hi
        refine wpOp_step rfl (fun K hK => ?_)
        have rn := Row.new v2 9 [.string ((⟨A.toArray⟩ : ByteArray) ++ ⟨#[47]⟩ ++ ⟨C.toArray⟩)]
        go_simp
        have hA : Below v2.heap.size v2 (v2.alloc (.cells #[.string ((⟨A.toArray⟩ : ByteArray) ++ ⟨#[47]⟩ ++ ⟨C.toArray⟩)] 9)) := (Below.refl _ _).alloc (Nat.le_refl _) _
        replace rP := rP.below hA rP.lt
        replace hO := hO.below hA hO.1
        replace bR := bR.trans (hA.mono bR.size)
        have hSa : (fun W' : World => Row W' wr.heap.size 36 [.int .i16 p, .int .i16 q]) (v2.alloc (.cells #[.string ((⟨A.toArray⟩ : ByteArray) ++ ⟨#[47]⟩ ++ ⟨C.toArray⟩)] 9)) := rP
        refine hK _ _ ⟨hSa, ?_⟩
        try simp only [Act.put, List.setIfInBounds_toArray, List.set_cons_zero, List.set_cons_succ]
        obtain ⟨G, hG⟩ : ∃ y, v2.heap.size = y := ⟨_, rfl⟩
        obtain ⟨XA, hXA⟩ : ∃ y, v2.alloc (.cells #[.string ((⟨A.toArray⟩ : ByteArray) ++ ⟨#[47]⟩ ++ ⟨C.toArray⟩)] 9) = y := ⟨_, rfl⟩
        rw [hXA] at rP hO bR hSa rn ⊢
        rw [hG] at rn ⊢
        clear hXA hG hA hK K hS2
        have nc := rn.cell 0
        simp only [List.getElem?_cons_zero] at nc
        refine wpAnyH_all (rs := [10]) (by kernel_rfl) (by simp) ?_
        intro i hi; simp only [List.mem_cons, List.not_mem_nil, or_false] at hi
        subst hi
        refine wpOp_step rfl (fun K hK => ?_)
        rw [if_pos (by kernel_rfl)]
        refine op_append_own XA _ _ 29 rfl w1.heap.size 9 i0 (.string ⟨#[]⟩) 1 16 Tryd.underlying29 hi iz0 iz1 iz2 rfl (by decide) u3 _ _ rfl hO.2 ⟨G, 0, none⟩ 1 1 [.string ((⟨A.toArray⟩ : ByteArray) ++ ⟨#[47]⟩ ++ ⟨C.toArray⟩)] rfl rfl (by intro j u hj; match j, hj with | 0, hj => simp at hj; subst hj; simp [Addr.add, nc]) (by intro u hu; simp at hu; subst hu; rfl) (by unfold maxLen; omega) (by omega) (by have := bR.size; have := bW0.size; omega) ?_
        intro v' w7 hown' hgrow
        have r7 := rP.grown' hgrow (owns_ne hO.2 rP (by decide))
        have bel := hid (show Below w1.heap.size w1 w7 from (bW0.trans (bR.mono bW0.size)).grown hgrow (by have := bR.size; have := bW0.size; omega) (fun k e => by have := owns_lt hO.2 (g := k); by_cases hk : w1.heap.size ≤ k; exact hk; exact absurd e.symm (this (by omega))))
        have OW := hid hown'
        have hS7 : (fun W' : World => Row W' wr.heap.size 36 [.int .i16 p, .int .i16 q]) w7 := r7
        refine hK _ _ ⟨hS7, ?_⟩
        try simp only [Act.put, List.setIfInBounds_toArray, List.set_cons_zero, List.set_cons_succ]
        clear hK K hown' hgrow hSa nc rn rP hO bR
        refine wpAnyH_takeD (some 3) (i := 11) (v := ?_) rfl rfl (by kernel_rfl) (by kernel_rfl) (by kernel_rfl) (fun _ _ _ h => h) (.inl ⟨by kernel_rfl, ?_⟩) hS7 ?_
        rotate_left
        · intro w' hw'; go_simp; try with_reducible rfl
        try simp only [Act.put, List.setIfInBounds_toArray, List.set_cons_zero, List.set_cons_succ]
        refine wpAnyH_done (by kernel_rfl) ?_ _
        go_wp2_with fail
        go_roundw
        case rel => exact ⟨k + 1, by omega, by go_num, by rw [HSN.out]; exact OW.out, bel.out⟩
        case measure => simp [intOf]; omega
      · obtain rfl : k = n := by omega
        have k1 : ¬ (k : Int) < (k : Int) := by omega
        rcases hown.2 with h90 | ⟨g, gcap, cur, rfl, h92, h93, h94⟩
        · exact absurd h90.2 (by omega)
        have HJ := hid (Tryd.strings_Join g 0 gcap (trL js k) ⟨#[32]⟩ wr (own_cells hown) (lt_of_block h93) (by rw [trL_len]; omega) (by rw [trL_len]; exact own_cap hown) (by rw [show (⟨#[32]⟩ : ByteArray).data.toList = [32] from rfl, trL_join]; have := HLEN.out k (by have := HN.out; omega); omega))
        rw [trL_len, show (⟨#[32]⟩ : ByteArray).data.toList = [32] from rfl, trL_join] at HJ
        have BB := hid hB
        clear hown h92 h93 h94 hB
        go_wp2_with (go_at_call 24; refine HJ.out.mono ?_; rintro e w9 ⟨rfl, hB9⟩)
        go_ret
        exact ⟨rfl, B1.out.trans ((BB.out.mono hz1).trans (hB9.mono (by omega)))⟩
end Go.Proofs.YtcbhlljgcndhdaaDoor
