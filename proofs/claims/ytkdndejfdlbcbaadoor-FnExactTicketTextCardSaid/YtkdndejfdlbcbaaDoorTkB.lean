/- TicketText. -/
import Derived.Test.YtkdndejfdlbcbaaDoorTkA
import Derived.Test.YtkdndejfdlbcbaaDoorTxE
import Derived.Test.YtkdndejfdlbcbaaDoorTxG
namespace Go.Proofs.YtkdndejfdlbcbaaDoor
open Go.RowKit Go.Shelf
set_option linter.unusedVariables false
set_option linter.unusedSimpArgs false
def tkT (zs ds : List Int) (n c : Int) : List UInt8 := Lib.itoa n ++ [32] ++ txT (ds.take zs.length) (wdD zs) ++ [32] ++ Lib.itoa c
def tkR (zs ds : List Int) (n c : Int) : List UInt8 := if genV zs ds n c then tkT zs ds n c else []
theorem tkR_no {zs ds : List Int} {n c : Int} (h : genV zs ds n c = false) : tkR zs ds n c = [] := by simp [tkR, h]
theorem tkR_yes {zs ds : List Int} {n c : Int} (h : genV zs ds n c = true) : tkR zs ds n c = tkT zs ds n c := by simp [tkR, h]
theorem genV_out {zs ds : List Int} {n c : Int} (h : genV zs ds n c = true) : (1 ≤ n ∧ n ≤ 1000000) ∧ okV zs ds = true ∧ 0 ≤ c ∧ c ≤ 65535 := by
  simp only [genV, Bool.and_eq_true, decide_eq_true_eq, beq_iff_eq] at h
  obtain ⟨h1, h2, h3⟩ := h
  have := chD_bd (chN n) ds 8 (chN_bd n)
  exact ⟨h1, h2, by rw [h3]; exact this⟩
theorem tab_below {W W' : World} {B : Nat} (h : Lib.TabIs Tryd.prog W "internal/strconv.uint64pow10" .u64 Lib.pow10Tab) (hb : Below B W W') (hB : 0 < B) : Lib.TabIs Tryd.prog W' "internal/strconv.uint64pow10" .u64 Lib.pow10Tab := var?_below hb (by kernel_rfl) hB h
theorem dec_big (z : Int) (h : 0 ≤ z ∧ z ≤ 10000000) (w : World) : Calls Tryd.prog 44 #[.int .i64 z] w fun e w' => e = .returned (.string ⟨(Lib.itoa z).toArray⟩) ∧ Below w.heap.size w w' := by
  obtain ⟨n, rfl⟩ : ∃ n : Nat, z = (n : Int) := ⟨z.toNat, by omega⟩
  rw [itoa_nat]
  exact dec_any 8 (by omega) n (by omega) w
theorem itoa_big (z : Int) (h : 0 ≤ z ∧ z ≤ 10000000) : (Lib.itoa z).length ≤ 9 := by
  obtain ⟨n, rfl⟩ : ∃ n : Nat, z = (n : Int) := ⟨z.toNat, by omega⟩
  rw [itoa_nat]
  exact dec_len 8 n (by omega)
theorem pad1 (z : Int) (h : 0 ≤ z) : padZ 1 (Lib.itoa z) = Lib.itoa z := by
  have e : ∀ l : List UInt8, 1 ≤ l.length → padZ 1 l = l := fun l hl => by rw [padZ, Nat.sub_eq_zero_of_le hl]; rfl
  apply e
  obtain ⟨m, rfl⟩ : ∃ m : Nat, z = (m : Int) := ⟨z.toNat, by omega⟩
  rw [itoa_nat, Lib.decDigits]
  split <;> simp
theorem dec_i64 (z : Int) (h : 0 ≤ z ∧ z ≤ 10000000) (w : World) (ht : Lib.TabIs Tryd.prog w "internal/strconv.uint64pow10" .u64 Lib.pow10Tab) : Calls Tryd.prog 33 #[.int .i64 z, .int .i64 1] w fun e w' => e = .returned (.string ⟨(Lib.itoa z).toArray⟩) ∧ Below w.heap.size w w' := by
  have := decimal64_any z (by omega) 1 (by omega) (by have := itoa_big z h; omega) w (fmt_tab z (by omega) (by omega) w ht)
  rw [pad1 z h.1] at this
  exact this
theorem txD_len {zs : List Int} {d0 d1 d2 d3 d4 d5 d6 d7 : Int} (hv : okV zs [d0, d1, d2, d3, d4, d5, d6, d7] = true) (ho : Oct d0 d1 d2 d3 d4 d5 d6 d7) : (txT (List.take zs.length [d0, d1, d2, d3, d4, d5, d6, d7]) (wdD zs)).length ≤ 100 := by
  obtain ⟨hv1, hv2⟩ := okV_out hv
  obtain ⟨h1n, h8, hin, _, _⟩ := okL_out hv1
  have hlt := okD_lt hv2 h8 (fun j hj => (oct_bd ho j hj).1)
  have hll : (List.take zs.length [d0, d1, d2, d3, d4, d5, d6, d7]).length = zs.length := by simp; omega
  have := txT_len (List.take zs.length [d0, d1, d2, d3, d4, d5, d6, d7]) (wdD zs) 2 (fun k hk => by
    rw [hll] at hk
    have a := hin k hk; have b := hlt k hk; have c := oct_bd ho k (by omega)
    have e : ug (List.take zs.length [d0, d1, d2, d3, d4, d5, d6, d7]) k = ([d0, d1, d2, d3, d4, d5, d6, d7] : List Int)[k]?.getD 0 := ug_take _ _ _ hk
    unfold txP
    rw [padZ_len, e]
    have q := itoa2 (([d0, d1, d2, d3, d4, d5, d6, d7] : List Int)[k]?.getD 0) (by omega); have r := wdD_le zs k a
    omega)
  rw [hll] at this
  omega
theorem app5 (A B C : List UInt8) : ((((⟨A.toArray⟩ : ByteArray) ++ ⟨#[32]⟩) ++ ⟨B.toArray⟩) ++ ⟨#[32]⟩) ++ ⟨C.toArray⟩ = ⟨(A ++ [32] ++ B ++ [32] ++ C).toArray⟩ := by
  rw [show (⟨#[32]⟩ : ByteArray) = ⟨([32] : List UInt8).toArray⟩ from rfl, app_mk, app_mk, app_mk, app_mk]
set_option maxRecDepth 100000 in
set_option maxHeartbeats 4000000 in
theorem l07Ticket_any (g B m cap : Nat) (zs : List Int) (n : Int) (d0 d1 d2 d3 d4 d5 d6 d7 : Int) (c : Int) (w : World) (hS : Stk w B zs) (hm : m = zs.length) (hn : 1 ≤ n ∧ n ≤ 1000000) (hc : 0 ≤ c ∧ c ≤ 65535) (hv : okV zs [d0, d1, d2, d3, d4, d5, d6, d7] = true) (ho : Oct d0 d1 d2 d3 d4 d5 d6 d7) (r0 : Row w g 47 [.int .i64 n, .int .u8 d0, .int .u8 d1, .int .u8 d2, .int .u8 d3, .int .u8 d4, .int .u8 d5, .int .u8 d6, .int .u8 d7, .int .u16 c]) :
    Calls Tryd.prog 38 #[.slice (some ⟨B, 0, none⟩) m cap, .pointer (some ⟨g, 0, none⟩)] w fun e w' => e = .returned (.string ⟨(tkT zs [d0, d1, d2, d3, d4, d5, d6, d7] n c).toArray⟩) ∧ Below w.heap.size w w' := by
  have HA := hid (fun w => dec_big n (by omega) w)
  have HC := hid (fun w => dec_big c (by omega) w)
  have HT := hid (fun w h => l01Text_any B m cap zs d0 d1 d2 d3 d4 d5 d6 d7 hm hv w h ho)
  rw [hm] at HT
  obtain ⟨A, hA⟩ : ∃ A, Lib.itoa n = A := ⟨_, rfl⟩
  obtain ⟨C, hC⟩ : ∃ A, Lib.itoa c = A := ⟨_, rfl⟩
  obtain ⟨T, hT⟩ : ∃ A, txT (List.take zs.length [d0, d1, d2, d3, d4, d5, d6, d7]) (wdD zs) = A := ⟨_, rfl⟩
  have l1 := itoa_big n (by omega); have l2 := itoa_big c (by omega); have l3 := txD_len hv ho
  unfold tkT
  rw [hA] at HA l1 ⊢
  rw [hC] at HC l2 ⊢
  rw [hT] at HT l3 ⊢
  have s1 : ¬ (9223372036854775807 < A.length + 1) := by omega
  have s2 : ¬ (9223372036854775807 < A.length + 1 + T.length) := by omega
  have s3 : ¬ (9223372036854775807 < A.length + 1 + T.length + 1) := by omega
  have s4 : ¬ (9223372036854775807 < A.length + 1 + T.length + 1 + C.length) := by omega
  have t64 : IntKind.i64.wrap c = c := IntWalk.i64_in _ (by omega)
  have HE0 := app5 A T C
  obtain ⟨RS, hRS⟩ : ∃ R, A ++ [32] ++ T ++ [32] ++ C = R := ⟨_, rfl⟩
  rw [hRS] at HE0 ⊢
  have HE := hid HE0
  clear HE0 hRS
  rw [← hm] at HT
  have bW : Below w.heap.size w w := Below.refl _ _
  have sS := hS
  have rT := r0
  clear hA hC hT l1 l2 l3 hn hc hv ho hm hS r0
  go_enter Tryd.func38, Tryd.ntmps38
  go_wp2_with fail
  refine wp_region_held (S := fun W' : World => Row W' g 47 [.int .i64 n, .int .u8 d0, .int .u8 d1, .int .u8 d2, .int .u8 d3, .int .u8 d4, .int .u8 d5, .int .u8 d6, .int .u8 d7, .int .u16 c]) (by kernel_rfl) ?_
  change wpAnyH _ _ _ _ _ _ _ _ (World.drew _)
  obtain ⟨W0, hW0⟩ : ∃ X, X = World.drew (w) := ⟨_, rfl⟩
  have hD0 : Below (w).heap.size (w) W0 := by rw [hW0]; exact (Below.refl _ _).drew
  replace sS := sS.below hD0 sS.1
  replace rT := rT.below hD0 rT.lt
  have bW0 := bW.trans (hD0.mono bW.size)
  have bR : Below W0.heap.size W0 W0 := Below.refl _ _
  rw [← hW0]
  clear hW0 hD0
  have l_sS := sS.1
  have l_rT := rT.lt
  have hS0 : (fun W' : World => Row W' g 47 [.int .i64 n, .int .u8 d0, .int .u8 d1, .int .u8 d2, .int .u8 d3, .int .u8 d4, .int .u8 d5, .int .u8 d6, .int .u8 d7, .int .u16 c]) W0 := rT
  refine wpAnyH_takeD (some 5) (i := 0) (v := ?_) rfl rfl (by kernel_rfl) (by kernel_rfl) (by kernel_rfl) (fun _ _ _ h => h) (.inl ⟨by kernel_rfl, ?_⟩) hS0 ?_
  rotate_left
  · intro w' hw'; go_simp; try with_reducible rfl
  try simp only [Act.put, List.setIfInBounds_toArray, List.set_cons_zero, List.set_cons_succ]
  refine wpAnyH_takeD (some 6) (i := 1) (v := ?_) rfl rfl (by kernel_rfl) (by kernel_rfl) (by kernel_rfl) (fun _ _ _ h => h) (.inl ⟨by kernel_rfl, ?_⟩) hS0 ?_
  rotate_left
  · intro w' hw'; go_simp; try with_reducible rfl
  try simp only [Act.put, List.setIfInBounds_toArray, List.set_cons_zero, List.set_cons_succ]
  refine wpAnyH_takeD (some 7) (i := 2) (v := ?_) rfl rfl (by kernel_rfl) (by kernel_rfl) (by kernel_rfl) (fun _ _ _ h => h) (.inl ⟨by kernel_rfl, ?_⟩) hS0 ?_
  rotate_left
  · intro w' hw'; have hrow0 := hw'; have e0x0 := Row.cell hrow0 0; have e0x1 := Row.cell hrow0 1; have e0x2 := Row.cell hrow0 2; have e0x3 := Row.cell hrow0 3; have e0x4 := Row.cell hrow0 4; have e0x5 := Row.cell hrow0 5; have e0x6 := Row.cell hrow0 6; have e0x7 := Row.cell hrow0 7; have e0x8 := Row.cell hrow0 8; have e0x9 := Row.cell hrow0 9; simp only [List.getElem?_cons_zero, List.getElem?_cons_succ] at e0x0 e0x1 e0x2 e0x3 e0x4 e0x5 e0x6 e0x7 e0x8 e0x9; clear hrow0; clear hw'; go_simp; try with_reducible rfl
  try simp only [Act.put, List.setIfInBounds_toArray, List.set_cons_zero, List.set_cons_succ]
  refine wpAnyH_takeD (some 8) (i := 3) (v := ?_) rfl rfl (by kernel_rfl) (by kernel_rfl) (by kernel_rfl) (fun _ _ _ h => h) (.inl ⟨by kernel_rfl, ?_⟩) hS0 ?_
  rotate_left
  · intro w' hw'; have hrow0 := hw'; have e0x0 := Row.cell hrow0 0; have e0x1 := Row.cell hrow0 1; have e0x2 := Row.cell hrow0 2; have e0x3 := Row.cell hrow0 3; have e0x4 := Row.cell hrow0 4; have e0x5 := Row.cell hrow0 5; have e0x6 := Row.cell hrow0 6; have e0x7 := Row.cell hrow0 7; have e0x8 := Row.cell hrow0 8; have e0x9 := Row.cell hrow0 9; simp only [List.getElem?_cons_zero, List.getElem?_cons_succ] at e0x0 e0x1 e0x2 e0x3 e0x4 e0x5 e0x6 e0x7 e0x8 e0x9; clear hrow0; clear hw'; go_simp; try with_reducible rfl
  try simp only [Act.put, List.setIfInBounds_toArray, List.set_cons_zero, List.set_cons_succ]
  refine wpAnyH_takeD (some 11) (i := 6) (v := ?_) rfl rfl (by kernel_rfl) (by kernel_rfl) (by kernel_rfl) (fun _ _ _ h => h) (.inl ⟨by kernel_rfl, ?_⟩) hS0 ?_
  rotate_left
  · intro w' hw'; go_simp; try with_reducible rfl
  try simp only [Act.put, List.setIfInBounds_toArray, List.set_cons_zero, List.set_cons_succ]
  refine wpAnyH_takeD (some 12) (i := 7) (v := ?_) rfl rfl (by kernel_rfl) (by kernel_rfl) (by kernel_rfl) (fun _ _ _ h => h) (.inl ⟨by kernel_rfl, ?_⟩) hS0 ?_
  rotate_left
  · intro w' hw'; go_simp; try with_reducible rfl
  try simp only [Act.put, List.setIfInBounds_toArray, List.set_cons_zero, List.set_cons_succ]
  refine wpAnyH_takeD (some 13) (i := 8) (v := ?_) rfl rfl (by kernel_rfl) (by kernel_rfl) (by kernel_rfl) (fun _ _ _ h => h) (.inl ⟨by kernel_rfl, ?_⟩) hS0 ?_
  rotate_left
  · intro w' hw'; go_simp; try with_reducible rfl
  try simp only [Act.put, List.setIfInBounds_toArray, List.set_cons_zero, List.set_cons_succ]
  refine wpAnyH_takeD (some 14) (i := 9) (v := ?_) rfl rfl (by kernel_rfl) (by kernel_rfl) (by kernel_rfl) (fun _ _ _ h => h) (.inl ⟨by kernel_rfl, ?_⟩) hS0 ?_
  rotate_left
  · intro w' hw'; have hrow0 := hw'; have e0x0 := Row.cell hrow0 0; have e0x1 := Row.cell hrow0 1; have e0x2 := Row.cell hrow0 2; have e0x3 := Row.cell hrow0 3; have e0x4 := Row.cell hrow0 4; have e0x5 := Row.cell hrow0 5; have e0x6 := Row.cell hrow0 6; have e0x7 := Row.cell hrow0 7; have e0x8 := Row.cell hrow0 8; have e0x9 := Row.cell hrow0 9; simp only [List.getElem?_cons_zero, List.getElem?_cons_succ] at e0x0 e0x1 e0x2 e0x3 e0x4 e0x5 e0x6 e0x7 e0x8 e0x9; clear hrow0; clear hw'; go_simp; try with_reducible rfl
  try simp only [Act.put, List.setIfInBounds_toArray, List.set_cons_zero, List.set_cons_succ]
  refine wpAnyH_takeD (some 15) (i := 10) (v := ?_) rfl rfl (by kernel_rfl) (by kernel_rfl) (by kernel_rfl) (fun _ _ _ h => h) (.inl ⟨by kernel_rfl, ?_⟩) hS0 ?_
  rotate_left
  · intro w' hw'; have hrow0 := hw'; have e0x0 := Row.cell hrow0 0; have e0x1 := Row.cell hrow0 1; have e0x2 := Row.cell hrow0 2; have e0x3 := Row.cell hrow0 3; have e0x4 := Row.cell hrow0 4; have e0x5 := Row.cell hrow0 5; have e0x6 := Row.cell hrow0 6; have e0x7 := Row.cell hrow0 7; have e0x8 := Row.cell hrow0 8; have e0x9 := Row.cell hrow0 9; simp only [List.getElem?_cons_zero, List.getElem?_cons_succ] at e0x0 e0x1 e0x2 e0x3 e0x4 e0x5 e0x6 e0x7 e0x8 e0x9; clear hrow0; clear hw'; go_simp; try with_reducible rfl
  try simp only [Act.put, List.setIfInBounds_toArray, List.set_cons_zero, List.set_cons_succ]
  refine wpAnyH_takeD (some 19) (i := 14) (v := ?_) rfl rfl (by kernel_rfl) (by kernel_rfl) (by kernel_rfl) (fun _ _ _ h => h) (.inl ⟨by kernel_rfl, ?_⟩) hS0 ?_
  rotate_left
  · intro w' hw'; go_simp; try with_reducible rfl
  try simp only [Act.put, List.setIfInBounds_toArray, List.set_cons_zero, List.set_cons_succ]
  refine wpAnyH_takeD (some 20) (i := 15) (v := ?_) rfl rfl (by kernel_rfl) (by kernel_rfl) (by kernel_rfl) (fun _ _ _ h => h) (.inl ⟨by kernel_rfl, ?_⟩) hS0 ?_
  rotate_left
  · intro w' hw'; go_simp; try with_reducible rfl
  try simp only [Act.put, List.setIfInBounds_toArray, List.set_cons_zero, List.set_cons_succ]
  refine wpAnyH_takeD (some 21) (i := 16) (v := ?_) rfl rfl (by kernel_rfl) (by kernel_rfl) (by kernel_rfl) (fun _ _ _ h => h) (.inl ⟨by kernel_rfl, ?_⟩) hS0 ?_
  rotate_left
  · intro w' hw'; have hrow0 := hw'; have e0x0 := Row.cell hrow0 0; have e0x1 := Row.cell hrow0 1; have e0x2 := Row.cell hrow0 2; have e0x3 := Row.cell hrow0 3; have e0x4 := Row.cell hrow0 4; have e0x5 := Row.cell hrow0 5; have e0x6 := Row.cell hrow0 6; have e0x7 := Row.cell hrow0 7; have e0x8 := Row.cell hrow0 8; have e0x9 := Row.cell hrow0 9; simp only [List.getElem?_cons_zero, List.getElem?_cons_succ] at e0x0 e0x1 e0x2 e0x3 e0x4 e0x5 e0x6 e0x7 e0x8 e0x9; clear hrow0; clear hw'; go_simp; try with_reducible rfl
  try simp only [Act.put, List.setIfInBounds_toArray, List.set_cons_zero, List.set_cons_succ]
  refine wpAnyH_takeD (some 22) (i := 17) (v := ?_) rfl rfl (by kernel_rfl) (by kernel_rfl) (by kernel_rfl) (fun _ _ _ h => h) (.inl ⟨by kernel_rfl, ?_⟩) hS0 ?_
  rotate_left
  · intro w' hw'; have hrow0 := hw'; have e0x0 := Row.cell hrow0 0; have e0x1 := Row.cell hrow0 1; have e0x2 := Row.cell hrow0 2; have e0x3 := Row.cell hrow0 3; have e0x4 := Row.cell hrow0 4; have e0x5 := Row.cell hrow0 5; have e0x6 := Row.cell hrow0 6; have e0x7 := Row.cell hrow0 7; have e0x8 := Row.cell hrow0 8; have e0x9 := Row.cell hrow0 9; simp only [List.getElem?_cons_zero, List.getElem?_cons_succ] at e0x0 e0x1 e0x2 e0x3 e0x4 e0x5 e0x6 e0x7 e0x8 e0x9; clear hrow0; clear hw'; go_simp; try with_reducible rfl
  try simp only [Act.put, List.setIfInBounds_toArray, List.set_cons_zero, List.set_cons_succ]
  refine wpAnyH_takeD (some 23) (i := 18) (v := ?_) rfl rfl (by kernel_rfl) (by kernel_rfl) (by kernel_rfl) (fun _ _ _ h => h) (.inl ⟨by kernel_rfl, ?_⟩) hS0 ?_
  rotate_left
  · intro w' hw'; go_simp; try with_reducible rfl
  try simp only [Act.put, List.setIfInBounds_toArray, List.set_cons_zero, List.set_cons_succ]
  refine wpAnyH_all (rs := [4]) (by kernel_rfl) (by simp) ?_
  intro i hi; simp only [List.mem_cons, List.not_mem_nil, or_false] at hi
  subst hi
  refine wpOp_step rfl (fun K hK => ?_)
  go_simp
  with_reducible refine (HA.out W0).mono ?_
  rintro e v1 ⟨rfl, hB1⟩
  replace sS := sS.below hB1 sS.1
  replace rT := rT.below hB1 rT.lt
  replace bR := bR.trans (hB1.mono bR.size)
  have hS1 : (fun W' : World => Row W' g 47 [.int .i64 n, .int .u8 d0, .int .u8 d1, .int .u8 d2, .int .u8 d3, .int .u8 d4, .int .u8 d5, .int .u8 d6, .int .u8 d7, .int .u16 c]) v1 := rT
  refine hK _ _ ⟨hS1, ?_⟩
  try simp only [Act.put, List.setIfInBounds_toArray, List.set_cons_zero, List.set_cons_succ]
  clear hB1 hK K hS0
  refine wpAnyH_takeD (some 10) (i := 5) (v := ?_) rfl rfl (by kernel_rfl) (by kernel_rfl) (by kernel_rfl) (fun _ _ _ h => h) (.inl ⟨by kernel_rfl, ?_⟩) hS1 ?_
  rotate_left
  · intro w' hw'; go_simp; try with_reducible rfl
  try simp only [Act.put, List.setIfInBounds_toArray, List.set_cons_zero, List.set_cons_succ]
  refine wpAnyH_all (rs := [11]) (by kernel_rfl) (by simp) ?_
  intro i hi; simp only [List.mem_cons, List.not_mem_nil, or_false] at hi
  subst hi
  refine wpOp_step rfl (fun K hK => ?_)
  go_simp
  with_reducible refine (HT.out v1 sS).mono ?_
  rintro e v2 ⟨rfl, hB2⟩
  replace sS := sS.below hB2 sS.1
  replace rT := rT.below hB2 rT.lt
  replace bR := bR.trans (hB2.mono bR.size)
  have hS2 : (fun W' : World => Row W' g 47 [.int .i64 n, .int .u8 d0, .int .u8 d1, .int .u8 d2, .int .u8 d3, .int .u8 d4, .int .u8 d5, .int .u8 d6, .int .u8 d7, .int .u16 c]) v2 := rT
  refine hK _ _ ⟨hS2, ?_⟩
  try simp only [Act.put, List.setIfInBounds_toArray, List.set_cons_zero, List.set_cons_succ]
  clear hB2 hK K hS1
  refine wpAnyH_takeD (some 17) (i := 12) (v := ?_) rfl rfl (by kernel_rfl) (by kernel_rfl) (by kernel_rfl) (fun _ _ _ h => h) (.inl ⟨by kernel_rfl, ?_⟩) hS2 ?_
  rotate_left
  · intro w' hw'; go_simp; try with_reducible rfl
  try simp only [Act.put, List.setIfInBounds_toArray, List.set_cons_zero, List.set_cons_succ]
  refine wpAnyH_takeD (some 18) (i := 13) (v := ?_) rfl rfl (by kernel_rfl) (by kernel_rfl) (by kernel_rfl) (fun _ _ _ h => h) (.inl ⟨by kernel_rfl, ?_⟩) hS2 ?_
  rotate_left
  · intro w' hw'; go_simp; try with_reducible rfl
  try simp only [Act.put, List.setIfInBounds_toArray, List.set_cons_zero, List.set_cons_succ]
  refine wpAnyH_all (rs := [19]) (by kernel_rfl) (by simp) ?_
  intro i hi; simp only [List.mem_cons, List.not_mem_nil, or_false] at hi
  subst hi
  refine wpOp_step rfl (fun K hK => ?_)
  go_simp
  with_reducible refine (HC.out v2).mono ?_
  rintro e v3 ⟨rfl, hB3⟩
  replace sS := sS.below hB3 sS.1
  replace rT := rT.below hB3 rT.lt
  replace bR := bR.trans (hB3.mono bR.size)
  have hS3 : (fun W' : World => Row W' g 47 [.int .i64 n, .int .u8 d0, .int .u8 d1, .int .u8 d2, .int .u8 d3, .int .u8 d4, .int .u8 d5, .int .u8 d6, .int .u8 d7, .int .u16 c]) v3 := rT
  refine hK _ _ ⟨hS3, ?_⟩
  try simp only [Act.put, List.setIfInBounds_toArray, List.set_cons_zero, List.set_cons_succ]
  clear hB3 hK K hS2
  refine wpAnyH_takeD (some 25) (i := 20) (v := ?_) rfl rfl (by kernel_rfl) (by kernel_rfl) (by kernel_rfl) (fun _ _ _ h => h) (.inl ⟨by kernel_rfl, ?_⟩) hS3 ?_
  rotate_left
  · intro w' hw'; go_simp; try with_reducible rfl
  try simp only [Act.put, List.setIfInBounds_toArray, List.set_cons_zero, List.set_cons_succ]
  refine wpAnyH_takeD (some 4) (i := 21) (v := ?_) rfl rfl (by kernel_rfl) (by kernel_rfl) (by kernel_rfl) (fun _ _ _ h => h) (.inl ⟨by kernel_rfl, ?_⟩) hS3 ?_
  rotate_left
  · intro w' hw'; go_simp; try with_reducible rfl
  try simp only [Act.put, List.setIfInBounds_toArray, List.set_cons_zero, List.set_cons_succ]
  refine wpAnyH_done (by kernel_rfl) ?_ _
  go_wp2_with fail
  go_ret
  exact ⟨congrArg Ending.returned (congrArg Value.string HE.out), bW0.trans (bR.mono bW0.size)⟩
set_option maxRecDepth 100000 in
set_option maxHeartbeats 4000000 in
theorem specTT_any (B m cap : Nat) (zs : List Int) (n : Int) (d0 d1 d2 d3 d4 d5 d6 d7 : Int) (c : Int) (w : World) (hS : Stk w B zs) (hm : m = zs.length) (hw : (Lit.int .i64 n).wf = true) (ho : Oct d0 d1 d2 d3 d4 d5 d6 d7) :
    Calls Tryd.prog 16 #[.slice (some ⟨B, 0, none⟩) m cap, .agg #[.int .i64 n, .int .u8 d0, .int .u8 d1, .int .u8 d2, .int .u8 d3, .int .u8 d4, .int .u8 d5, .int .u8 d6, .int .u8 d7, .int .u16 c]] w fun e w' => e = .returned (.string ⟨(tkR zs [d0, d1, d2, d3, d4, d5, d6, d7] n c).toArray⟩) ∧ Below w.heap.size w w' := by
  have hn : -9223372036854775808 ≤ n ∧ n ≤ 9223372036854775807 := by simp only [Lit.wf, Bool.and_eq_true, decide_eq_true_eq] at hw; exact hw
  have bel : Below w.heap.size w (w.alloc (.cells #[.int .i64 n, .int .u8 d0, .int .u8 d1, .int .u8 d2, .int .u8 d3, .int .u8 d4, .int .u8 d5, .int .u8 d6, .int .u8 d7, .int .u16 c] 47)) := (Below.refl _ w).alloc (Nat.le_refl _) _
  have r0 : Row (w.alloc (.cells #[.int .i64 n, .int .u8 d0, .int .u8 d1, .int .u8 d2, .int .u8 d3, .int .u8 d4, .int .u8 d5, .int .u8 d6, .int .u8 d7, .int .u16 c] 47)) w.heap.size 47 [.int .i64 n, .int .u8 d0, .int .u8 d1, .int .u8 d2, .int .u8 d3, .int .u8 d4, .int .u8 d5, .int .u8 d6, .int .u8 d7, .int .u16 c] := Row.new _ _ _
  have hK := hS.below bel hS.1
  have HO := hid (l01Ok_any B m cap zs (w.alloc (.cells #[.int .i64 n, .int .u8 d0, .int .u8 d1, .int .u8 d2, .int .u8 d3, .int .u8 d4, .int .u8 d5, .int .u8 d6, .int .u8 d7, .int .u16 c] 47)) hK hm)
  have HG := hid (l07Genuine_any w.heap.size B m cap zs n d0 d1 d2 d3 d4 d5 d6 d7 c (w.alloc (.cells #[.int .i64 n, .int .u8 d0, .int .u8 d1, .int .u8 d2, .int .u8 d3, .int .u8 d4, .int .u8 d5, .int .u8 d6, .int .u8 d7, .int .u16 c] 47)) hK hm hn ho r0)
  have HK := hid hK; have HR := hid r0; have HB := hid bel; have HM := hid hm; have HOc := hid ho
  clear hK r0 bel hw hS hm hn ho
  cases hz : okL zs with
  | false =>
    rw [tkR_no (genV_no hz)]
    rw [hz] at HO
    clear hz
    go_enter Tryd.func16, Tryd.ntmps16
    go_wp2_with (go_at_call 36; refine HO.out.mono ?_; rintro e w1 ⟨rfl, rfl⟩)
    go_ret
    exact ⟨rfl, HB.out⟩
  | true =>
    rw [hz] at HO
    cases hg : gen zs [d0, d1, d2, d3, d4, d5, d6, d7] n c with
    | false =>
      rw [tkR_no ((genV_of hz).trans hg)]
      rw [hg] at HG
      clear hz hg
      go_enter Tryd.func16, Tryd.ntmps16
      go_wp2_with (first | (go_at_call 36; refine HO.out.mono ?_; rintro e w1 ⟨rfl, rfl⟩) | (go_at_call 37; refine HG.out.mono ?_; rintro e w2 ⟨rfl, hB2⟩))
      go_ret
      exact ⟨rfl, HB.out.trans (hB2.mono (by simp))⟩
    | true =>
      have hgv := (genV_of (zs := zs) (ds := [d0, d1, d2, d3, d4, d5, d6, d7]) (n := n) (c := c) hz).trans hg
      obtain ⟨h1, h2, h3⟩ := genV_out hgv
      rw [tkR_yes hgv]
      rw [hg] at HG
      have HT := hid (fun w2 (hB2 : Below (w.alloc (.cells #[.int .i64 n, .int .u8 d0, .int .u8 d1, .int .u8 d2, .int .u8 d3, .int .u8 d4, .int .u8 d5, .int .u8 d6, .int .u8 d7, .int .u16 c] 47)).heap.size (w.alloc (.cells #[.int .i64 n, .int .u8 d0, .int .u8 d1, .int .u8 d2, .int .u8 d3, .int .u8 d4, .int .u8 d5, .int .u8 d6, .int .u8 d7, .int .u16 c] 47)) w2) => l07Ticket_any w.heap.size B m cap zs n d0 d1 d2 d3 d4 d5 d6 d7 c w2 (HK.out.below hB2 HK.out.1) HM.out h1 h3 h2 HOc.out (HR.out.below hB2 HR.out.lt))
      clear hz hg hgv h1 h2 h3
      go_enter Tryd.func16, Tryd.ntmps16
      go_wp2_with (first | (go_at_call 36; refine HO.out.mono ?_; rintro e w1 ⟨rfl, rfl⟩) | (go_at_call 37; refine HG.out.mono ?_; rintro e w2 ⟨rfl, hB2⟩; have HTW := hid (HT.out w2 hB2); have B2 := hid (show Below w.heap.size w w2 from HB.out.trans (hB2.mono (by simp))); clear hB2) | (go_at_call 38; refine HTW.out.mono ?_; rintro e w3 ⟨rfl, hB3⟩))
      go_ret
      exact ⟨rfl, B2.out.trans (hB3.mono B2.out.size)⟩
end Go.Proofs.YtkdndejfdlbcbaaDoor
