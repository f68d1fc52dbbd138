/- Texts of acts. -/
import Derived.Test.YtoenefhobjpfdaaGreatDoorActE
import Derived.Test.YtoenefhobjpfdaaGreatDoorBui
import Derived.Stop.Asserts
namespace Go.Proofs.YtoenefhobjpfdaaGreatDoor
open Go.RowKit Go.Shelf
set_option linter.unusedVariables false
set_option linter.unusedSimpArgs false
def wordA (k : Int) : List UInt8 := if k = 1 then [112, 117, 108, 115, 101] else if k = 2 then [98, 97, 99, 107] else if k = 3 then [112, 114, 101, 115, 101, 116] else if k = 4 then [114, 101, 115, 101, 116] else [116, 105, 99, 107, 101, 116]
def acW (k n : Int) : List UInt8 := if k ≤ 3 then wordA k ++ [32] ++ Lib.itoa n ++ [10] else wordA k ++ [10]
def acP (js : List (Int × Int)) (k : Nat) : List UInt8 := acW (ak js k) (an js k)
def acA (js : List (Int × Int)) (k : Nat) : List UInt8 := ((List.range k).map (acP js)).flatten
theorem acA_zero (js : List (Int × Int)) : acA js 0 = [] := rfl
theorem acA_succ (js : List (Int × Int)) (k : Nat) : acA js (k + 1) = acA js k ++ acP js k := by simp [acA, List.range_succ]
def acR (js : List (Int × Int)) : List UInt8 := if okAs js then (if js.length ≤ 60 then acA js js.length else []) else []
theorem acR_bad {js : List (Int × Int)} (h : okAs js = false) : acR js = [] := by simp [acR, h]
theorem acR_long {js : List (Int × Int)} (h : 60 < js.length) : acR js = [] := by
  unfold acR
  rw [if_neg (show ¬ js.length ≤ 60 by omega)]
  simp
theorem acR_yes {js : List (Int × Int)} (h : okAs js = true) (k : js.length ≤ 60) : acR js = acA js js.length := by rw [acR, if_pos h, if_pos k]
theorem itoa_neg : Lib.itoa (-1) = [45, 49] := by
  unfold Lib.itoa Lib.decDigits
  rfl
theorem itoa_act (n : Int) (h : -1 ≤ n ∧ n ≤ 1000000000000) : (Lib.itoa n).length ≤ 14 := by
  by_cases e : n = -1
  · subst e; rw [itoa_neg]; simp
  · exact itoa_bigO n (by omega)
theorem wordA_len (k : Int) : (wordA k).length ≤ 6 := by
  unfold wordA
  split
  · simp
  · split
    · simp
    · split
      · simp
      · split <;> simp
theorem acW_len {k n : Int} (h : okAct k n = true) : (acW k n).length ≤ 40 := by
  have a := wordA_len k
  have b := itoa_act n ⟨(okAct_bd h).1, (okAct_bd h).2.1⟩
  unfold acW
  split <;> simp <;> omega
theorem acA_len (js : List (Int × Int)) (h : okATo js js.length) : ∀ k, k ≤ js.length → (acA js k).length ≤ 40 * k
  | 0, _ => by simp [acA]
  | k + 1, hk => by
    have a := acA_len js h k (by omega)
    have b := acW_len (h k (by omega))
    rw [acA_succ]
    simp only [List.length_append]
    unfold acP
    omega
set_option maxHeartbeats 400000 in
theorem decimal64_neg (n : Int) (hn : -1 ≤ n ∧ n ≤ 1000000000000000) (wd : Nat) (hw : wd ≤ 100) (hl : (Lib.itoa n).length ≤ 40) (w : World) (hF : Calls Tryz.prog 56 #[.int .i64 n, .int .i64 10] w fun e w' => e = .returned (.string ⟨(Lib.itoa n).toArray⟩) ∧ Below w.heap.size w w') :
    Calls Tryz.prog 38 #[.int .i64 n, .int .i64 wd] w fun e w' => e = .returned (.string ⟨(padZ wd (Lib.itoa n)).toArray⟩) ∧ Below w.heap.size w w' := by
  have HF := hid hF
  have HR := hid (fun c (h : c ≤ 100) w => Tryz.strings_Repeat ⟨#[48]⟩ c w (by omega) (by simp [ByteArray.size]; omega))
  have hp : padZ wd (Lib.itoa n) = Lib.repeatL [48] (wd - (Lib.itoa n).length) ++ Lib.itoa n := by rw [repeat_zero]; rfl
  rw [hp]
  have h0 := hn.1
  have h9 := hn.2
  obtain ⟨s, hs⟩ : ∃ s, Lib.itoa n = s := ⟨_, rfl⟩
  rw [hs] at hl HF ⊢
  obtain ⟨L, hL⟩ : ∃ L, s.length = L := ⟨_, rfl⟩
  obtain ⟨c, hc⟩ : ∃ c, wd - L = c := ⟨_, rfl⟩
  rw [hL] at hl ⊢
  rw [hc]
  have HRc := hid (HR.out c (by omega))
  have hLe : (⟨s.toArray⟩ : ByteArray).size = L := by rw [← hL]; simp [ByteArray.size]
  have l0 : (0 : Int) ≤ (L : Int) := by omega
  have l9 : (L : Int) ≤ 40 := by omega
  have d0 : (0 : Int) ≤ (wd : Int) := by omega
  have d9 : (wd : Int) ≤ 100 := by omega
  have hmx : max (0 : Int) ((wd : Int) - (L : Int)) = (c : Int) := by omega
  obtain ⟨z, hz⟩ : ∃ z, Lib.repeatL [48] c = z := ⟨_, rfl⟩
  have hzl : z.length = c := by rw [← hz, repeat_zero]; simp
  have HRd : ∀ w, Calls Tryz.prog 57 #[.string ⟨#[48]⟩, .int .i64 c] w fun e w' => e = .returned (.string ⟨z.toArray⟩) ∧ Below w.heap.size w w' := fun w => by rw [← hz]; exact HRc.out w
  have HRc := hid HRd
  rw [hz]
  have HAP := hid (app_mk z s)
  have hsz : ¬ (9223372036854775807 < z.length + s.length) := by omega
  clear hF hn hs hc hp HR HRd hz hzl
  go_enter Tryz.func38, Tryz.ntmps38
  go_wp2_with fail
  refine HF.out.mono ?_
  rintro e w1 ⟨rfl, hB1⟩
  have B1 := hid hB1
  clear hB1
  go_wp2_with fail
  refine (HRc.out w1).mono ?_
  rintro e w2 ⟨rfl, hB2⟩
  have B2 := hid (B1.out.trans (hB2.mono B1.out.size))
  clear hB2
  go_wp2_with fail
  go_ret
  exact ⟨(show _ = Ending.returned (.string ((⟨z.toArray⟩ : ByteArray) ++ ⟨s.toArray⟩)) from rfl).trans (by rw [HAP.out]), B2.out⟩
theorem dec_act (z : Int) (h : -1 ≤ z ∧ z ≤ 1000000000000) (w : World) (ht : Lib.TabIs Tryz.prog w "internal/strconv.uint64pow10" .u64 Lib.pow10Tab) : Calls Tryz.prog 38 #[.int .i64 z, .int .i64 1] w fun e w' => e = .returned (.string ⟨(Lib.itoa z).toArray⟩) ∧ Below w.heap.size w w' := by
  by_cases e : z = -1
  · subst e
    have := decimal64_neg (-1) (by omega) 1 (by omega) (by rw [itoa_neg]; simp) w (fmt_tab (-1) (by omega) (by omega) w ht)
    rw [show padZ 1 (Lib.itoa (-1)) = Lib.itoa (-1) by rw [itoa_neg]; rfl] at this
    exact this
  · exact dec_i64O z (by omega) w ht
def WordsAt (w : World) (g : Nat) : Prop := Row w g 9 [.string ⟨#[]⟩, .string ⟨#[112, 117, 108, 115, 101]⟩, .string ⟨#[98, 97, 99, 107]⟩, .string ⟨#[112, 114, 101, 115, 101, 116]⟩, .string ⟨#[114, 101, 115, 101, 116]⟩, .string ⟨#[116, 105, 99, 107, 101, 116]⟩]
theorem actWords_any (w : World) : Calls Tryz.prog 21 #[] w fun e w' => e = .returned (.slice (some ⟨w.heap.size, 0, none⟩) 6 6) ∧ Below w.heap.size w w' ∧ WordsAt w' w.heap.size := by
  go_enter Tryz.func21, Tryz.ntmps21
  go_wp2
  go_ret
  exact ⟨rfl, (Below.refl _ _).alloc (Nat.le_refl _) _, Row.new w 9 [.string ⟨#[]⟩, .string ⟨#[112, 117, 108, 115, 101]⟩, .string ⟨#[98, 97, 99, 107]⟩, .string ⟨#[112, 114, 101, 115, 101, 116]⟩, .string ⟨#[114, 101, 115, 101, 116]⟩, .string ⟨#[116, 105, 99, 107, 101, 116]⟩]⟩
theorem l07Words_any (w : World) : Calls Tryz.prog 15 #[] w fun e w' => e = .returned (.slice (some ⟨w.heap.size, 0, none⟩) 6 6) ∧ Below w.heap.size w w' ∧ WordsAt w' w.heap.size := by
  go_enter Tryz.func15, Tryz.ntmps15
  go_wp2
  go_ret
  exact ⟨rfl, (Below.refl _ _).alloc (Nat.le_refl _) _, Row.new w 9 [.string ⟨#[]⟩, .string ⟨#[112, 117, 108, 115, 101]⟩, .string ⟨#[98, 97, 99, 107]⟩, .string ⟨#[112, 114, 101, 115, 101, 116]⟩, .string ⟨#[114, 101, 115, 101, 116]⟩, .string ⟨#[116, 105, 99, 107, 101, 116]⟩]⟩
theorem app4A (W A : List UInt8) : (⟨W.toArray⟩ : ByteArray) ++ ⟨#[32]⟩ ++ ⟨A.toArray⟩ ++ ⟨#[10]⟩ = ⟨(W ++ [32] ++ A ++ [10]).toArray⟩ := app4 W A
set_option maxRecDepth 100000 in
set_option maxHeartbeats 4000000 in
theorem actText_1 (n : Int) (h : okAct 1 n = true) (w : World) (ht : Lib.TabIs Tryz.prog w "internal/strconv.uint64pow10" .u64 Lib.pow10Tab) (hg : 7 < w.heap.size) :
    Calls Tryz.prog 25 #[.agg #[.int .i8 1, .int .i64 n]] w fun e w' => e = .returned (.string ⟨(acW 1 n).toArray⟩) ∧ Below w.heap.size w w' := by
  obtain ⟨n0, n1, n2, n3⟩ := okAct_bd h
  have HDE := hid (fun W => deed_1 n W)
  unfold deedV at HDE
  simp only [if_pos, if_neg, Int.reduceEq, if_true, if_false, reduceIte] at HDE
  have HDC := hid (fun W t => dec_act n ⟨n0, n1⟩ W t)
  have ta : ∀ w, (Instr.typeAssert (.iface 67 (.agg #[.int .i64 n, .int .i64 1])) 64 67 true).run Tryz.prog w = .ok (.tuple #[.agg #[.int .i64 n, .int .i64 1], .bool true]) w := fun _ => by kernel_rfl
  have tb : ∀ w, (Instr.typeAssert (.iface 67 (.agg #[.int .i64 n, .int .i64 1])) 64 68 true).run Tryz.prog w = .ok (.tuple #[.int .i64 0, .bool false]) w := fun _ => by kernel_rfl
  have HT := hid ht; have HG := hid hg
  have bB : Below w.heap.size w (w.alloc (.cells #[.int .i8 1, .int .i64 n] 32)) := (Below.refl _ _).alloc (Nat.le_refl _) _
  have rA := Row.new w 32 [.int .i8 1, .int .i64 n]
  have l1 := itoa_act n ⟨n0, n1⟩
  obtain ⟨A, hA⟩ : ∃ A, Lib.itoa n = A := ⟨_, rfl⟩
  have HA := hid hA
  rw [hA] at HDC l1
  have HFIN := hid (show Ending.returned (.string ((⟨#[112, 117, 108, 115, 101]⟩ : ByteArray) ++ ⟨#[32]⟩ ++ ⟨A.toArray⟩ ++ ⟨#[10]⟩)) = Ending.returned (.string ⟨(acW 1 n).toArray⟩) by rw [← HA.out, show (⟨#[112, 117, 108, 115, 101]⟩ : ByteArray) = ⟨([112, 117, 108, 115, 101] : List UInt8).toArray⟩ from rfl, app4A]; rfl)
  have s1 : ¬ (9223372036854775807 < 5 + 1 + A.length) := by omega
  have s2 : ¬ (9223372036854775807 < 5 + 1 + A.length + 1) := by omega
  have s3 : ¬ (9223372036854775807 < 6 + A.length) := by omega
  have s4 : ¬ (9223372036854775807 < 6 + A.length + 1) := by omega
  clear h n0 n1 n2 n3 ht hg l1 hA
  go_enter Tryz.func25, Tryz.ntmps25
  go_wp2_with fail
  refine wp_region_held (S := fun W' : World => Row W' w.heap.size 32 [.int .i8 1, .int .i64 n]) (by kernel_rfl) ?_
  change wpAnyH _ _ _ _ _ _ _ _ (World.drew _)
  obtain ⟨W0, hW0⟩ : ∃ X, X = World.drew ((w.alloc (.cells #[.int .i8 1, .int .i64 n] 32))) := ⟨_, rfl⟩
  have hD0 : Below ((w.alloc (.cells #[.int .i8 1, .int .i64 n] 32))).heap.size ((w.alloc (.cells #[.int .i8 1, .int .i64 n] 32))) W0 := by rw [hW0]; exact (Below.refl _ _).drew
  replace rA := rA.below hD0 rA.lt
  have bW0 := bB.trans (hD0.mono bB.size)
  have bR : Below W0.heap.size W0 W0 := Below.refl _ _
  rw [← hW0]
  clear hW0 hD0
  have l_rA := rA.lt
  have hS0 : (fun W' : World => Row W' w.heap.size 32 [.int .i8 1, .int .i64 n]) W0 := rA
  refine wpAnyH_takeD (some 5) (i := 1) (v := ?_) rfl rfl (by kernel_rfl) (by kernel_rfl) (by kernel_rfl) (fun _ _ _ h => h) (.inl ⟨by kernel_rfl, ?_⟩) hS0 ?_
  rotate_left
  · intro w' hw'; have hrow0 := hw'; have e0x0 := Row.cell hrow0 0; have e0x1 := Row.cell hrow0 1; simp only [List.getElem?_cons_zero, List.getElem?_cons_succ] at e0x0 e0x1; clear hrow0; clear hw'; go_simp; try with_reducible rfl
  try simp only [Act.put, List.setIfInBounds_toArray, List.set_cons_zero, List.set_cons_succ]
  refine wpAnyH_takeD (some 6) (i := 2) (v := ?_) rfl rfl (by kernel_rfl) (by kernel_rfl) (by kernel_rfl) (fun _ _ _ h => h) (.inl ⟨by kernel_rfl, ?_⟩) hS0 ?_
  rotate_left
  · intro w' hw'; have hrow0 := hw'; have e0x0 := Row.cell hrow0 0; have e0x1 := Row.cell hrow0 1; simp only [List.getElem?_cons_zero, List.getElem?_cons_succ] at e0x0 e0x1; clear hrow0; clear hw'; go_simp; try with_reducible rfl
  try simp only [Act.put, List.setIfInBounds_toArray, List.set_cons_zero, List.set_cons_succ]
  refine wpAnyH_all (rs := [0]) (by kernel_rfl) (by simp) ?_
  intro i hi; simp only [List.mem_cons, List.not_mem_nil, or_false] at hi
  subst hi
  refine wpOp_step rfl (fun K hK => ?_)
  go_simp
  with_reducible refine (actWords_any W0).mono ?_
  rintro e v1 ⟨rfl, hB1, rW⟩
  replace rA := rA.below hB1 rA.lt
  replace bR := bR.trans (hB1.mono bR.size)
  have hS1 : (fun W' : World => Row W' w.heap.size 32 [.int .i8 1, .int .i64 n]) v1 := rA
  refine hK _ _ ⟨hS1, ?_⟩
  try simp only [Act.put, List.setIfInBounds_toArray, List.set_cons_zero, List.set_cons_succ]
  clear hB1 hK K hS0
  refine wpAnyH_all (rs := [3]) (by kernel_rfl) (by simp) ?_
  intro i hi; simp only [List.mem_cons, List.not_mem_nil, or_false] at hi
  subst hi
  refine wpOp_step rfl (fun K hK => ?_)
  go_simp
  refine hK _ _ ⟨hS1, ?_⟩
  try simp only [Act.put, List.setIfInBounds_toArray, List.set_cons_zero, List.set_cons_succ]
  clear hK K
  refine wpAnyH_all (rs := [4]) (by kernel_rfl) (by simp) ?_
  intro i hi; simp only [List.mem_cons, List.not_mem_nil, or_false] at hi
  subst hi
  refine wpOp_step rfl (fun K hK => ?_)
  have cW := rW.cell 1
  simp only [List.getElem?_cons_zero, List.getElem?_cons_succ] at cW
  go_simp
  refine hK _ _ ⟨hS1, ?_⟩
  try simp only [Act.put, List.setIfInBounds_toArray, List.set_cons_zero, List.set_cons_succ]
  clear hK K
  refine wpAnyH_takeD (some 3) (i := 5) (v := ?_) rfl rfl (by kernel_rfl) (by kernel_rfl) (by kernel_rfl) (fun _ _ _ h => h) (.inl ⟨by kernel_rfl, ?_⟩) hS1 ?_
  rotate_left
  · intro w' hw'; go_simp; try with_reducible rfl
  try simp only [Act.put, List.setIfInBounds_toArray, List.set_cons_zero, List.set_cons_succ]
  refine wpAnyH_done (by kernel_rfl) ?_ _
  have bX := hid (bW0.trans (bR.mono bW0.size))
  have q := rA
  have a0 := q.cell 0; have a1 := q.cell 1
  simp only [List.getElem?_cons_zero, List.getElem?_cons_succ] at a0 a1
  have RA := hid rA
  clear q rA rW bW0 bR
  go_wp2_with fail
  refine (HDE.out _).mono ?_
  rintro e w5 ⟨rfl, hB5⟩
  have q := RA.out.below hB5 RA.out.lt
  have a0 := q.cell 0; have a1 := q.cell 1
  simp only [List.getElem?_cons_zero, List.getElem?_cons_succ] at a0 a1
  have b5 := hid (bX.out.trans (hB5.mono bX.out.size))
  clear q hB5
  go_wp2_with fail
  refine (HDC.out _ (tab_belowO HT.out b5.out HG.out)).mono ?_
  rintro e w6 ⟨rfl, hB6⟩
  have b6 := hid (b5.out.trans (hB6.mono b5.out.size))
  clear hB6
  go_wp2_with fail
  go_ret
  exact ⟨(show _ = Ending.returned (.string ((⟨#[112, 117, 108, 115, 101]⟩ : ByteArray) ++ ⟨#[32]⟩ ++ ⟨A.toArray⟩ ++ ⟨#[10]⟩)) from rfl).trans HFIN.out, b6.out⟩
set_option maxRecDepth 100000 in
set_option maxHeartbeats 4000000 in
theorem actText_2 (n : Int) (h : okAct 2 n = true) (w : World) (ht : Lib.TabIs Tryz.prog w "internal/strconv.uint64pow10" .u64 Lib.pow10Tab) (hg : 7 < w.heap.size) :
    Calls Tryz.prog 25 #[.agg #[.int .i8 2, .int .i64 n]] w fun e w' => e = .returned (.string ⟨(acW 2 n).toArray⟩) ∧ Below w.heap.size w w' := by
  obtain ⟨n0, n1, n2, n3⟩ := okAct_bd h
  have HDE := hid (fun W => deed_2 n W)
  unfold deedV at HDE
  simp only [if_pos, if_neg, Int.reduceEq, if_true, if_false, reduceIte] at HDE
  have HDC := hid (fun W t => dec_act n ⟨n0, n1⟩ W t)
  have ta : ∀ w, (Instr.typeAssert (.iface 67 (.agg #[.int .i64 n, .int .i64 (-1)])) 64 67 true).run Tryz.prog w = .ok (.tuple #[.agg #[.int .i64 n, .int .i64 (-1)], .bool true]) w := fun _ => by kernel_rfl
  have tb : ∀ w, (Instr.typeAssert (.iface 67 (.agg #[.int .i64 n, .int .i64 (-1)])) 64 68 true).run Tryz.prog w = .ok (.tuple #[.int .i64 0, .bool false]) w := fun _ => by kernel_rfl
  have HT := hid ht; have HG := hid hg
  have bB : Below w.heap.size w (w.alloc (.cells #[.int .i8 2, .int .i64 n] 32)) := (Below.refl _ _).alloc (Nat.le_refl _) _
  have rA := Row.new w 32 [.int .i8 2, .int .i64 n]
  have l1 := itoa_act n ⟨n0, n1⟩
  obtain ⟨A, hA⟩ : ∃ A, Lib.itoa n = A := ⟨_, rfl⟩
  have HA := hid hA
  rw [hA] at HDC l1
  have HFIN := hid (show Ending.returned (.string ((⟨#[98, 97, 99, 107]⟩ : ByteArray) ++ ⟨#[32]⟩ ++ ⟨A.toArray⟩ ++ ⟨#[10]⟩)) = Ending.returned (.string ⟨(acW 2 n).toArray⟩) by rw [← HA.out, show (⟨#[98, 97, 99, 107]⟩ : ByteArray) = ⟨([98, 97, 99, 107] : List UInt8).toArray⟩ from rfl, app4A]; rfl)
  have s1 : ¬ (9223372036854775807 < 4 + 1 + A.length) := by omega
  have s2 : ¬ (9223372036854775807 < 4 + 1 + A.length + 1) := by omega
  have s3 : ¬ (9223372036854775807 < 5 + A.length) := by omega
  have s4 : ¬ (9223372036854775807 < 5 + A.length + 1) := by omega
  clear h n0 n1 n2 n3 ht hg l1 hA
  go_enter Tryz.func25, Tryz.ntmps25
  go_wp2_with fail
  refine wp_region_held (S := fun W' : World => Row W' w.heap.size 32 [.int .i8 2, .int .i64 n]) (by kernel_rfl) ?_
  change wpAnyH _ _ _ _ _ _ _ _ (World.drew _)
  obtain ⟨W0, hW0⟩ : ∃ X, X = World.drew ((w.alloc (.cells #[.int .i8 2, .int .i64 n] 32))) := ⟨_, rfl⟩
  have hD0 : Below ((w.alloc (.cells #[.int .i8 2, .int .i64 n] 32))).heap.size ((w.alloc (.cells #[.int .i8 2, .int .i64 n] 32))) W0 := by rw [hW0]; exact (Below.refl _ _).drew
  replace rA := rA.below hD0 rA.lt
  have bW0 := bB.trans (hD0.mono bB.size)
  have bR : Below W0.heap.size W0 W0 := Below.refl _ _
  rw [← hW0]
  clear hW0 hD0
  have l_rA := rA.lt
  have hS0 : (fun W' : World => Row W' w.heap.size 32 [.int .i8 2, .int .i64 n]) W0 := rA
  refine wpAnyH_takeD (some 5) (i := 1) (v := ?_) rfl rfl (by kernel_rfl) (by kernel_rfl) (by kernel_rfl) (fun _ _ _ h => h) (.inl ⟨by kernel_rfl, ?_⟩) hS0 ?_
  rotate_left
  · intro w' hw'; have hrow0 := hw'; have e0x0 := Row.cell hrow0 0; have e0x1 := Row.cell hrow0 1; simp only [List.getElem?_cons_zero, List.getElem?_cons_succ] at e0x0 e0x1; clear hrow0; clear hw'; go_simp; try with_reducible rfl
  try simp only [Act.put, List.setIfInBounds_toArray, List.set_cons_zero, List.set_cons_succ]
  refine wpAnyH_takeD (some 6) (i := 2) (v := ?_) rfl rfl (by kernel_rfl) (by kernel_rfl) (by kernel_rfl) (fun _ _ _ h => h) (.inl ⟨by kernel_rfl, ?_⟩) hS0 ?_
  rotate_left
  · intro w' hw'; have hrow0 := hw'; have e0x0 := Row.cell hrow0 0; have e0x1 := Row.cell hrow0 1; simp only [List.getElem?_cons_zero, List.getElem?_cons_succ] at e0x0 e0x1; clear hrow0; clear hw'; go_simp; try with_reducible rfl
  try simp only [Act.put, List.setIfInBounds_toArray, List.set_cons_zero, List.set_cons_succ]
  refine wpAnyH_all (rs := [0]) (by kernel_rfl) (by simp) ?_
  intro i hi; simp only [List.mem_cons, List.not_mem_nil, or_false] at hi
  subst hi
  refine wpOp_step rfl (fun K hK => ?_)
  go_simp
  with_reducible refine (actWords_any W0).mono ?_
  rintro e v1 ⟨rfl, hB1, rW⟩
  replace rA := rA.below hB1 rA.lt
  replace bR := bR.trans (hB1.mono bR.size)
  have hS1 : (fun W' : World => Row W' w.heap.size 32 [.int .i8 2, .int .i64 n]) v1 := rA
  refine hK _ _ ⟨hS1, ?_⟩
  try simp only [Act.put, List.setIfInBounds_toArray, List.set_cons_zero, List.set_cons_succ]
  clear hB1 hK K hS0
  refine wpAnyH_all (rs := [3]) (by kernel_rfl) (by simp) ?_
  intro i hi; simp only [List.mem_cons, List.not_mem_nil, or_false] at hi
  subst hi
  refine wpOp_step rfl (fun K hK => ?_)
  go_simp
  refine hK _ _ ⟨hS1, ?_⟩
  try simp only [Act.put, List.setIfInBounds_toArray, List.set_cons_zero, List.set_cons_succ]
  clear hK K
  refine wpAnyH_all (rs := [4]) (by kernel_rfl) (by simp) ?_
  intro i hi; simp only [List.mem_cons, List.not_mem_nil, or_false] at hi
  subst hi
  refine wpOp_step rfl (fun K hK => ?_)
  have cW := rW.cell 2
  simp only [List.getElem?_cons_zero, List.getElem?_cons_succ] at cW
  go_simp
  refine hK _ _ ⟨hS1, ?_⟩
  try simp only [Act.put, List.setIfInBounds_toArray, List.set_cons_zero, List.set_cons_succ]
  clear hK K
  refine wpAnyH_takeD (some 3) (i := 5) (v := ?_) rfl rfl (by kernel_rfl) (by kernel_rfl) (by kernel_rfl) (fun _ _ _ h => h) (.inl ⟨by kernel_rfl, ?_⟩) hS1 ?_
  rotate_left
  · intro w' hw'; go_simp; try with_reducible rfl
  try simp only [Act.put, List.setIfInBounds_toArray, List.set_cons_zero, List.set_cons_succ]
  refine wpAnyH_done (by kernel_rfl) ?_ _
  have bX := hid (bW0.trans (bR.mono bW0.size))
  have q := rA
  have a0 := q.cell 0; have a1 := q.cell 1
  simp only [List.getElem?_cons_zero, List.getElem?_cons_succ] at a0 a1
  have RA := hid rA
  clear q rA rW bW0 bR
  go_wp2_with fail
  refine (HDE.out _).mono ?_
  rintro e w5 ⟨rfl, hB5⟩
  have q := RA.out.below hB5 RA.out.lt
  have a0 := q.cell 0; have a1 := q.cell 1
  simp only [List.getElem?_cons_zero, List.getElem?_cons_succ] at a0 a1
  have b5 := hid (bX.out.trans (hB5.mono bX.out.size))
  clear q hB5
  go_wp2_with fail
  refine (HDC.out _ (tab_belowO HT.out b5.out HG.out)).mono ?_
  rintro e w6 ⟨rfl, hB6⟩
  have b6 := hid (b5.out.trans (hB6.mono b5.out.size))
  clear hB6
  go_wp2_with fail
  go_ret
  exact ⟨(show _ = Ending.returned (.string ((⟨#[98, 97, 99, 107]⟩ : ByteArray) ++ ⟨#[32]⟩ ++ ⟨A.toArray⟩ ++ ⟨#[10]⟩)) from rfl).trans HFIN.out, b6.out⟩
set_option maxRecDepth 100000 in
set_option maxHeartbeats 4000000 in
theorem actText_3 (n : Int) (h : okAct 3 n = true) (w : World) (ht : Lib.TabIs Tryz.prog w "internal/strconv.uint64pow10" .u64 Lib.pow10Tab) (hg : 7 < w.heap.size) :
    Calls Tryz.prog 25 #[.agg #[.int .i8 3, .int .i64 n]] w fun e w' => e = .returned (.string ⟨(acW 3 n).toArray⟩) ∧ Below w.heap.size w w' := by
  obtain ⟨n0, n1, n2, n3⟩ := okAct_bd h
  have HDE := hid (fun W => deed_3 n W)
  unfold deedV at HDE
  simp only [if_pos, if_neg, Int.reduceEq, if_true, if_false, reduceIte] at HDE
  have HDC := hid (fun W t => dec_act n ⟨n0, n1⟩ W t)
  have ta : ∀ w, (Instr.typeAssert (.iface 68 (.int .i64 n)) 64 67 true).run Tryz.prog w = .ok (.tuple #[.agg #[.int .i64 0, .int .i64 0], .bool false]) w := fun _ => by kernel_rfl
  have tb : ∀ w, (Instr.typeAssert (.iface 68 (.int .i64 n)) 64 68 true).run Tryz.prog w = .ok (.tuple #[.int .i64 n, .bool true]) w := fun _ => by kernel_rfl
  have HT := hid ht; have HG := hid hg
  have bB : Below w.heap.size w (w.alloc (.cells #[.int .i8 3, .int .i64 n] 32)) := (Below.refl _ _).alloc (Nat.le_refl _) _
  have rA := Row.new w 32 [.int .i8 3, .int .i64 n]
  have l1 := itoa_act n ⟨n0, n1⟩
  obtain ⟨A, hA⟩ : ∃ A, Lib.itoa n = A := ⟨_, rfl⟩
  have HA := hid hA
  rw [hA] at HDC l1
  have HFIN := hid (show Ending.returned (.string ((⟨#[112, 114, 101, 115, 101, 116]⟩ : ByteArray) ++ ⟨#[32]⟩ ++ ⟨A.toArray⟩ ++ ⟨#[10]⟩)) = Ending.returned (.string ⟨(acW 3 n).toArray⟩) by rw [← HA.out, show (⟨#[112, 114, 101, 115, 101, 116]⟩ : ByteArray) = ⟨([112, 114, 101, 115, 101, 116] : List UInt8).toArray⟩ from rfl, app4A]; rfl)
  have s1 : ¬ (9223372036854775807 < 6 + 1 + A.length) := by omega
  have s2 : ¬ (9223372036854775807 < 6 + 1 + A.length + 1) := by omega
  have s3 : ¬ (9223372036854775807 < 7 + A.length) := by omega
  have s4 : ¬ (9223372036854775807 < 7 + A.length + 1) := by omega
  clear h n0 n1 n2 n3 ht hg l1 hA
  go_enter Tryz.func25, Tryz.ntmps25
  go_wp2_with fail
  refine wp_region_held (S := fun W' : World => Row W' w.heap.size 32 [.int .i8 3, .int .i64 n]) (by kernel_rfl) ?_
  change wpAnyH _ _ _ _ _ _ _ _ (World.drew _)
  obtain ⟨W0, hW0⟩ : ∃ X, X = World.drew ((w.alloc (.cells #[.int .i8 3, .int .i64 n] 32))) := ⟨_, rfl⟩
  have hD0 : Below ((w.alloc (.cells #[.int .i8 3, .int .i64 n] 32))).heap.size ((w.alloc (.cells #[.int .i8 3, .int .i64 n] 32))) W0 := by rw [hW0]; exact (Below.refl _ _).drew
  replace rA := rA.below hD0 rA.lt
  have bW0 := bB.trans (hD0.mono bB.size)
  have bR : Below W0.heap.size W0 W0 := Below.refl _ _
  rw [← hW0]
  clear hW0 hD0
  have l_rA := rA.lt
  have hS0 : (fun W' : World => Row W' w.heap.size 32 [.int .i8 3, .int .i64 n]) W0 := rA
  refine wpAnyH_takeD (some 5) (i := 1) (v := ?_) rfl rfl (by kernel_rfl) (by kernel_rfl) (by kernel_rfl) (fun _ _ _ h => h) (.inl ⟨by kernel_rfl, ?_⟩) hS0 ?_
  rotate_left
  · intro w' hw'; have hrow0 := hw'; have e0x0 := Row.cell hrow0 0; have e0x1 := Row.cell hrow0 1; simp only [List.getElem?_cons_zero, List.getElem?_cons_succ] at e0x0 e0x1; clear hrow0; clear hw'; go_simp; try with_reducible rfl
  try simp only [Act.put, List.setIfInBounds_toArray, List.set_cons_zero, List.set_cons_succ]
  refine wpAnyH_takeD (some 6) (i := 2) (v := ?_) rfl rfl (by kernel_rfl) (by kernel_rfl) (by kernel_rfl) (fun _ _ _ h => h) (.inl ⟨by kernel_rfl, ?_⟩) hS0 ?_
  rotate_left
  · intro w' hw'; have hrow0 := hw'; have e0x0 := Row.cell hrow0 0; have e0x1 := Row.cell hrow0 1; simp only [List.getElem?_cons_zero, List.getElem?_cons_succ] at e0x0 e0x1; clear hrow0; clear hw'; go_simp; try with_reducible rfl
  try simp only [Act.put, List.setIfInBounds_toArray, List.set_cons_zero, List.set_cons_succ]
  refine wpAnyH_all (rs := [0]) (by kernel_rfl) (by simp) ?_
  intro i hi; simp only [List.mem_cons, List.not_mem_nil, or_false] at hi
  subst hi
  refine wpOp_step rfl (fun K hK => ?_)
  go_simp
  with_reducible refine (actWords_any W0).mono ?_
  rintro e v1 ⟨rfl, hB1, rW⟩
  replace rA := rA.below hB1 rA.lt
  replace bR := bR.trans (hB1.mono bR.size)
  have hS1 : (fun W' : World => Row W' w.heap.size 32 [.int .i8 3, .int .i64 n]) v1 := rA
  refine hK _ _ ⟨hS1, ?_⟩
  try simp only [Act.put, List.setIfInBounds_toArray, List.set_cons_zero, List.set_cons_succ]
  clear hB1 hK K hS0
  refine wpAnyH_all (rs := [3]) (by kernel_rfl) (by simp) ?_
  intro i hi; simp only [List.mem_cons, List.not_mem_nil, or_false] at hi
  subst hi
  refine wpOp_step rfl (fun K hK => ?_)
  go_simp
  refine hK _ _ ⟨hS1, ?_⟩
  try simp only [Act.put, List.setIfInBounds_toArray, List.set_cons_zero, List.set_cons_succ]
  clear hK K
  refine wpAnyH_all (rs := [4]) (by kernel_rfl) (by simp) ?_
  intro i hi; simp only [List.mem_cons, List.not_mem_nil, or_false] at hi
  subst hi
  refine wpOp_step rfl (fun K hK => ?_)
  have cW := rW.cell 3
  simp only [List.getElem?_cons_zero, List.getElem?_cons_succ] at cW
  go_simp
  refine hK _ _ ⟨hS1, ?_⟩
  try simp only [Act.put, List.setIfInBounds_toArray, List.set_cons_zero, List.set_cons_succ]
  clear hK K
  refine wpAnyH_takeD (some 3) (i := 5) (v := ?_) rfl rfl (by kernel_rfl) (by kernel_rfl) (by kernel_rfl) (fun _ _ _ h => h) (.inl ⟨by kernel_rfl, ?_⟩) hS1 ?_
  rotate_left
  · intro w' hw'; go_simp; try with_reducible rfl
  try simp only [Act.put, List.setIfInBounds_toArray, List.set_cons_zero, List.set_cons_succ]
  refine wpAnyH_done (by kernel_rfl) ?_ _
  have bX := hid (bW0.trans (bR.mono bW0.size))
  have q := rA
  have a0 := q.cell 0; have a1 := q.cell 1
  simp only [List.getElem?_cons_zero, List.getElem?_cons_succ] at a0 a1
  have RA := hid rA
  clear q rA rW bW0 bR
  go_wp2_with fail
  refine (HDE.out _).mono ?_
  rintro e w5 ⟨rfl, hB5⟩
  have q := RA.out.below hB5 RA.out.lt
  have a0 := q.cell 0; have a1 := q.cell 1
  simp only [List.getElem?_cons_zero, List.getElem?_cons_succ] at a0 a1
  have b5 := hid (bX.out.trans (hB5.mono bX.out.size))
  clear q hB5
  go_wp2_with fail
  refine (HDC.out _ (tab_belowO HT.out b5.out HG.out)).mono ?_
  rintro e w6 ⟨rfl, hB6⟩
  have b6 := hid (b5.out.trans (hB6.mono b5.out.size))
  clear hB6
  go_wp2_with fail
  go_ret
  exact ⟨(show _ = Ending.returned (.string ((⟨#[112, 114, 101, 115, 101, 116]⟩ : ByteArray) ++ ⟨#[32]⟩ ++ ⟨A.toArray⟩ ++ ⟨#[10]⟩)) from rfl).trans HFIN.out, b6.out⟩
set_option maxRecDepth 100000 in
set_option maxHeartbeats 4000000 in
theorem actText_4 (n : Int) (h : okAct 4 n = true) (w : World) (ht : Lib.TabIs Tryz.prog w "internal/strconv.uint64pow10" .u64 Lib.pow10Tab) (hg : 7 < w.heap.size) :
    Calls Tryz.prog 25 #[.agg #[.int .i8 4, .int .i64 n]] w fun e w' => e = .returned (.string ⟨(acW 4 n).toArray⟩) ∧ Below w.heap.size w w' := by
  obtain ⟨n0, n1, n2, n3⟩ := okAct_bd h
  have HDE := hid (fun W => deed_4 n W)
  unfold deedV at HDE
  simp only [if_pos, if_neg, Int.reduceEq, if_true, if_false, reduceIte] at HDE
  have HDC := hid (fun W t => dec_act n ⟨n0, n1⟩ W t)
  have ta : ∀ w, (Instr.typeAssert (.iface 99 (.agg #[])) 64 67 true).run Tryz.prog w = .ok (.tuple #[.agg #[.int .i64 0, .int .i64 0], .bool false]) w := fun _ => by kernel_rfl
  have tb : ∀ w, (Instr.typeAssert (.iface 99 (.agg #[])) 64 68 true).run Tryz.prog w = .ok (.tuple #[.int .i64 0, .bool false]) w := fun _ => by kernel_rfl
  have HT := hid ht; have HG := hid hg
  have bB : Below w.heap.size w (w.alloc (.cells #[.int .i8 4, .int .i64 n] 32)) := (Below.refl _ _).alloc (Nat.le_refl _) _
  have rA := Row.new w 32 [.int .i8 4, .int .i64 n]
  have HFIN := hid (show Ending.returned (.string ((⟨#[114, 101, 115, 101, 116]⟩ : ByteArray) ++ ⟨#[10]⟩)) = Ending.returned (.string ⟨(acW 4 n).toArray⟩) from rfl)
  clear h n0 n1 n2 n3 ht hg
  go_enter Tryz.func25, Tryz.ntmps25
  go_wp2_with fail
  refine wp_region_held (S := fun W' : World => Row W' w.heap.size 32 [.int .i8 4, .int .i64 n]) (by kernel_rfl) ?_
  change wpAnyH _ _ _ _ _ _ _ _ (World.drew _)
  obtain ⟨W0, hW0⟩ : ∃ X, X = World.drew ((w.alloc (.cells #[.int .i8 4, .int .i64 n] 32))) := ⟨_, rfl⟩
  have hD0 : Below ((w.alloc (.cells #[.int .i8 4, .int .i64 n] 32))).heap.size ((w.alloc (.cells #[.int .i8 4, .int .i64 n] 32))) W0 := by rw [hW0]; exact (Below.refl _ _).drew
  replace rA := rA.below hD0 rA.lt
  have bW0 := bB.trans (hD0.mono bB.size)
  have bR : Below W0.heap.size W0 W0 := Below.refl _ _
  rw [← hW0]
  clear hW0 hD0
  have l_rA := rA.lt
  have hS0 : (fun W' : World => Row W' w.heap.size 32 [.int .i8 4, .int .i64 n]) W0 := rA
  refine wpAnyH_takeD (some 5) (i := 1) (v := ?_) rfl rfl (by kernel_rfl) (by kernel_rfl) (by kernel_rfl) (fun _ _ _ h => h) (.inl ⟨by kernel_rfl, ?_⟩) hS0 ?_
  rotate_left
  · intro w' hw'; have hrow0 := hw'; have e0x0 := Row.cell hrow0 0; have e0x1 := Row.cell hrow0 1; simp only [List.getElem?_cons_zero, List.getElem?_cons_succ] at e0x0 e0x1; clear hrow0; clear hw'; go_simp; try with_reducible rfl
  try simp only [Act.put, List.setIfInBounds_toArray, List.set_cons_zero, List.set_cons_succ]
  refine wpAnyH_takeD (some 6) (i := 2) (v := ?_) rfl rfl (by kernel_rfl) (by kernel_rfl) (by kernel_rfl) (fun _ _ _ h => h) (.inl ⟨by kernel_rfl, ?_⟩) hS0 ?_
  rotate_left
  · intro w' hw'; have hrow0 := hw'; have e0x0 := Row.cell hrow0 0; have e0x1 := Row.cell hrow0 1; simp only [List.getElem?_cons_zero, List.getElem?_cons_succ] at e0x0 e0x1; clear hrow0; clear hw'; go_simp; try with_reducible rfl
  try simp only [Act.put, List.setIfInBounds_toArray, List.set_cons_zero, List.set_cons_succ]
  refine wpAnyH_all (rs := [0]) (by kernel_rfl) (by simp) ?_
  intro i hi; simp only [List.mem_cons, List.not_mem_nil, or_false] at hi
  subst hi
  refine wpOp_step rfl (fun K hK => ?_)
  go_simp
  with_reducible refine (actWords_any W0).mono ?_
  rintro e v1 ⟨rfl, hB1, rW⟩
  replace rA := rA.below hB1 rA.lt
  replace bR := bR.trans (hB1.mono bR.size)
  have hS1 : (fun W' : World => Row W' w.heap.size 32 [.int .i8 4, .int .i64 n]) v1 := rA
  refine hK _ _ ⟨hS1, ?_⟩
  try simp only [Act.put, List.setIfInBounds_toArray, List.set_cons_zero, List.set_cons_succ]
  clear hB1 hK K hS0
  refine wpAnyH_all (rs := [3]) (by kernel_rfl) (by simp) ?_
  intro i hi; simp only [List.mem_cons, List.not_mem_nil, or_false] at hi
  subst hi
  refine wpOp_step rfl (fun K hK => ?_)
  go_simp
  refine hK _ _ ⟨hS1, ?_⟩
  try simp only [Act.put, List.setIfInBounds_toArray, List.set_cons_zero, List.set_cons_succ]
  clear hK K
  refine wpAnyH_all (rs := [4]) (by kernel_rfl) (by simp) ?_
  intro i hi; simp only [List.mem_cons, List.not_mem_nil, or_false] at hi
  subst hi
  refine wpOp_step rfl (fun K hK => ?_)
  have cW := rW.cell 4
  simp only [List.getElem?_cons_zero, List.getElem?_cons_succ] at cW
  go_simp
  refine hK _ _ ⟨hS1, ?_⟩
  try simp only [Act.put, List.setIfInBounds_toArray, List.set_cons_zero, List.set_cons_succ]
  clear hK K
  refine wpAnyH_takeD (some 3) (i := 5) (v := ?_) rfl rfl (by kernel_rfl) (by kernel_rfl) (by kernel_rfl) (fun _ _ _ h => h) (.inl ⟨by kernel_rfl, ?_⟩) hS1 ?_
  rotate_left
  · intro w' hw'; go_simp; try with_reducible rfl
  try simp only [Act.put, List.setIfInBounds_toArray, List.set_cons_zero, List.set_cons_succ]
  refine wpAnyH_done (by kernel_rfl) ?_ _
  have bX := hid (bW0.trans (bR.mono bW0.size))
  have q := rA
  have a0 := q.cell 0; have a1 := q.cell 1
  simp only [List.getElem?_cons_zero, List.getElem?_cons_succ] at a0 a1
  have RA := hid rA
  clear q rA rW bW0 bR
  go_wp2_with fail
  refine (HDE.out _).mono ?_
  rintro e w5 ⟨rfl, hB5⟩
  have q := RA.out.below hB5 RA.out.lt
  have a0 := q.cell 0; have a1 := q.cell 1
  simp only [List.getElem?_cons_zero, List.getElem?_cons_succ] at a0 a1
  have b5 := hid (bX.out.trans (hB5.mono bX.out.size))
  clear q hB5
  go_wp2_with fail
  go_ret
  exact ⟨(show _ = Ending.returned (.string ((⟨#[114, 101, 115, 101, 116]⟩ : ByteArray) ++ ⟨#[10]⟩)) from rfl).trans HFIN.out, b5.out⟩
set_option maxRecDepth 100000 in
set_option maxHeartbeats 4000000 in
theorem actText_5 (n : Int) (h : okAct 5 n = true) (w : World) (ht : Lib.TabIs Tryz.prog w "internal/strconv.uint64pow10" .u64 Lib.pow10Tab) (hg : 7 < w.heap.size) :
    Calls Tryz.prog 25 #[.agg #[.int .i8 5, .int .i64 n]] w fun e w' => e = .returned (.string ⟨(acW 5 n).toArray⟩) ∧ Below w.heap.size w w' := by
  obtain ⟨n0, n1, n2, n3⟩ := okAct_bd h
  have HDE := hid (fun W => deed_5 n W)
  unfold deedV at HDE
  simp only [if_pos, if_neg, Int.reduceEq, if_true, if_false, reduceIte] at HDE
  have HDC := hid (fun W t => dec_act n ⟨n0, n1⟩ W t)
  have ta : ∀ w, (Instr.typeAssert (.iface 100 (.agg #[])) 64 67 true).run Tryz.prog w = .ok (.tuple #[.agg #[.int .i64 0, .int .i64 0], .bool false]) w := fun _ => by kernel_rfl
  have tb : ∀ w, (Instr.typeAssert (.iface 100 (.agg #[])) 64 68 true).run Tryz.prog w = .ok (.tuple #[.int .i64 0, .bool false]) w := fun _ => by kernel_rfl
  have HT := hid ht; have HG := hid hg
  have bB : Below w.heap.size w (w.alloc (.cells #[.int .i8 5, .int .i64 n] 32)) := (Below.refl _ _).alloc (Nat.le_refl _) _
  have rA := Row.new w 32 [.int .i8 5, .int .i64 n]
  have HFIN := hid (show Ending.returned (.string ((⟨#[116, 105, 99, 107, 101, 116]⟩ : ByteArray) ++ ⟨#[10]⟩)) = Ending.returned (.string ⟨(acW 5 n).toArray⟩) from rfl)
  clear h n0 n1 n2 n3 ht hg
  go_enter Tryz.func25, Tryz.ntmps25
  go_wp2_with fail
  refine wp_region_held (S := fun W' : World => Row W' w.heap.size 32 [.int .i8 5, .int .i64 n]) (by kernel_rfl) ?_
  change wpAnyH _ _ _ _ _ _ _ _ (World.drew _)
  obtain ⟨W0, hW0⟩ : ∃ X, X = World.drew ((w.alloc (.cells #[.int .i8 5, .int .i64 n] 32))) := ⟨_, rfl⟩
  have hD0 : Below ((w.alloc (.cells #[.int .i8 5, .int .i64 n] 32))).heap.size ((w.alloc (.cells #[.int .i8 5, .int .i64 n] 32))) W0 := by rw [hW0]; exact (Below.refl _ _).drew
  replace rA := rA.below hD0 rA.lt
  have bW0 := bB.trans (hD0.mono bB.size)
  have bR : Below W0.heap.size W0 W0 := Below.refl _ _
  rw [← hW0]
  clear hW0 hD0
  have l_rA := rA.lt
  have hS0 : (fun W' : World => Row W' w.heap.size 32 [.int .i8 5, .int .i64 n]) W0 := rA
  refine wpAnyH_takeD (some 5) (i := 1) (v := ?_) rfl rfl (by kernel_rfl) (by kernel_rfl) (by kernel_rfl) (fun _ _ _ h => h) (.inl ⟨by kernel_rfl, ?_⟩) hS0 ?_
  rotate_left
  · intro w' hw'; have hrow0 := hw'; have e0x0 := Row.cell hrow0 0; have e0x1 := Row.cell hrow0 1; simp only [List.getElem?_cons_zero, List.getElem?_cons_succ] at e0x0 e0x1; clear hrow0; clear hw'; go_simp; try with_reducible rfl
  try simp only [Act.put, List.setIfInBounds_toArray, List.set_cons_zero, List.set_cons_succ]
  refine wpAnyH_takeD (some 6) (i := 2) (v := ?_) rfl rfl (by kernel_rfl) (by kernel_rfl) (by kernel_rfl) (fun _ _ _ h => h) (.inl ⟨by kernel_rfl, ?_⟩) hS0 ?_
  rotate_left
  · intro w' hw'; have hrow0 := hw'; have e0x0 := Row.cell hrow0 0; have e0x1 := Row.cell hrow0 1; simp only [List.getElem?_cons_zero, List.getElem?_cons_succ] at e0x0 e0x1; clear hrow0; clear hw'; go_simp; try with_reducible rfl
  try simp only [Act.put, List.setIfInBounds_toArray, List.set_cons_zero, List.set_cons_succ]
  refine wpAnyH_all (rs := [0]) (by kernel_rfl) (by simp) ?_
  intro i hi; simp only [List.mem_cons, List.not_mem_nil, or_false] at hi
  subst hi
  refine wpOp_step rfl (fun K hK => ?_)
  go_simp
  with_reducible refine (actWords_any W0).mono ?_
  rintro e v1 ⟨rfl, hB1, rW⟩
  replace rA := rA.below hB1 rA.lt
  replace bR := bR.trans (hB1.mono bR.size)
  have hS1 : (fun W' : World => Row W' w.heap.size 32 [.int .i8 5, .int .i64 n]) v1 := rA
  refine hK _ _ ⟨hS1, ?_⟩
  try simp only [Act.put, List.setIfInBounds_toArray, List.set_cons_zero, List.set_cons_succ]
  clear hB1 hK K hS0
  refine wpAnyH_all (rs := [3]) (by kernel_rfl) (by simp) ?_
  intro i hi; simp only [List.mem_cons, List.not_mem_nil, or_false] at hi
  subst hi
  refine wpOp_step rfl (fun K hK => ?_)
  go_simp
  refine hK _ _ ⟨hS1, ?_⟩
  try simp only [Act.put, List.setIfInBounds_toArray, List.set_cons_zero, List.set_cons_succ]
  clear hK K
  refine wpAnyH_all (rs := [4]) (by kernel_rfl) (by simp) ?_
  intro i hi; simp only [List.mem_cons, List.not_mem_nil, or_false] at hi
  subst hi
  refine wpOp_step rfl (fun K hK => ?_)
  have cW := rW.cell 5
  simp only [List.getElem?_cons_zero, List.getElem?_cons_succ] at cW
  go_simp
  refine hK _ _ ⟨hS1, ?_⟩
  try simp only [Act.put, List.setIfInBounds_toArray, List.set_cons_zero, List.set_cons_succ]
  clear hK K
  refine wpAnyH_takeD (some 3) (i := 5) (v := ?_) rfl rfl (by kernel_rfl) (by kernel_rfl) (by kernel_rfl) (fun _ _ _ h => h) (.inl ⟨by kernel_rfl, ?_⟩) hS1 ?_
  rotate_left
  · intro w' hw'; go_simp; try with_reducible rfl
  try simp only [Act.put, List.setIfInBounds_toArray, List.set_cons_zero, List.set_cons_succ]
  refine wpAnyH_done (by kernel_rfl) ?_ _
  have bX := hid (bW0.trans (bR.mono bW0.size))
  have q := rA
  have a0 := q.cell 0; have a1 := q.cell 1
  simp only [List.getElem?_cons_zero, List.getElem?_cons_succ] at a0 a1
  have RA := hid rA
  clear q rA rW bW0 bR
  go_wp2_with fail
  refine (HDE.out _).mono ?_
  rintro e w5 ⟨rfl, hB5⟩
  have q := RA.out.below hB5 RA.out.lt
  have a0 := q.cell 0; have a1 := q.cell 1
  simp only [List.getElem?_cons_zero, List.getElem?_cons_succ] at a0 a1
  have b5 := hid (bX.out.trans (hB5.mono bX.out.size))
  clear q hB5
  go_wp2_with fail
  go_ret
  exact ⟨(show _ = Ending.returned (.string ((⟨#[116, 105, 99, 107, 101, 116]⟩ : ByteArray) ++ ⟨#[10]⟩)) from rfl).trans HFIN.out, b5.out⟩
theorem actText_any (k n : Int) (h : okAct k n = true) (w : World) (ht : Lib.TabIs Tryz.prog w "internal/strconv.uint64pow10" .u64 Lib.pow10Tab) (hg : 7 < w.heap.size) :
    Calls Tryz.prog 25 #[.agg #[.int .i8 k, .int .i64 n]] w fun e w' => e = .returned (.string ⟨(acW k n).toArray⟩) ∧ Below w.heap.size w w' := by
  rcases okAct_kind h with rfl | rfl | rfl | rfl | rfl
  · exact actText_1 n h w ht hg
  · exact actText_2 n h w ht hg
  · exact actText_3 n h w ht hg
  · exact actText_4 n h w ht hg
  · exact actText_5 n h w ht hg
end Go.Proofs.YtoenefhobjpfdaaGreatDoor
