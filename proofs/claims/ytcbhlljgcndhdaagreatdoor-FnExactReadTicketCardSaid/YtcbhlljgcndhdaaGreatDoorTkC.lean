/- TicketText; the program's. -/
import Derived.Test.YtcbhlljgcndhdaaGreatDoorTkB
namespace Go.Proofs.YtcbhlljgcndhdaaGreatDoor
open Go.RowKit Go.Shelf
set_option linter.unusedVariables false
set_option linter.unusedSimpArgs false
set_option maxRecDepth 100000 in
set_option maxHeartbeats 4000000 in
theorem implTT_any (B m cap : Nat) (zs : List Int) (n : Int) (d0 d1 d2 d3 d4 d5 d6 d7 : Int) (c : Int) (w : World) (hS : Stk w B zs) (hm : m = zs.length) (hw : (Lit.int .i64 n).wf = true) (ho : Oct d0 d1 d2 d3 d4 d5 d6 d7) (ht : Lib.TabIs Tryz.prog w "internal/strconv.uint64pow10" .u64 Lib.pow10Tab) (hg : 3 < w.heap.size) :
    Calls Tryz.prog 19 #[.slice (some ⟨B, 0, none⟩) m cap, .agg #[.int .i64 n, .int .u8 d0, .int .u8 d1, .int .u8 d2, .int .u8 d3, .int .u8 d4, .int .u8 d5, .int .u8 d6, .int .u8 d7, .int .u16 c]] w fun e w' => e = .returned (.string ⟨(tkR zs [d0, d1, d2, d3, d4, d5, d6, d7] n c).toArray⟩) ∧ Below w.heap.size w w' := by
  have hn0 : -9223372036854775808 ≤ n ∧ n ≤ 9223372036854775807 := by simp only [Lit.wf, Bool.and_eq_true, decide_eq_true_eq] at hw; exact hw
  have HTB := hid ht; have HG := hid hg
  have bel : Below w.heap.size w (w.alloc (.cells #[.int .i64 n, .int .u8 d0, .int .u8 d1, .int .u8 d2, .int .u8 d3, .int .u8 d4, .int .u8 d5, .int .u8 d6, .int .u8 d7, .int .u16 c] 27)) := (Below.refl _ w).alloc (Nat.le_refl _) _
  have r0 : Row (w.alloc (.cells #[.int .i64 n, .int .u8 d0, .int .u8 d1, .int .u8 d2, .int .u8 d3, .int .u8 d4, .int .u8 d5, .int .u8 d6, .int .u8 d7, .int .u16 c] 27)) w.heap.size 27 [.int .i64 n, .int .u8 d0, .int .u8 d1, .int .u8 d2, .int .u8 d3, .int .u8 d4, .int .u8 d5, .int .u8 d6, .int .u8 d7, .int .u16 c] := Row.new _ _ _
  have hK := hS.below bel hS.1
  have HV := hid (genuineV_any B m cap zs n d0 d1 d2 d3 d4 d5 d6 d7 c (w.alloc (.cells #[.int .i64 n, .int .u8 d0, .int .u8 d1, .int .u8 d2, .int .u8 d3, .int .u8 d4, .int .u8 d5, .int .u8 d6, .int .u8 d7, .int .u16 c] 27)) hK hm hn0 ho)
  have HK := hid hK; have HR := hid r0; have HB := hid bel; have HM := hid hm; have HOc := hid ho
  have c0 := r0.cell 0; have c1 := r0.cell 1; have c2 := r0.cell 2; have c3 := r0.cell 3; have c4 := r0.cell 4; have c5 := r0.cell 5; have c6 := r0.cell 6; have c7 := r0.cell 7; have c8 := r0.cell 8; have c9 := r0.cell 9
  simp only [List.getElem?_cons_zero, List.getElem?_cons_succ] at c0 c1 c2 c3 c4 c5 c6 c7 c8 c9
  clear hK r0 bel hw hS hn0 ht hg
  cases hgv : genV zs [d0, d1, d2, d3, d4, d5, d6, d7] n c with
  | false =>
    rw [tkR_no hgv]
    rw [hgv] at HV
    clear hgv ho hm
    go_enter Tryz.func19, Tryz.ntmps19
    go_wp2_with (go_at_call 33; refine HV.out.mono ?_; rintro e w1 ⟨rfl, hB1⟩)
    go_ret
    exact ⟨rfl, HB.out.trans (hB1.mono (by simp))⟩
  | true =>
    obtain ⟨hn, hv, hc⟩ := genV_out hgv
    rw [tkR_yes hgv]
    rw [hgv] at HV
    have HA := hid (fun w t => dec_i64 n (by omega) w t)
    have HC := hid (fun w t => dec_i64 c (by omega) w t)
    have HT := hid (fun w h => implDT_any B m cap zs d0 d1 d2 d3 d4 d5 d6 d7 w h hm ho)
    rw [txD_yes hv] at HT
    obtain ⟨A, hA⟩ : ∃ A, Lib.itoa n = A := ⟨_, rfl⟩
    obtain ⟨C, hC⟩ : ∃ A, Lib.itoa c = A := ⟨_, rfl⟩
    obtain ⟨T, hT⟩ : ∃ A, txT (List.take zs.length [d0, d1, d2, d3, d4, d5, d6, d7]) (wdD zs) = A := ⟨_, rfl⟩
    have l1 := itoa_big n (by omega); have l2 := itoa_big c (by omega); have l3 := txD_len hv ho
    unfold tkT
    rw [hA] at HA l1 ⊢
    rw [hC] at HC l2 ⊢
    rw [hT] at HT l3 ⊢
    have s1 : ¬ (9223372036854775807 < A.length + 1) := by omega
    have s2 : ¬ (9223372036854775807 < A.length + 1 + T.length) := by omega
    have s3 : ¬ (9223372036854775807 < A.length + 1 + T.length + 1) := by omega
    have s4 : ¬ (9223372036854775807 < A.length + 1 + T.length + 1 + C.length) := by omega
    have t64 : IntKind.i64.wrap c = c := IntWalk.i64_in _ (by omega)
    have HE0 := app5 A T C
    obtain ⟨RS, hRS⟩ : ∃ R, A ++ [32] ++ T ++ [32] ++ C = R := ⟨_, rfl⟩
    rw [hRS] at HE0 ⊢
    have HE := hid HE0
    clear HE0 hRS
    clear hA hC hT l1 l2 l3 hn hc hv ho hm hgv
    go_enter Tryz.func19, Tryz.ntmps19
    go_wp2_with fail
    refine HV.out.mono ?_
    rintro e w1 ⟨rfl, hB1⟩
    have bW : Below w.heap.size w w1 := HB.out.trans (hB1.mono (by simp))
    have sS := HK.out.below hB1 HK.out.1
    have rT := HR.out.below hB1 HR.out.lt
    clear hB1 c0 c1 c2 c3 c4 c5 c6 c7 c8 c9
    go_wp2_with fail
    refine wp_region_held (S := fun W' : World => Row W' w.heap.size 27 [.int .i64 n, .int .u8 d0, .int .u8 d1, .int .u8 d2, .int .u8 d3, .int .u8 d4, .int .u8 d5, .int .u8 d6, .int .u8 d7, .int .u16 c]) (by kernel_rfl) ?_
    change wpAnyH _ _ _ _ _ _ _ _ (World.drew _)
    obtain ⟨W0, hW0⟩ : ∃ X, X = World.drew (w1) := ⟨_, rfl⟩
    have hD0 : Below (w1).heap.size (w1) W0 := by rw [hW0]; exact (Below.refl _ _).drew
    replace sS := sS.below hD0 sS.1
    replace rT := rT.below hD0 rT.lt
    have bW0 := bW.trans (hD0.mono bW.size)
    have bR : Below W0.heap.size W0 W0 := Below.refl _ _
    rw [← hW0]
    clear hW0 hD0
    have l_sS := sS.1
    have l_rT := rT.lt
    have hS0 : (fun W' : World => Row W' w.heap.size 27 [.int .i64 n, .int .u8 d0, .int .u8 d1, .int .u8 d2, .int .u8 d3, .int .u8 d4, .int .u8 d5, .int .u8 d6, .int .u8 d7, .int .u16 c]) W0 := rT
    refine wpAnyH_takeD (some 9) (i := 0) (v := ?_) rfl rfl (by kernel_rfl) (by kernel_rfl) (by kernel_rfl) (fun _ _ _ h => h) (.inl ⟨by kernel_rfl, ?_⟩) hS0 ?_
    rotate_left
    · intro w' hw'; have hrow0 := hw'; have e0x0 := Row.cell hrow0 0; have e0x1 := Row.cell hrow0 1; have e0x2 := Row.cell hrow0 2; have e0x3 := Row.cell hrow0 3; have e0x4 := Row.cell hrow0 4; have e0x5 := Row.cell hrow0 5; have e0x6 := Row.cell hrow0 6; have e0x7 := Row.cell hrow0 7; have e0x8 := Row.cell hrow0 8; have e0x9 := Row.cell hrow0 9; simp only [List.getElem?_cons_zero, List.getElem?_cons_succ] at e0x0 e0x1 e0x2 e0x3 e0x4 e0x5 e0x6 e0x7 e0x8 e0x9; clear hrow0; clear hw'; go_simp; try with_reducible rfl
    try simp only [Act.put, List.setIfInBounds_toArray, List.set_cons_zero, List.set_cons_succ]
    refine wpAnyH_takeD (some 10) (i := 1) (v := ?_) rfl rfl (by kernel_rfl) (by kernel_rfl) (by kernel_rfl) (fun _ _ _ h => h) (.inl ⟨by kernel_rfl, ?_⟩) hS0 ?_
    rotate_left
    · intro w' hw'; have hrow0 := hw'; have e0x0 := Row.cell hrow0 0; have e0x1 := Row.cell hrow0 1; have e0x2 := Row.cell hrow0 2; have e0x3 := Row.cell hrow0 3; have e0x4 := Row.cell hrow0 4; have e0x5 := Row.cell hrow0 5; have e0x6 := Row.cell hrow0 6; have e0x7 := Row.cell hrow0 7; have e0x8 := Row.cell hrow0 8; have e0x9 := Row.cell hrow0 9; simp only [List.getElem?_cons_zero, List.getElem?_cons_succ] at e0x0 e0x1 e0x2 e0x3 e0x4 e0x5 e0x6 e0x7 e0x8 e0x9; clear hrow0; clear hw'; go_simp; try with_reducible rfl
    try simp only [Act.put, List.setIfInBounds_toArray, List.set_cons_zero, List.set_cons_succ]
    refine wpAnyH_takeD (some 13) (i := 4) (v := ?_) rfl rfl (by kernel_rfl) (by kernel_rfl) (by kernel_rfl) (fun _ _ _ h => h) (.inl ⟨by kernel_rfl, ?_⟩) hS0 ?_
    rotate_left
    · intro w' hw'; go_simp; try with_reducible rfl
    try simp only [Act.put, List.setIfInBounds_toArray, List.set_cons_zero, List.set_cons_succ]
    refine wpAnyH_takeD (some 14) (i := 5) (v := ?_) rfl rfl (by kernel_rfl) (by kernel_rfl) (by kernel_rfl) (fun _ _ _ h => h) (.inl ⟨by kernel_rfl, ?_⟩) hS0 ?_
    rotate_left
    · intro w' hw'; have hrow0 := hw'; have e0x0 := Row.cell hrow0 0; have e0x1 := Row.cell hrow0 1; have e0x2 := Row.cell hrow0 2; have e0x3 := Row.cell hrow0 3; have e0x4 := Row.cell hrow0 4; have e0x5 := Row.cell hrow0 5; have e0x6 := Row.cell hrow0 6; have e0x7 := Row.cell hrow0 7; have e0x8 := Row.cell hrow0 8; have e0x9 := Row.cell hrow0 9; simp only [List.getElem?_cons_zero, List.getElem?_cons_succ] at e0x0 e0x1 e0x2 e0x3 e0x4 e0x5 e0x6 e0x7 e0x8 e0x9; clear hrow0; clear hw'; go_simp; try with_reducible rfl
    try simp only [Act.put, List.setIfInBounds_toArray, List.set_cons_zero, List.set_cons_succ]
    refine wpAnyH_takeD (some 15) (i := 6) (v := ?_) rfl rfl (by kernel_rfl) (by kernel_rfl) (by kernel_rfl) (fun _ _ _ h => h) (.inl ⟨by kernel_rfl, ?_⟩) hS0 ?_
    rotate_left
    · intro w' hw'; have hrow0 := hw'; have e0x0 := Row.cell hrow0 0; have e0x1 := Row.cell hrow0 1; have e0x2 := Row.cell hrow0 2; have e0x3 := Row.cell hrow0 3; have e0x4 := Row.cell hrow0 4; have e0x5 := Row.cell hrow0 5; have e0x6 := Row.cell hrow0 6; have e0x7 := Row.cell hrow0 7; have e0x8 := Row.cell hrow0 8; have e0x9 := Row.cell hrow0 9; simp only [List.getElem?_cons_zero, List.getElem?_cons_succ] at e0x0 e0x1 e0x2 e0x3 e0x4 e0x5 e0x6 e0x7 e0x8 e0x9; clear hrow0; clear hw'; go_simp; try with_reducible rfl
    try simp only [Act.put, List.setIfInBounds_toArray, List.set_cons_zero, List.set_cons_succ]
    refine wpAnyH_takeD (some 19) (i := 10) (v := ?_) rfl rfl (by kernel_rfl) (by kernel_rfl) (by kernel_rfl) (fun _ _ _ h => h) (.inl ⟨by kernel_rfl, ?_⟩) hS0 ?_
    rotate_left
    · intro w' hw'; have hrow0 := hw'; have e0x0 := Row.cell hrow0 0; have e0x1 := Row.cell hrow0 1; have e0x2 := Row.cell hrow0 2; have e0x3 := Row.cell hrow0 3; have e0x4 := Row.cell hrow0 4; have e0x5 := Row.cell hrow0 5; have e0x6 := Row.cell hrow0 6; have e0x7 := Row.cell hrow0 7; have e0x8 := Row.cell hrow0 8; have e0x9 := Row.cell hrow0 9; simp only [List.getElem?_cons_zero, List.getElem?_cons_succ] at e0x0 e0x1 e0x2 e0x3 e0x4 e0x5 e0x6 e0x7 e0x8 e0x9; clear hrow0; clear hw'; go_simp; try with_reducible rfl
    try simp only [Act.put, List.setIfInBounds_toArray, List.set_cons_zero, List.set_cons_succ]
    refine wpAnyH_takeD (some 20) (i := 11) (v := ?_) rfl rfl (by kernel_rfl) (by kernel_rfl) (by kernel_rfl) (fun _ _ _ h => h) (.inl ⟨by kernel_rfl, ?_⟩) hS0 ?_
    rotate_left
    · intro w' hw'; have hrow0 := hw'; have e0x0 := Row.cell hrow0 0; have e0x1 := Row.cell hrow0 1; have e0x2 := Row.cell hrow0 2; have e0x3 := Row.cell hrow0 3; have e0x4 := Row.cell hrow0 4; have e0x5 := Row.cell hrow0 5; have e0x6 := Row.cell hrow0 6; have e0x7 := Row.cell hrow0 7; have e0x8 := Row.cell hrow0 8; have e0x9 := Row.cell hrow0 9; simp only [List.getElem?_cons_zero, List.getElem?_cons_succ] at e0x0 e0x1 e0x2 e0x3 e0x4 e0x5 e0x6 e0x7 e0x8 e0x9; clear hrow0; clear hw'; go_simp; try with_reducible rfl
    try simp only [Act.put, List.setIfInBounds_toArray, List.set_cons_zero, List.set_cons_succ]
    refine wpAnyH_takeD (some 21) (i := 12) (v := ?_) rfl rfl (by kernel_rfl) (by kernel_rfl) (by kernel_rfl) (fun _ _ _ h => h) (.inl ⟨by kernel_rfl, ?_⟩) hS0 ?_
    rotate_left
    · intro w' hw'; go_simp; try with_reducible rfl
    try simp only [Act.put, List.setIfInBounds_toArray, List.set_cons_zero, List.set_cons_succ]
    refine wpAnyH_all (rs := [2]) (by kernel_rfl) (by simp) ?_
    intro i hi; simp only [List.mem_cons, List.not_mem_nil, or_false] at hi
    subst hi
    refine wpOp_step rfl (fun K hK => ?_)
    go_simp
    with_reducible refine (HA.out W0 (tab_belowK HTB.out (bW0.trans (bR.mono bW0.size)) HG.out)).mono ?_
    rintro e v1 ⟨rfl, hB1⟩
    replace sS := sS.below hB1 sS.1
    replace rT := rT.below hB1 rT.lt
    replace bR := bR.trans (hB1.mono bR.size)
    have hS1 : (fun W' : World => Row W' w.heap.size 27 [.int .i64 n, .int .u8 d0, .int .u8 d1, .int .u8 d2, .int .u8 d3, .int .u8 d4, .int .u8 d5, .int .u8 d6, .int .u8 d7, .int .u16 c]) v1 := rT
    refine hK _ _ ⟨hS1, ?_⟩
    try simp only [Act.put, List.setIfInBounds_toArray, List.set_cons_zero, List.set_cons_succ]
    clear hB1 hK K hS0
    refine wpAnyH_takeD (some 12) (i := 3) (v := ?_) rfl rfl (by kernel_rfl) (by kernel_rfl) (by kernel_rfl) (fun _ _ _ h => h) (.inl ⟨by kernel_rfl, ?_⟩) hS1 ?_
    rotate_left
    · intro w' hw'; go_simp; try with_reducible rfl
    try simp only [Act.put, List.setIfInBounds_toArray, List.set_cons_zero, List.set_cons_succ]
    refine wpAnyH_all (rs := [7]) (by kernel_rfl) (by simp) ?_
    intro i hi; simp only [List.mem_cons, List.not_mem_nil, or_false] at hi
    subst hi
    refine wpOp_step rfl (fun K hK => ?_)
    go_simp
    with_reducible refine (HT.out v1 sS).mono ?_
    rintro e v2 ⟨rfl, hB2⟩
    replace sS := sS.below hB2 sS.1
    replace rT := rT.below hB2 rT.lt
    replace bR := bR.trans (hB2.mono bR.size)
    have hS2 : (fun W' : World => Row W' w.heap.size 27 [.int .i64 n, .int .u8 d0, .int .u8 d1, .int .u8 d2, .int .u8 d3, .int .u8 d4, .int .u8 d5, .int .u8 d6, .int .u8 d7, .int .u16 c]) v2 := rT
    refine hK _ _ ⟨hS2, ?_⟩
    try simp only [Act.put, List.setIfInBounds_toArray, List.set_cons_zero, List.set_cons_succ]
    clear hB2 hK K hS1
    refine wpAnyH_takeD (some 17) (i := 8) (v := ?_) rfl rfl (by kernel_rfl) (by kernel_rfl) (by kernel_rfl) (fun _ _ _ h => h) (.inl ⟨by kernel_rfl, ?_⟩) hS2 ?_
    rotate_left
    · intro w' hw'; go_simp; try with_reducible rfl
    try simp only [Act.put, List.setIfInBounds_toArray, List.set_cons_zero, List.set_cons_succ]
    refine wpAnyH_takeD (some 18) (i := 9) (v := ?_) rfl rfl (by kernel_rfl) (by kernel_rfl) (by kernel_rfl) (fun _ _ _ h => h) (.inl ⟨by kernel_rfl, ?_⟩) hS2 ?_
    rotate_left
    · intro w' hw'; go_simp; try with_reducible rfl
    try simp only [Act.put, List.setIfInBounds_toArray, List.set_cons_zero, List.set_cons_succ]
    refine wpAnyH_all (rs := [13]) (by kernel_rfl) (by simp) ?_
    intro i hi; simp only [List.mem_cons, List.not_mem_nil, or_false] at hi
    subst hi
    refine wpOp_step rfl (fun K hK => ?_)
    go_simp
    with_reducible refine (HC.out v2 (tab_belowK HTB.out (bW0.trans (bR.mono bW0.size)) HG.out)).mono ?_
    rintro e v3 ⟨rfl, hB3⟩
    replace sS := sS.below hB3 sS.1
    replace rT := rT.below hB3 rT.lt
    replace bR := bR.trans (hB3.mono bR.size)
    have hS3 : (fun W' : World => Row W' w.heap.size 27 [.int .i64 n, .int .u8 d0, .int .u8 d1, .int .u8 d2, .int .u8 d3, .int .u8 d4, .int .u8 d5, .int .u8 d6, .int .u8 d7, .int .u16 c]) v3 := rT
    refine hK _ _ ⟨hS3, ?_⟩
    try simp only [Act.put, List.setIfInBounds_toArray, List.set_cons_zero, List.set_cons_succ]
    clear hB3 hK K hS2
    refine wpAnyH_takeD (some 23) (i := 14) (v := ?_) rfl rfl (by kernel_rfl) (by kernel_rfl) (by kernel_rfl) (fun _ _ _ h => h) (.inl ⟨by kernel_rfl, ?_⟩) hS3 ?_
    rotate_left
    · intro w' hw'; go_simp; try with_reducible rfl
    try simp only [Act.put, List.setIfInBounds_toArray, List.set_cons_zero, List.set_cons_succ]
    refine wpAnyH_takeD (some 4) (i := 15) (v := ?_) rfl rfl (by kernel_rfl) (by kernel_rfl) (by kernel_rfl) (fun _ _ _ h => h) (.inl ⟨by kernel_rfl, ?_⟩) hS3 ?_
    rotate_left
    · intro w' hw'; go_simp; try with_reducible rfl
    try simp only [Act.put, List.setIfInBounds_toArray, List.set_cons_zero, List.set_cons_succ]
    refine wpAnyH_done (by kernel_rfl) ?_ _
    go_wp2_with fail
    go_ret
    exact ⟨congrArg Ending.returned (congrArg Value.string HE.out), bW0.trans (bR.mono bW0.size)⟩
end Go.Proofs.YtcbhlljgcndhdaaGreatDoor
