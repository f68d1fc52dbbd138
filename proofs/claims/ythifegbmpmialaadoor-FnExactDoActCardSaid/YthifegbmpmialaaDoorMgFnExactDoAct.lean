/- Texts of this seat, merged: LcDoAct LawsDA Ld4. -/
import Derived.Stop.LaidErr
import Derived.Test.YthifegbmpmialaaDoorMgD

namespace Go.Proofs.YthifegbmpmialaaDoor
open Go.RowKit
set_option linter.unusedVariables false
set_option linter.unusedSimpArgs false
set_option maxRecDepth 100000 in
set_option maxHeartbeats 4000000 in
theorem lawc_FnExactDoAct (a : Option Addr) (len cap : Nat) (zs ds : List Int) (pr : Int) (st : Bool) (tk : Int) (k x : Int) (w : World) (hle : len ≤ 1048576) (hI : InB w a len zs) (hn : len = zs.length) (E es : List Int) (P : Int) (St : Bool) (T l c : Int) (a0 a1 a2 a3 : Addr) (hSN : SN w a0 a1 a2 a3)
    (HS : ∀ (B : Nat) (w1 : World), Stk w1 B zs → Calls Tryd.prog 10 #[.agg (dvC (.slice (some ⟨B, 0, none⟩) len len) ds pr st tk).toArray, .agg #[.int .i8 k, .int .i64 x]] w1 (DevG E es P St T l c w1))
    (HM : ∀ (B : Nat) (w1 : World), Stk w1 B zs → SN w1 a0 a1 a2 a3 → Calls Tryd.prog 13 #[.agg (dvC (.slice (some ⟨B, 0, none⟩) len len) ds pr st tk).toArray, .agg #[.int .i8 k, .int .i64 x]] w1 (DevG E es P St T l c w1)) :
    Calls Tryd.prog 3 #[.agg (dvC (.slice a len cap) ds pr st tk).toArray, .agg #[.int .i8 k, .int .i64 x]] w fun e w' => e = .returned (.bool true) ∧ Below w.heap.size w w' := by
  have hID : (Tryd.prog.info? 33).map (·.size) = some 12 := Tryd.infoDev
  have hIL : (Tryd.prog.info? 25).map (·.size) = some 12 := Tryd.infoDevL
  have hIA : (Tryd.prog.info? 28).map (·.size) = some 2 := by kernel_rfl
  obtain ⟨V0, hV0⟩ : ∃ V, V = ((w.alloc (.cells (dvC (.slice a len cap) ds pr st tk).toArray 25)).alloc (.cells #[.int .i8 k, .int .i64 x] 28)) := ⟨_, rfl⟩
  have b0 : Below w.heap.size w V0 := by rw [hV0]; exact ((Below.refl _ _).alloc (Nat.le_refl _) _).alloc (by simp) _
  have QA0 : Row V0 w.heap.size 25 (dvC (.slice a len cap) ds pr st tk) := by rw [hV0]; exact (Row.new w _ _).alloc _
  have QB0 : Row V0 (w.heap.size + 1) 28 ([Value.int .i8 k, Value.int .i64 x] : List Value) := by
    have h := Row.new (w.alloc (.cells (dvC (.slice a len cap) ds pr st tk).toArray 25)) 28 ([Value.int .i8 k, Value.int .i64 x] : List Value)
    simp only [World.size_alloc] at h
    rw [hV0]; exact h
  have q : Below V0.heap.size V0 V0 := Below.refl _ _
  have HV0 := hid hV0; have HI := hid hI; have HN := hid hn; have HSP := hid HS; have HIM := hid HM; have HSN := hid hSN
  have HSTK := hid (fun (b : Nat) (w1 : World) (r : Row w1 b 5 (zs.map (Value.int .u8))) => r.stk HI.out.2.1 (by rw [← HN.out]; exact hle))
  have fl : (l != l) = false := by simp
  have fc : (c != c) = false := by simp
  have fE : ((1 + (E.length : Int)) != (1 + (E.length : Int))) = false := by simp
  have f3 : (0 : Int) ≤ 1 + (E.length : Int) := by omega
  have f4 : (0 : Int) ≤ 1 + (len : Int) := by omega
  have hz : (0 : Int) ≤ 1048576 - (len : Int) := by omega
  clear hV0 hI hn HS HM hSN
  go_enter Tryd.func3, Tryd.ntmps3
  go_wp2_with ((with_reducible refine wpList_load_row rfl 25 _ rfl w.heap.size ?_ 25 (dvC (.slice a len cap) ds pr st tk).toArray (0, 0) _ ?_ Tryd.underlying25 ?_ ?_ ?_); rfl; exact (by rw [← HV0.out]; exact QA0); rfl; exact hIL)
  rw [← HV0.out]
  refine (szDeviceL a len cap ds pr st tk _ hle).mono ?_
  rintro e w1 ⟨rfl, hB⟩
  replace q := q.trans (hB.mono q.size)
  clear hB
  go_upto_region 5 with fail
  go_cut [6, 7, 8] (fun s6 s7 s8 wx => ∃ (g : Nat) (W : World) (aa : Option Addr) (nn cc : Nat), W = wx ∧ s6 = .pointer (some ⟨g, 0, none⟩) ∧ s7 = .int .i64 l ∧ s8 = .int .i64 c ∧ Row W g 33 (dvC (.slice aa nn cc) es P St T) ∧ OwnB W w1.heap.size (.slice aa nn cc) E ∧ Below w1.heap.size w1 W ∧ w1.heap.size ≤ g)
  case first =>
    have QA := QA0.below q QA0.lt
    have QB := QB0.below q QB0.lt
    refine wp_region_held (S := fun W' : World => Row W' w.heap.size 25 (dvC (.slice a len cap) ds pr st tk) ∧ Row W' (w.heap.size + 1) 28 ([Value.int .i8 k, Value.int .i64 x] : List Value)) (by kernel_rfl) ?_
    change wpAnyH _ _ _ _ _ _ _ _ (World.drew _)
    obtain ⟨W0, hW0⟩ : ∃ X, X = World.drew (w1) := ⟨_, rfl⟩
    have hD0 : Below (w1).heap.size (w1) W0 := by rw [hW0]; exact (Below.refl _ _).drew
    replace QA := QA.below hD0 QA.lt
    replace QB := QB.below hD0 QB.lt
    replace q := q.trans (hD0.mono q.size)
    have bR : Below W0.heap.size W0 W0 := Below.refl _ _
    have hD0' := hD0
    rw [← hW0]
    clear hW0 hD0
    have hS0 : (fun W' : World => Row W' w.heap.size 25 (dvC (.slice a len cap) ds pr st tk) ∧ Row W' (w.heap.size + 1) 28 ([Value.int .i8 k, Value.int .i64 x] : List Value)) W0 := ⟨QA.below bR QA.lt, QB.below bR QB.lt⟩
    refine wpAnyH_takeD (some 25) (i := 0) (v := .agg ((dvC (.slice a len cap) ds pr st tk)).toArray) rfl rfl (by kernel_rfl) (by kernel_rfl) (by kernel_rfl) (fun _ _ _ h => h) (.inl ⟨by kernel_rfl, ?_⟩) hS0 ?_
    · intro w' hw'; exact exec_load_row 25 _ rfl w.heap.size rfl 25 ((dvC (.slice a len cap) ds pr st tk)).toArray _ (hw'.1) Tryd.underlying25 rfl hIL
    try simp only [Act.put, List.setIfInBounds_toArray, List.set_cons_zero, List.set_cons_succ]
    refine wpAnyH_takeD (some 27) (i := 2) (v := .agg (([Value.int .i8 k, Value.int .i64 x] : List Value)).toArray) rfl rfl (by kernel_rfl) (by kernel_rfl) (by kernel_rfl) (fun _ _ _ h => h) (.inl ⟨by kernel_rfl, ?_⟩) hS0 ?_
    · intro w' hw'; exact exec_load_row 28 _ rfl (w.heap.size + 1) rfl 28 (([Value.int .i8 k, Value.int .i64 x] : List Value)).toArray _ (hw'.2) Tryd.underlying28 rfl hIA
    try simp only [Act.put, List.setIfInBounds_toArray, List.set_cons_zero, List.set_cons_succ]
    refine wpAnyH_all (rs := [1, 9]) (by kernel_rfl) (by simp) ?_
    intro i hi; simp only [List.mem_cons, List.not_mem_nil, or_false] at hi
    rcases hi with rfl | rfl
    · refine wpOp_step rfl (fun K hK => ?_)
      go_simp
      with_reducible refine (toDeviceL a len cap zs ds pr st tk W0 (HI.out.below (b0.trans ((q.trans (bR.mono q.size)).mono b0.size)) (Nat.le_refl _)) hle).mono ?_
      rintro e v1 ⟨X, rfl, hB1, hX, _⟩
      replace bR := bR.trans (hB1.mono bR.size)
      have hS1 : (fun W' : World => Row W' w.heap.size 25 (dvC (.slice a len cap) ds pr st tk) ∧ Row W' (w.heap.size + 1) 28 ([Value.int .i8 k, Value.int .i64 x] : List Value)) v1 := ⟨QA.below bR QA.lt, QB.below bR QB.lt⟩
      refine hK _ _ ⟨hS1, ?_⟩
      try simp only [Act.put, List.setIfInBounds_toArray, List.set_cons_zero, List.set_cons_succ]
      clear hB1 hK K hS0
      refine wpAnyH_all (rs := [3, 9]) (by kernel_rfl) (by simp) ?_
      intro i hi; simp only [List.mem_cons, List.not_mem_nil, or_false] at hi
      rcases hi with rfl | rfl
      · refine wpOp_step rfl (fun K hK => ?_)
        go_simp
        with_reducible refine (toAct_any k x v1).mono ?_
        rintro e v2 ⟨rfl, hB2⟩
        replace hX := hX.below hB2 hX.lt
        replace bR := bR.trans (hB2.mono bR.size)
        have hS2 : (fun W' : World => Row W' w.heap.size 25 (dvC (.slice a len cap) ds pr st tk) ∧ Row W' (w.heap.size + 1) 28 ([Value.int .i8 k, Value.int .i64 x] : List Value)) v2 := ⟨QA.below bR QA.lt, QB.below bR QB.lt⟩
        refine hK _ _ ⟨hS2, ?_⟩
        try simp only [Act.put, List.setIfInBounds_toArray, List.set_cons_zero, List.set_cons_succ]
        clear hB2 hK K hS1
        refine wpAnyH_all (rs := [4, 9]) (by kernel_rfl) (by simp) ?_
        intro i hi; simp only [List.mem_cons, List.not_mem_nil, or_false] at hi
        rcases hi with rfl | rfl
        · refine wpOp_step rfl (fun K hK => ?_)
          go_simp
          with_reducible refine (HSP.out X v2 (HSTK.out X v2 hX)).mono ?_
          rintro e v3 ⟨aa, nn, cc, rfl, hO, hB3⟩
          replace hO := hO.lowb (b' := w1.heap.size) (by have := hD0'.size; have := bR.size; first | omega | (simp at *; omega))
          replace hX := hX.below hB3 hX.lt
          replace bR := bR.trans (hB3.mono bR.size)
          have hS3 : (fun W' : World => Row W' w.heap.size 25 (dvC (.slice a len cap) ds pr st tk) ∧ Row W' (w.heap.size + 1) 28 ([Value.int .i8 k, Value.int .i64 x] : List Value)) v3 := ⟨QA.below bR QA.lt, QB.below bR QB.lt⟩
          refine hK _ _ ⟨hS3, ?_⟩
          try simp only [Act.put, List.setIfInBounds_toArray, List.set_cons_zero, List.set_cons_succ]
          clear hB3 hK K hS2
          refine wpAnyH_takeD (some 24) (i := 5) (v := ?_) rfl rfl (by kernel_rfl) (by kernel_rfl) (by kernel_rfl) (fun _ _ _ h => h) (.inl ⟨by kernel_rfl, ?_⟩) hS3 ?_
          rotate_left
          · intro w' hw'; clear hw'; go_simp; try with_reducible rfl
          try simp only [Act.put, List.setIfInBounds_toArray, List.set_cons_zero, List.set_cons_succ]
          refine wpAnyH_takeD (some 30) (i := 6) (v := ?_) rfl rfl (by kernel_rfl) (by kernel_rfl) (by kernel_rfl) (fun _ _ _ h => h) (.inl ⟨by kernel_rfl, ?_⟩) hS3 ?_
          rotate_left
          · intro w' hw'; clear hw'; go_simp; try with_reducible rfl
          try simp only [Act.put, List.setIfInBounds_toArray, List.set_cons_zero, List.set_cons_succ]
          refine wpAnyH_takeD (some 31) (i := 7) (v := ?_) rfl rfl (by kernel_rfl) (by kernel_rfl) (by kernel_rfl) (fun _ _ _ h => h) (.inl ⟨by kernel_rfl, ?_⟩) hS3 ?_
          rotate_left
          · intro w' hw'; clear hw'; go_simp; try with_reducible rfl
          try simp only [Act.put, List.setIfInBounds_toArray, List.set_cons_zero, List.set_cons_succ]
          refine wpAnyH_takeD (some 32) (i := 8) (v := ?_) rfl rfl (by kernel_rfl) (by kernel_rfl) (by kernel_rfl) (fun _ _ _ h => h) (.inl ⟨by kernel_rfl, ?_⟩) hS3 ?_
          rotate_left
          · intro w' hw'; clear hw'; go_simp; try with_reducible rfl
          try simp only [Act.put, List.setIfInBounds_toArray, List.set_cons_zero, List.set_cons_succ]
          refine wpAnyH_all (rs := [9]) (by kernel_rfl) (by simp) ?_
          intro i hi; simp only [List.mem_cons, List.not_mem_nil, or_false] at hi
          subst hi
          refine wpOp_step rfl (fun K hK => ?_)
          go_simp
          have rg := Row.new v3 33 [.slice none 0 0, .int .u8 0, .int .u8 0, .int .u8 0, .int .u8 0, .int .u8 0, .int .u8 0, .int .u8 0, .int .u8 0, .int .i64 0, .bool false, .int .i64 0]
          have hA : Below v3.heap.size v3 (v3.alloc (.cells #[.slice none 0 0, .int .u8 0, .int .u8 0, .int .u8 0, .int .u8 0, .int .u8 0, .int .u8 0, .int .u8 0, .int .u8 0, .int .i64 0, .bool false, .int .i64 0] 33)) := (Below.refl _ _).alloc (Nat.le_refl _) _
          replace hX := hX.below hA hX.lt
          replace hO := hO.keep hA
          have l_rg0 := bR.size
          replace bR := bR.trans (hA.mono bR.size)
          have hS4 : (fun W' : World => Row W' w.heap.size 25 (dvC (.slice a len cap) ds pr st tk) ∧ Row W' (w.heap.size + 1) 28 ([Value.int .i8 k, Value.int .i64 x] : List Value)) (v3.alloc (.cells #[.slice none 0 0, .int .u8 0, .int .u8 0, .int .u8 0, .int .u8 0, .int .u8 0, .int .u8 0, .int .u8 0, .int .u8 0, .int .i64 0, .bool false, .int .i64 0] 33)) := ⟨QA.below bR QA.lt, QB.below bR QB.lt⟩
          refine hK _ _ ⟨hS4, ?_⟩
          try simp only [Act.put, List.setIfInBounds_toArray, List.set_cons_zero, List.set_cons_succ]
          obtain ⟨X4, hX4⟩ : ∃ X, X = v3.alloc (.cells #[.slice none 0 0, .int .u8 0, .int .u8 0, .int .u8 0, .int .u8 0, .int .u8 0, .int .u8 0, .int .u8 0, .int .u8 0, .int .i64 0, .bool false, .int .i64 0] 33) := ⟨_, rfl⟩
          obtain ⟨gg, hgg⟩ : ∃ y, y = v3.heap.size := ⟨_, rfl⟩
          rw [← hX4] at hX hO rg bR hS4 ⊢
          have l_rg : W0.heap.size ≤ gg := by rw [hgg]; exact l_rg0
          rw [← hgg] at rg ⊢
          clear hX4 hA hK K hgg l_rg0 hS3
          refine wpAnyH_all (rs := [10]) (by kernel_rfl) (by simp) ?_
          intro i hi; simp only [List.mem_cons, List.not_mem_nil, or_false] at hi
          subst hi
          refine wpOp_step rfl (fun K hK => ?_)
          rw [if_pos (by kernel_rfl)]
          refine wp_store_mid 33 (.tmp 6) (.tmp 30) rfl gg 0 ((dvC (.slice aa nn cc) es P St T) : List Value).toArray rfl rfl (rg.thereO 0 _ (by exact Nat.le_refl _)) hID (all_oneCell_toArray (dvC_one _ _ _ _ _ _ _)) ?_
          obtain ⟨X5, hX5⟩ : ∃ X, X = World.setCells X4 gg 0 ((dvC (.slice aa nn cc) es P St T) : List Value) := ⟨_, rfl⟩
          replace hO := hO.setO rg (by decide) ((dvC (.slice aa nn cc) es P St T) : List Value) 0
          rw [← hX5] at hO
          replace rg := rg.setAll (ys := ((dvC (.slice aa nn cc) es P St T) : List Value)) rfl
          replace bR := below_setCellsD ((dvC (.slice aa nn cc) es P St T) : List Value) 0 _ bR (g := gg) l_rg
          rw [← hX5] at rg bR
          have hS5 : (fun W' : World => Row W' w.heap.size 25 (dvC (.slice a len cap) ds pr st tk) ∧ Row W' (w.heap.size + 1) 28 ([Value.int .i8 k, Value.int .i64 x] : List Value)) X5 := ⟨QA.below bR QA.lt, QB.below bR QB.lt⟩
          have hXX5 : World.setCells X4 gg 0 ((dvC (.slice aa nn cc) es P St T) : List Value).toArray.toList = X5 := hX5.symm
          rw [hXX5]
          refine hK _ _ ⟨hS5, ?_⟩
          try simp only [Act.put, List.setIfInBounds_toArray, List.set_cons_zero, List.set_cons_succ]
          clear hX5 hXX5 hK K hS4
          refine wpAnyH_takeD (some 7) (i := 11) (v := ?_) rfl rfl (by kernel_rfl) (by kernel_rfl) (by kernel_rfl) (fun _ _ _ h => h) (.inl ⟨by kernel_rfl, ?_⟩) hS5 ?_
          rotate_left
          · intro w' hw'; clear hw'; go_simp; try with_reducible rfl
          try simp only [Act.put, List.setIfInBounds_toArray, List.set_cons_zero, List.set_cons_succ]
          refine wpAnyH_takeD (some 8) (i := 12) (v := ?_) rfl rfl (by kernel_rfl) (by kernel_rfl) (by kernel_rfl) (fun _ _ _ h => h) (.inl ⟨by kernel_rfl, ?_⟩) hS5 ?_
          rotate_left
          · intro w' hw'; clear hw'; go_simp; try with_reducible rfl
          try simp only [Act.put, List.setIfInBounds_toArray, List.set_cons_zero, List.set_cons_succ]
          refine wpAnyH_done (by kernel_rfl) ?_ _
          go_wp2_with fail
          go_meet
          exact ⟨gg, _, aa, nn, cc, rfl, rfl, rfl, rfl, rg, hO, hD0'.trans (bR.mono hD0'.size), Nat.le_trans hD0'.size l_rg⟩
        · refine wpOp_step rfl (fun K hK => ?_)
          go_simp
          have rg := Row.new v2 33 [.slice none 0 0, .int .u8 0, .int .u8 0, .int .u8 0, .int .u8 0, .int .u8 0, .int .u8 0, .int .u8 0, .int .u8 0, .int .i64 0, .bool false, .int .i64 0]
          have hA : Below v2.heap.size v2 (v2.alloc (.cells #[.slice none 0 0, .int .u8 0, .int .u8 0, .int .u8 0, .int .u8 0, .int .u8 0, .int .u8 0, .int .u8 0, .int .u8 0, .int .i64 0, .bool false, .int .i64 0] 33)) := (Below.refl _ _).alloc (Nat.le_refl _) _
          replace hX := hX.below hA hX.lt
          have l_rg0 := bR.size
          replace bR := bR.trans (hA.mono bR.size)
          have hS6 : (fun W' : World => Row W' w.heap.size 25 (dvC (.slice a len cap) ds pr st tk) ∧ Row W' (w.heap.size + 1) 28 ([Value.int .i8 k, Value.int .i64 x] : List Value)) (v2.alloc (.cells #[.slice none 0 0, .int .u8 0, .int .u8 0, .int .u8 0, .int .u8 0, .int .u8 0, .int .u8 0, .int .u8 0, .int .u8 0, .int .i64 0, .bool false, .int .i64 0] 33)) := ⟨QA.below bR QA.lt, QB.below bR QB.lt⟩
          refine hK _ _ ⟨hS6, ?_⟩
          try simp only [Act.put, List.setIfInBounds_toArray, List.set_cons_zero, List.set_cons_succ]
          obtain ⟨X6, hX6⟩ : ∃ X, X = v2.alloc (.cells #[.slice none 0 0, .int .u8 0, .int .u8 0, .int .u8 0, .int .u8 0, .int .u8 0, .int .u8 0, .int .u8 0, .int .u8 0, .int .i64 0, .bool false, .int .i64 0] 33) := ⟨_, rfl⟩
          obtain ⟨gg, hgg⟩ : ∃ y, y = v2.heap.size := ⟨_, rfl⟩
          rw [← hX6] at hX rg bR hS6 ⊢
          have l_rg : W0.heap.size ≤ gg := by rw [hgg]; exact l_rg0
          rw [← hgg] at rg ⊢
          clear hX6 hA hK K hgg l_rg0 hS2
          refine wpAnyH_all (rs := [4]) (by kernel_rfl) (by simp) ?_
          intro i hi; simp only [List.mem_cons, List.not_mem_nil, or_false] at hi
          subst hi
          refine wpOp_step rfl (fun K hK => ?_)
          go_simp
          with_reducible refine (HSP.out X X6 (HSTK.out X X6 hX)).mono ?_
          rintro e v7 ⟨aa, nn, cc, rfl, hO, hB7⟩
          replace hO := hO.lowb (b' := w1.heap.size) (by have := hD0'.size; have := bR.size; first | omega | (simp at *; omega))
          replace hX := hX.below hB7 hX.lt
          replace rg := rg.below hB7 rg.lt
          replace bR := bR.trans (hB7.mono bR.size)
          have hS7 : (fun W' : World => Row W' w.heap.size 25 (dvC (.slice a len cap) ds pr st tk) ∧ Row W' (w.heap.size + 1) 28 ([Value.int .i8 k, Value.int .i64 x] : List Value)) v7 := ⟨QA.below bR QA.lt, QB.below bR QB.lt⟩
          refine hK _ _ ⟨hS7, ?_⟩
          try simp only [Act.put, List.setIfInBounds_toArray, List.set_cons_zero, List.set_cons_succ]
          clear hB7 hK K hS6
          refine wpAnyH_takeD (some 24) (i := 5) (v := ?_) rfl rfl (by kernel_rfl) (by kernel_rfl) (by kernel_rfl) (fun _ _ _ h => h) (.inl ⟨by kernel_rfl, ?_⟩) hS7 ?_
          rotate_left
          · intro w' hw'; clear hw'; go_simp; try with_reducible rfl
          try simp only [Act.put, List.setIfInBounds_toArray, List.set_cons_zero, List.set_cons_succ]
          refine wpAnyH_takeD (some 30) (i := 6) (v := ?_) rfl rfl (by kernel_rfl) (by kernel_rfl) (by kernel_rfl) (fun _ _ _ h => h) (.inl ⟨by kernel_rfl, ?_⟩) hS7 ?_
          rotate_left
          · intro w' hw'; clear hw'; go_simp; try with_reducible rfl
          try simp only [Act.put, List.setIfInBounds_toArray, List.set_cons_zero, List.set_cons_succ]
          refine wpAnyH_takeD (some 31) (i := 7) (v := ?_) rfl rfl (by kernel_rfl) (by kernel_rfl) (by kernel_rfl) (fun _ _ _ h => h) (.inl ⟨by kernel_rfl, ?_⟩) hS7 ?_
          rotate_left
          · intro w' hw'; clear hw'; go_simp; try with_reducible rfl
          try simp only [Act.put, List.setIfInBounds_toArray, List.set_cons_zero, List.set_cons_succ]
          refine wpAnyH_takeD (some 32) (i := 8) (v := ?_) rfl rfl (by kernel_rfl) (by kernel_rfl) (by kernel_rfl) (fun _ _ _ h => h) (.inl ⟨by kernel_rfl, ?_⟩) hS7 ?_
          rotate_left
          · intro w' hw'; clear hw'; go_simp; try with_reducible rfl
          try simp only [Act.put, List.setIfInBounds_toArray, List.set_cons_zero, List.set_cons_succ]
          refine wpAnyH_all (rs := [10]) (by kernel_rfl) (by simp) ?_
          intro i hi; simp only [List.mem_cons, List.not_mem_nil, or_false] at hi
          subst hi
          refine wpOp_step rfl (fun K hK => ?_)
          rw [if_pos (by kernel_rfl)]
          refine wp_store_mid 33 (.tmp 6) (.tmp 30) rfl gg 0 ((dvC (.slice aa nn cc) es P St T) : List Value).toArray rfl rfl (rg.thereO 0 _ (by exact Nat.le_refl _)) hID (all_oneCell_toArray (dvC_one _ _ _ _ _ _ _)) ?_
          obtain ⟨X8, hX8⟩ : ∃ X, X = World.setCells v7 gg 0 ((dvC (.slice aa nn cc) es P St T) : List Value) := ⟨_, rfl⟩
          replace hO := hO.setO rg (by decide) ((dvC (.slice aa nn cc) es P St T) : List Value) 0
          rw [← hX8] at hO
          replace rg := rg.setAll (ys := ((dvC (.slice aa nn cc) es P St T) : List Value)) rfl
          replace bR := below_setCellsD ((dvC (.slice aa nn cc) es P St T) : List Value) 0 _ bR (g := gg) l_rg
          rw [← hX8] at rg bR
          have hS8 : (fun W' : World => Row W' w.heap.size 25 (dvC (.slice a len cap) ds pr st tk) ∧ Row W' (w.heap.size + 1) 28 ([Value.int .i8 k, Value.int .i64 x] : List Value)) X8 := ⟨QA.below bR QA.lt, QB.below bR QB.lt⟩
          have hXX8 : World.setCells v7 gg 0 ((dvC (.slice aa nn cc) es P St T) : List Value).toArray.toList = X8 := hX8.symm
          rw [hXX8]
          refine hK _ _ ⟨hS8, ?_⟩
          try simp only [Act.put, List.setIfInBounds_toArray, List.set_cons_zero, List.set_cons_succ]
          clear hX8 hXX8 hK K hS7
          refine wpAnyH_takeD (some 7) (i := 11) (v := ?_) rfl rfl (by kernel_rfl) (by kernel_rfl) (by kernel_rfl) (fun _ _ _ h => h) (.inl ⟨by kernel_rfl, ?_⟩) hS8 ?_
          rotate_left
          · intro w' hw'; clear hw'; go_simp; try with_reducible rfl
          try simp only [Act.put, List.setIfInBounds_toArray, List.set_cons_zero, List.set_cons_succ]
          refine wpAnyH_takeD (some 8) (i := 12) (v := ?_) rfl rfl (by kernel_rfl) (by kernel_rfl) (by kernel_rfl) (fun _ _ _ h => h) (.inl ⟨by kernel_rfl, ?_⟩) hS8 ?_
          rotate_left
          · intro w' hw'; clear hw'; go_simp; try with_reducible rfl
          try simp only [Act.put, List.setIfInBounds_toArray, List.set_cons_zero, List.set_cons_succ]
          refine wpAnyH_done (by kernel_rfl) ?_ _
          go_wp2_with fail
          go_meet
          exact ⟨gg, _, aa, nn, cc, rfl, rfl, rfl, rfl, rg, hO, hD0'.trans (bR.mono hD0'.size), Nat.le_trans hD0'.size l_rg⟩
      · refine wpOp_step rfl (fun K hK => ?_)
        go_simp
        have rg := Row.new v1 33 [.slice none 0 0, .int .u8 0, .int .u8 0, .int .u8 0, .int .u8 0, .int .u8 0, .int .u8 0, .int .u8 0, .int .u8 0, .int .i64 0, .bool false, .int .i64 0]
        have hA : Below v1.heap.size v1 (v1.alloc (.cells #[.slice none 0 0, .int .u8 0, .int .u8 0, .int .u8 0, .int .u8 0, .int .u8 0, .int .u8 0, .int .u8 0, .int .u8 0, .int .i64 0, .bool false, .int .i64 0] 33)) := (Below.refl _ _).alloc (Nat.le_refl _) _
        replace hX := hX.below hA hX.lt
        have l_rg0 := bR.size
        replace bR := bR.trans (hA.mono bR.size)
        have hS9 : (fun W' : World => Row W' w.heap.size 25 (dvC (.slice a len cap) ds pr st tk) ∧ Row W' (w.heap.size + 1) 28 ([Value.int .i8 k, Value.int .i64 x] : List Value)) (v1.alloc (.cells #[.slice none 0 0, .int .u8 0, .int .u8 0, .int .u8 0, .int .u8 0, .int .u8 0, .int .u8 0, .int .u8 0, .int .u8 0, .int .i64 0, .bool false, .int .i64 0] 33)) := ⟨QA.below bR QA.lt, QB.below bR QB.lt⟩
        refine hK _ _ ⟨hS9, ?_⟩
        try simp only [Act.put, List.setIfInBounds_toArray, List.set_cons_zero, List.set_cons_succ]
        obtain ⟨X9, hX9⟩ : ∃ X, X = v1.alloc (.cells #[.slice none 0 0, .int .u8 0, .int .u8 0, .int .u8 0, .int .u8 0, .int .u8 0, .int .u8 0, .int .u8 0, .int .u8 0, .int .i64 0, .bool false, .int .i64 0] 33) := ⟨_, rfl⟩
        obtain ⟨gg, hgg⟩ : ∃ y, y = v1.heap.size := ⟨_, rfl⟩
        rw [← hX9] at hX rg bR hS9 ⊢
        have l_rg : W0.heap.size ≤ gg := by rw [hgg]; exact l_rg0
        rw [← hgg] at rg ⊢
        clear hX9 hA hK K hgg l_rg0 hS1
        refine wpAnyH_all (rs := [3]) (by kernel_rfl) (by simp) ?_
        intro i hi; simp only [List.mem_cons, List.not_mem_nil, or_false] at hi
        subst hi
        refine wpOp_step rfl (fun K hK => ?_)
        go_simp
        with_reducible refine (toAct_any k x X9).mono ?_
        rintro e v10 ⟨rfl, hB10⟩
        replace hX := hX.below hB10 hX.lt
        replace rg := rg.below hB10 rg.lt
        replace bR := bR.trans (hB10.mono bR.size)
        have hS10 : (fun W' : World => Row W' w.heap.size 25 (dvC (.slice a len cap) ds pr st tk) ∧ Row W' (w.heap.size + 1) 28 ([Value.int .i8 k, Value.int .i64 x] : List Value)) v10 := ⟨QA.below bR QA.lt, QB.below bR QB.lt⟩
        refine hK _ _ ⟨hS10, ?_⟩
        try simp only [Act.put, List.setIfInBounds_toArray, List.set_cons_zero, List.set_cons_succ]
        clear hB10 hK K hS9
        refine wpAnyH_all (rs := [4]) (by kernel_rfl) (by simp) ?_
        intro i hi; simp only [List.mem_cons, List.not_mem_nil, or_false] at hi
        subst hi
        refine wpOp_step rfl (fun K hK => ?_)
        go_simp
        with_reducible refine (HSP.out X v10 (HSTK.out X v10 hX)).mono ?_
        rintro e v11 ⟨aa, nn, cc, rfl, hO, hB11⟩
        replace hO := hO.lowb (b' := w1.heap.size) (by have := hD0'.size; have := bR.size; first | omega | (simp at *; omega))
        replace hX := hX.below hB11 hX.lt
        replace rg := rg.below hB11 rg.lt
        replace bR := bR.trans (hB11.mono bR.size)
        have hS11 : (fun W' : World => Row W' w.heap.size 25 (dvC (.slice a len cap) ds pr st tk) ∧ Row W' (w.heap.size + 1) 28 ([Value.int .i8 k, Value.int .i64 x] : List Value)) v11 := ⟨QA.below bR QA.lt, QB.below bR QB.lt⟩
        refine hK _ _ ⟨hS11, ?_⟩
        try simp only [Act.put, List.setIfInBounds_toArray, List.set_cons_zero, List.set_cons_succ]
        clear hB11 hK K hS10
        refine wpAnyH_takeD (some 24) (i := 5) (v := ?_) rfl rfl (by kernel_rfl) (by kernel_rfl) (by kernel_rfl) (fun _ _ _ h => h) (.inl ⟨by kernel_rfl, ?_⟩) hS11 ?_
        rotate_left
        · intro w' hw'; clear hw'; go_simp; try with_reducible rfl
        try simp only [Act.put, List.setIfInBounds_toArray, List.set_cons_zero, List.set_cons_succ]
        refine wpAnyH_takeD (some 30) (i := 6) (v := ?_) rfl rfl (by kernel_rfl) (by kernel_rfl) (by kernel_rfl) (fun _ _ _ h => h) (.inl ⟨by kernel_rfl, ?_⟩) hS11 ?_
        rotate_left
        · intro w' hw'; clear hw'; go_simp; try with_reducible rfl
        try simp only [Act.put, List.setIfInBounds_toArray, List.set_cons_zero, List.set_cons_succ]
        refine wpAnyH_takeD (some 31) (i := 7) (v := ?_) rfl rfl (by kernel_rfl) (by kernel_rfl) (by kernel_rfl) (fun _ _ _ h => h) (.inl ⟨by kernel_rfl, ?_⟩) hS11 ?_
        rotate_left
        · intro w' hw'; clear hw'; go_simp; try with_reducible rfl
        try simp only [Act.put, List.setIfInBounds_toArray, List.set_cons_zero, List.set_cons_succ]
        refine wpAnyH_takeD (some 32) (i := 8) (v := ?_) rfl rfl (by kernel_rfl) (by kernel_rfl) (by kernel_rfl) (fun _ _ _ h => h) (.inl ⟨by kernel_rfl, ?_⟩) hS11 ?_
        rotate_left
        · intro w' hw'; clear hw'; go_simp; try with_reducible rfl
        try simp only [Act.put, List.setIfInBounds_toArray, List.set_cons_zero, List.set_cons_succ]
        refine wpAnyH_all (rs := [10]) (by kernel_rfl) (by simp) ?_
        intro i hi; simp only [List.mem_cons, List.not_mem_nil, or_false] at hi
        subst hi
        refine wpOp_step rfl (fun K hK => ?_)
        rw [if_pos (by kernel_rfl)]
        refine wp_store_mid 33 (.tmp 6) (.tmp 30) rfl gg 0 ((dvC (.slice aa nn cc) es P St T) : List Value).toArray rfl rfl (rg.thereO 0 _ (by exact Nat.le_refl _)) hID (all_oneCell_toArray (dvC_one _ _ _ _ _ _ _)) ?_
        obtain ⟨X12, hX12⟩ : ∃ X, X = World.setCells v11 gg 0 ((dvC (.slice aa nn cc) es P St T) : List Value) := ⟨_, rfl⟩
        replace hO := hO.setO rg (by decide) ((dvC (.slice aa nn cc) es P St T) : List Value) 0
        rw [← hX12] at hO
        replace rg := rg.setAll (ys := ((dvC (.slice aa nn cc) es P St T) : List Value)) rfl
        replace bR := below_setCellsD ((dvC (.slice aa nn cc) es P St T) : List Value) 0 _ bR (g := gg) l_rg
        rw [← hX12] at rg bR
        have hS12 : (fun W' : World => Row W' w.heap.size 25 (dvC (.slice a len cap) ds pr st tk) ∧ Row W' (w.heap.size + 1) 28 ([Value.int .i8 k, Value.int .i64 x] : List Value)) X12 := ⟨QA.below bR QA.lt, QB.below bR QB.lt⟩
        have hXX12 : World.setCells v11 gg 0 ((dvC (.slice aa nn cc) es P St T) : List Value).toArray.toList = X12 := hX12.symm
        rw [hXX12]
        refine hK _ _ ⟨hS12, ?_⟩
        try simp only [Act.put, List.setIfInBounds_toArray, List.set_cons_zero, List.set_cons_succ]
        clear hX12 hXX12 hK K hS11
        refine wpAnyH_takeD (some 7) (i := 11) (v := ?_) rfl rfl (by kernel_rfl) (by kernel_rfl) (by kernel_rfl) (fun _ _ _ h => h) (.inl ⟨by kernel_rfl, ?_⟩) hS12 ?_
        rotate_left
        · intro w' hw'; clear hw'; go_simp; try with_reducible rfl
        try simp only [Act.put, List.setIfInBounds_toArray, List.set_cons_zero, List.set_cons_succ]
        refine wpAnyH_takeD (some 8) (i := 12) (v := ?_) rfl rfl (by kernel_rfl) (by kernel_rfl) (by kernel_rfl) (fun _ _ _ h => h) (.inl ⟨by kernel_rfl, ?_⟩) hS12 ?_
        rotate_left
        · intro w' hw'; clear hw'; go_simp; try with_reducible rfl
        try simp only [Act.put, List.setIfInBounds_toArray, List.set_cons_zero, List.set_cons_succ]
        refine wpAnyH_done (by kernel_rfl) ?_ _
        go_wp2_with fail
        go_meet
        exact ⟨gg, _, aa, nn, cc, rfl, rfl, rfl, rfl, rg, hO, hD0'.trans (bR.mono hD0'.size), Nat.le_trans hD0'.size l_rg⟩
    · refine wpOp_step rfl (fun K hK => ?_)
      go_simp
      have rg := Row.new W0 33 [.slice none 0 0, .int .u8 0, .int .u8 0, .int .u8 0, .int .u8 0, .int .u8 0, .int .u8 0, .int .u8 0, .int .u8 0, .int .i64 0, .bool false, .int .i64 0]
      have hA : Below W0.heap.size W0 (W0.alloc (.cells #[.slice none 0 0, .int .u8 0, .int .u8 0, .int .u8 0, .int .u8 0, .int .u8 0, .int .u8 0, .int .u8 0, .int .u8 0, .int .i64 0, .bool false, .int .i64 0] 33)) := (Below.refl _ _).alloc (Nat.le_refl _) _
      have l_rg0 := bR.size
      replace bR := bR.trans (hA.mono bR.size)
      have hS13 : (fun W' : World => Row W' w.heap.size 25 (dvC (.slice a len cap) ds pr st tk) ∧ Row W' (w.heap.size + 1) 28 ([Value.int .i8 k, Value.int .i64 x] : List Value)) (W0.alloc (.cells #[.slice none 0 0, .int .u8 0, .int .u8 0, .int .u8 0, .int .u8 0, .int .u8 0, .int .u8 0, .int .u8 0, .int .u8 0, .int .i64 0, .bool false, .int .i64 0] 33)) := ⟨QA.below bR QA.lt, QB.below bR QB.lt⟩
      refine hK _ _ ⟨hS13, ?_⟩
      try simp only [Act.put, List.setIfInBounds_toArray, List.set_cons_zero, List.set_cons_succ]
      obtain ⟨X13, hX13⟩ : ∃ X, X = W0.alloc (.cells #[.slice none 0 0, .int .u8 0, .int .u8 0, .int .u8 0, .int .u8 0, .int .u8 0, .int .u8 0, .int .u8 0, .int .u8 0, .int .i64 0, .bool false, .int .i64 0] 33) := ⟨_, rfl⟩
      obtain ⟨gg, hgg⟩ : ∃ y, y = W0.heap.size := ⟨_, rfl⟩
      rw [← hX13] at  rg bR hS13 ⊢
      have l_rg : W0.heap.size ≤ gg := by rw [hgg]; exact l_rg0
      rw [← hgg] at rg ⊢
      clear hX13 hA hK K hgg l_rg0 hS0
      refine wpAnyH_all (rs := [1]) (by kernel_rfl) (by simp) ?_
      intro i hi; simp only [List.mem_cons, List.not_mem_nil, or_false] at hi
      subst hi
      refine wpOp_step rfl (fun K hK => ?_)
      go_simp
      with_reducible refine (toDeviceL a len cap zs ds pr st tk X13 (HI.out.below (b0.trans ((q.trans (bR.mono q.size)).mono b0.size)) (Nat.le_refl _)) hle).mono ?_
      rintro e v14 ⟨X, rfl, hB14, hX, _⟩
      replace rg := rg.below hB14 rg.lt
      replace bR := bR.trans (hB14.mono bR.size)
      have hS14 : (fun W' : World => Row W' w.heap.size 25 (dvC (.slice a len cap) ds pr st tk) ∧ Row W' (w.heap.size + 1) 28 ([Value.int .i8 k, Value.int .i64 x] : List Value)) v14 := ⟨QA.below bR QA.lt, QB.below bR QB.lt⟩
      refine hK _ _ ⟨hS14, ?_⟩
      try simp only [Act.put, List.setIfInBounds_toArray, List.set_cons_zero, List.set_cons_succ]
      clear hB14 hK K hS13
      refine wpAnyH_all (rs := [3]) (by kernel_rfl) (by simp) ?_
      intro i hi; simp only [List.mem_cons, List.not_mem_nil, or_false] at hi
      subst hi
      refine wpOp_step rfl (fun K hK => ?_)
      go_simp
      with_reducible refine (toAct_any k x v14).mono ?_
      rintro e v15 ⟨rfl, hB15⟩
      replace hX := hX.below hB15 hX.lt
      replace rg := rg.below hB15 rg.lt
      replace bR := bR.trans (hB15.mono bR.size)
      have hS15 : (fun W' : World => Row W' w.heap.size 25 (dvC (.slice a len cap) ds pr st tk) ∧ Row W' (w.heap.size + 1) 28 ([Value.int .i8 k, Value.int .i64 x] : List Value)) v15 := ⟨QA.below bR QA.lt, QB.below bR QB.lt⟩
      refine hK _ _ ⟨hS15, ?_⟩
      try simp only [Act.put, List.setIfInBounds_toArray, List.set_cons_zero, List.set_cons_succ]
      clear hB15 hK K hS14
      refine wpAnyH_all (rs := [4]) (by kernel_rfl) (by simp) ?_
      intro i hi; simp only [List.mem_cons, List.not_mem_nil, or_false] at hi
      subst hi
      refine wpOp_step rfl (fun K hK => ?_)
      go_simp
      with_reducible refine (HSP.out X v15 (HSTK.out X v15 hX)).mono ?_
      rintro e v16 ⟨aa, nn, cc, rfl, hO, hB16⟩
      replace hO := hO.lowb (b' := w1.heap.size) (by have := hD0'.size; have := bR.size; first | omega | (simp at *; omega))
      replace hX := hX.below hB16 hX.lt
      replace rg := rg.below hB16 rg.lt
      replace bR := bR.trans (hB16.mono bR.size)
      have hS16 : (fun W' : World => Row W' w.heap.size 25 (dvC (.slice a len cap) ds pr st tk) ∧ Row W' (w.heap.size + 1) 28 ([Value.int .i8 k, Value.int .i64 x] : List Value)) v16 := ⟨QA.below bR QA.lt, QB.below bR QB.lt⟩
      refine hK _ _ ⟨hS16, ?_⟩
      try simp only [Act.put, List.setIfInBounds_toArray, List.set_cons_zero, List.set_cons_succ]
      clear hB16 hK K hS15
      refine wpAnyH_takeD (some 24) (i := 5) (v := ?_) rfl rfl (by kernel_rfl) (by kernel_rfl) (by kernel_rfl) (fun _ _ _ h => h) (.inl ⟨by kernel_rfl, ?_⟩) hS16 ?_
      rotate_left
      · intro w' hw'; clear hw'; go_simp; try with_reducible rfl
      try simp only [Act.put, List.setIfInBounds_toArray, List.set_cons_zero, List.set_cons_succ]
      refine wpAnyH_takeD (some 30) (i := 6) (v := ?_) rfl rfl (by kernel_rfl) (by kernel_rfl) (by kernel_rfl) (fun _ _ _ h => h) (.inl ⟨by kernel_rfl, ?_⟩) hS16 ?_
      rotate_left
      · intro w' hw'; clear hw'; go_simp; try with_reducible rfl
      try simp only [Act.put, List.setIfInBounds_toArray, List.set_cons_zero, List.set_cons_succ]
      refine wpAnyH_takeD (some 31) (i := 7) (v := ?_) rfl rfl (by kernel_rfl) (by kernel_rfl) (by kernel_rfl) (fun _ _ _ h => h) (.inl ⟨by kernel_rfl, ?_⟩) hS16 ?_
      rotate_left
      · intro w' hw'; clear hw'; go_simp; try with_reducible rfl
      try simp only [Act.put, List.setIfInBounds_toArray, List.set_cons_zero, List.set_cons_succ]
      refine wpAnyH_takeD (some 32) (i := 8) (v := ?_) rfl rfl (by kernel_rfl) (by kernel_rfl) (by kernel_rfl) (fun _ _ _ h => h) (.inl ⟨by kernel_rfl, ?_⟩) hS16 ?_
      rotate_left
      · intro w' hw'; clear hw'; go_simp; try with_reducible rfl
      try simp only [Act.put, List.setIfInBounds_toArray, List.set_cons_zero, List.set_cons_succ]
      refine wpAnyH_all (rs := [10]) (by kernel_rfl) (by simp) ?_
      intro i hi; simp only [List.mem_cons, List.not_mem_nil, or_false] at hi
      subst hi
      refine wpOp_step rfl (fun K hK => ?_)
      rw [if_pos (by kernel_rfl)]
      refine wp_store_mid 33 (.tmp 6) (.tmp 30) rfl gg 0 ((dvC (.slice aa nn cc) es P St T) : List Value).toArray rfl rfl (rg.thereO 0 _ (by exact Nat.le_refl _)) hID (all_oneCell_toArray (dvC_one _ _ _ _ _ _ _)) ?_
      obtain ⟨X17, hX17⟩ : ∃ X, X = World.setCells v16 gg 0 ((dvC (.slice aa nn cc) es P St T) : List Value) := ⟨_, rfl⟩
      replace hO := hO.setO rg (by decide) ((dvC (.slice aa nn cc) es P St T) : List Value) 0
      rw [← hX17] at hO
      replace rg := rg.setAll (ys := ((dvC (.slice aa nn cc) es P St T) : List Value)) rfl
      replace bR := below_setCellsD ((dvC (.slice aa nn cc) es P St T) : List Value) 0 _ bR (g := gg) l_rg
      rw [← hX17] at rg bR
      have hS17 : (fun W' : World => Row W' w.heap.size 25 (dvC (.slice a len cap) ds pr st tk) ∧ Row W' (w.heap.size + 1) 28 ([Value.int .i8 k, Value.int .i64 x] : List Value)) X17 := ⟨QA.below bR QA.lt, QB.below bR QB.lt⟩
      have hXX17 : World.setCells v16 gg 0 ((dvC (.slice aa nn cc) es P St T) : List Value).toArray.toList = X17 := hX17.symm
      rw [hXX17]
      refine hK _ _ ⟨hS17, ?_⟩
      try simp only [Act.put, List.setIfInBounds_toArray, List.set_cons_zero, List.set_cons_succ]
      clear hX17 hXX17 hK K hS16
      refine wpAnyH_takeD (some 7) (i := 11) (v := ?_) rfl rfl (by kernel_rfl) (by kernel_rfl) (by kernel_rfl) (fun _ _ _ h => h) (.inl ⟨by kernel_rfl, ?_⟩) hS17 ?_
      rotate_left
      · intro w' hw'; clear hw'; go_simp; try with_reducible rfl
      try simp only [Act.put, List.setIfInBounds_toArray, List.set_cons_zero, List.set_cons_succ]
      refine wpAnyH_takeD (some 8) (i := 12) (v := ?_) rfl rfl (by kernel_rfl) (by kernel_rfl) (by kernel_rfl) (fun _ _ _ h => h) (.inl ⟨by kernel_rfl, ?_⟩) hS17 ?_
      rotate_left
      · intro w' hw'; clear hw'; go_simp; try with_reducible rfl
      try simp only [Act.put, List.setIfInBounds_toArray, List.set_cons_zero, List.set_cons_succ]
      refine wpAnyH_done (by kernel_rfl) ?_ _
      go_wp2_with fail
      go_meet
      exact ⟨gg, _, aa, nn, cc, rfl, rfl, rfl, rfl, rg, hO, hD0'.trans (bR.mono hD0'.size), Nat.le_trans hD0'.size l_rg⟩
  case rest =>
    obtain ⟨g0, V3, a3s, n3, c3, rfl, rfl, rfl, rfl, R0, O3, hB, _⟩ := hcut
    replace q := q.trans (hB.mono q.size)
    clear hB
    have c3b : Below V3.heap.size V3 V3 := Below.refl _ _
    have HQ3 := hid q.size
    go_wp2_with ((with_reducible refine wpList_load_row rfl 25 _ rfl w.heap.size ?_ 25 (dvC (.slice a len cap) ds pr st tk).toArray (0, 0) _ ?_ Tryd.underlying25 ?_ ?_ ?_); rfl; exact (QA0.below q QA0.lt); rfl; exact hIL)
    refine (toDeviceL a len cap zs ds pr st tk _ (HI.out.below (b0.trans (q.mono b0.size)) (Nat.le_refl _)) hle).mono ?_
    rintro e w7 ⟨X, rfl, hB, hX, hXl⟩
    replace q := q.trans (hB.mono q.size)
    replace c3b := c3b.trans (hB.mono c3b.size)
    clear hB
    have HXL := hid (show V3.heap.size ≤ X from hXl)
    obtain ⟨V8', hV8'⟩ : ∃ zz, zz = w7.alloc (.cells #[.slice none 0 0, .int .u8 0, .int .u8 0, .int .u8 0, .int .u8 0, .int .u8 0, .int .u8 0, .int .u8 0, .int .u8 0, .int .i64 0, .bool false, .int .i64 0] 33) := ⟨_, rfl⟩
    have QX : Row V8' w7.heap.size 33 dvZ := by rw [hV8']; exact Row.new w7 _ dvZ
    have hA : Below w7.heap.size w7 V8' := by rw [hV8']; exact (Below.refl _ _).alloc (Nat.le_refl _) _
    have TT := QX.thereO 0 12 (by rw [dvZ_len]; omega)
    rw [hV8'] at TT
    obtain ⟨V8, hV8⟩ : ∃ zz, zz = V8'.setCells w7.heap.size 0 (dvC (.slice (some ⟨X, 0, none⟩) len len) ds pr st tk) := ⟨_, rfl⟩
    replace QX : Row V8 w7.heap.size 33 (dvC (.slice (some ⟨X, 0, none⟩) len len) ds pr st tk) := by rw [hV8]; exact QX.setAll (by rw [dvC_len, dvZ_len])
    have hB : Below w7.heap.size w7 V8 := by rw [hV8]; exact below_setCellsD (dvC (.slice (some ⟨X, 0, none⟩) len len) ds pr st tk) 0 _ hA (Nat.le_refl _)
    have hEq : World.setCells (w7.alloc (.cells #[.slice none 0 0, .int .u8 0, .int .u8 0, .int .u8 0, .int .u8 0, .int .u8 0, .int .u8 0, .int .u8 0, .int .u8 0, .int .i64 0, .bool false, .int .i64 0] 33)) w7.heap.size 0 (dvC (.slice (some ⟨X, 0, none⟩) len len) ds pr st tk).toArray.toList = V8 := by rw [← hV8']; exact hV8.symm
    have HEQ := hid hEq
    clear hEq hV8 hV8' hA
    have hXlt := hX.lt
    replace q := q.trans (hB.mono q.size)
    replace c3b := c3b.trans (hB.mono c3b.size)
    replace hX := hX.below hB hX.lt
    have lt8 : w7.heap.size < V8.heap.size := QX.lt
    clear hB
    obtain ⟨g9, hg9⟩ : ∃ y, y = w7.heap.size := ⟨_, rfl⟩
    go_upto_region 7 with ((with_reducible refine wpList_store_mid rfl 33 _ _ rfl (w7.heap.size) 0 (dvC (.slice (some ⟨X, 0, none⟩) len len) ds pr st tk).toArray ?_ ?_ ?_ ?_ (all_oneCell_toArray (dvC_one _ _ _ _ _ _ _)) ?_); rfl; rfl; exact TT; exact hID)
    rw [HEQ.out]
    try simp only [Act.put]
    rw [← hg9] at QX lt8 hXlt ⊢
    clear TT HEQ hg9 hXl
    have HX9 := hid (show X < g9 from hXlt)
    have HL8 := hid lt8
    clear hXlt lt8
    have d : Below V8.heap.size V8 V8 := Below.refl _ _
    have HQ5 := hid q.size
    have HC5 := hid c3b.size
    go_cut [10, 11, 12] (fun s10 s11 s12 wx => ∃ (g : Nat) (W : World) (aa : Option Addr) (nn cc : Nat), W = wx ∧ s10 = .pointer (some ⟨g, 0, none⟩) ∧ s11 = .int .i64 l ∧ s12 = .int .i64 c ∧ Row W g 33 (dvC (.slice aa nn cc) es P St T) ∧ OwnB W V8.heap.size (.slice aa nn cc) E ∧ Below V8.heap.size V8 W ∧ V8.heap.size ≤ g)
    case first =>
      have QB := QB0.below q QB0.lt
      have hX8 := hX
      refine wp_region_held (S := fun W' : World => Row W' g9 33 (dvC (.slice (some ⟨X, 0, none⟩) len len) ds pr st tk) ∧ Row W' (w.heap.size + 1) 28 ([Value.int .i8 k, Value.int .i64 x] : List Value)) (by kernel_rfl) ?_
      change wpAnyH _ _ _ _ _ _ _ _ (World.drew _)
      obtain ⟨W0, hW0⟩ : ∃ X, X = World.drew (V8) := ⟨_, rfl⟩
      have hD0 : Below (V8).heap.size (V8) W0 := by rw [hW0]; exact (Below.refl _ _).drew
      replace QX := QX.below hD0 QX.lt
      replace QB := QB.below hD0 QB.lt
      replace q := q.trans (hD0.mono q.size)
      have bR : Below W0.heap.size W0 W0 := Below.refl _ _
      have hD0' := hD0
      rw [← hW0]
      clear hW0 hD0
      have hS0 : (fun W' : World => Row W' g9 33 (dvC (.slice (some ⟨X, 0, none⟩) len len) ds pr st tk) ∧ Row W' (w.heap.size + 1) 28 ([Value.int .i8 k, Value.int .i64 x] : List Value)) W0 := ⟨QX.below bR QX.lt, QB.below bR QB.lt⟩
      refine wpAnyH_takeD (some 36) (i := 0) (v := .agg ((dvC (.slice (some ⟨X, 0, none⟩) len len) ds pr st tk)).toArray) rfl rfl (by kernel_rfl) (by kernel_rfl) (by kernel_rfl) (fun _ _ _ h => h) (.inl ⟨by kernel_rfl, ?_⟩) hS0 ?_
      · intro w' hw'; exact exec_load_row 33 _ rfl g9 rfl 33 ((dvC (.slice (some ⟨X, 0, none⟩) len len) ds pr st tk)).toArray _ (hw'.1) Tryd.underlying33 rfl hID
      try simp only [Act.put, List.setIfInBounds_toArray, List.set_cons_zero, List.set_cons_succ]
      refine wpAnyH_takeD (some 37) (i := 1) (v := .agg (([Value.int .i8 k, Value.int .i64 x] : List Value)).toArray) rfl rfl (by kernel_rfl) (by kernel_rfl) (by kernel_rfl) (fun _ _ _ h => h) (.inl ⟨by kernel_rfl, ?_⟩) hS0 ?_
      · intro w' hw'; exact exec_load_row 28 _ rfl (w.heap.size + 1) rfl 28 (([Value.int .i8 k, Value.int .i64 x] : List Value)).toArray _ (hw'.2) Tryd.underlying28 rfl hIA
      try simp only [Act.put, List.setIfInBounds_toArray, List.set_cons_zero, List.set_cons_succ]
      refine wpAnyH_all (rs := [2, 8]) (by kernel_rfl) (by simp) ?_
      intro i hi; simp only [List.mem_cons, List.not_mem_nil, or_false] at hi
      rcases hi with rfl | rfl
      · refine wpOp_step rfl (fun K hK => ?_)
        go_simp
        with_reducible refine (toAct_any k x W0).mono ?_
        rintro e v1 ⟨rfl, hB1⟩
        replace bR := bR.trans (hB1.mono bR.size)
        have hS1 : (fun W' : World => Row W' g9 33 (dvC (.slice (some ⟨X, 0, none⟩) len len) ds pr st tk) ∧ Row W' (w.heap.size + 1) 28 ([Value.int .i8 k, Value.int .i64 x] : List Value)) v1 := ⟨QX.below bR QX.lt, QB.below bR QB.lt⟩
        refine hK _ _ ⟨hS1, ?_⟩
        try simp only [Act.put, List.setIfInBounds_toArray, List.set_cons_zero, List.set_cons_succ]
        clear hB1 hK K hS0
        refine wpAnyH_all (rs := [3, 8]) (by kernel_rfl) (by simp) ?_
        intro i hi; simp only [List.mem_cons, List.not_mem_nil, or_false] at hi
        rcases hi with rfl | rfl
        · refine wpOp_step rfl (fun K hK => ?_)
          go_simp
          with_reducible refine (HIM.out X v1 (HSTK.out X v1 (hX.below (hD0'.trans (bR.mono hD0'.size)) hX.lt)) (HSN.out.below (b0.trans ((q.trans (bR.mono q.size)).mono b0.size)) trivial)).mono ?_
          rintro e v2 ⟨aa, nn, cc, rfl, hO, hB2⟩
          replace hO := hO.lowb (b' := V8.heap.size) (by have := hD0'.size; have := bR.size; first | omega | (simp at *; omega))
          replace bR := bR.trans (hB2.mono bR.size)
          have hS2 : (fun W' : World => Row W' g9 33 (dvC (.slice (some ⟨X, 0, none⟩) len len) ds pr st tk) ∧ Row W' (w.heap.size + 1) 28 ([Value.int .i8 k, Value.int .i64 x] : List Value)) v2 := ⟨QX.below bR QX.lt, QB.below bR QB.lt⟩
          refine hK _ _ ⟨hS2, ?_⟩
          try simp only [Act.put, List.setIfInBounds_toArray, List.set_cons_zero, List.set_cons_succ]
          clear hB2 hK K hS1
          refine wpAnyH_takeD (some 35) (i := 4) (v := ?_) rfl rfl (by kernel_rfl) (by kernel_rfl) (by kernel_rfl) (fun _ _ _ h => h) (.inl ⟨by kernel_rfl, ?_⟩) hS2 ?_
          rotate_left
          · intro w' hw'; clear hw'; go_simp; try with_reducible rfl
          try simp only [Act.put, List.setIfInBounds_toArray, List.set_cons_zero, List.set_cons_succ]
          refine wpAnyH_takeD (some 40) (i := 5) (v := ?_) rfl rfl (by kernel_rfl) (by kernel_rfl) (by kernel_rfl) (fun _ _ _ h => h) (.inl ⟨by kernel_rfl, ?_⟩) hS2 ?_
          rotate_left
          · intro w' hw'; clear hw'; go_simp; try with_reducible rfl
          try simp only [Act.put, List.setIfInBounds_toArray, List.set_cons_zero, List.set_cons_succ]
          refine wpAnyH_takeD (some 41) (i := 6) (v := ?_) rfl rfl (by kernel_rfl) (by kernel_rfl) (by kernel_rfl) (fun _ _ _ h => h) (.inl ⟨by kernel_rfl, ?_⟩) hS2 ?_
          rotate_left
          · intro w' hw'; clear hw'; go_simp; try with_reducible rfl
          try simp only [Act.put, List.setIfInBounds_toArray, List.set_cons_zero, List.set_cons_succ]
          refine wpAnyH_takeD (some 42) (i := 7) (v := ?_) rfl rfl (by kernel_rfl) (by kernel_rfl) (by kernel_rfl) (fun _ _ _ h => h) (.inl ⟨by kernel_rfl, ?_⟩) hS2 ?_
          rotate_left
          · intro w' hw'; clear hw'; go_simp; try with_reducible rfl
          try simp only [Act.put, List.setIfInBounds_toArray, List.set_cons_zero, List.set_cons_succ]
          refine wpAnyH_all (rs := [8]) (by kernel_rfl) (by simp) ?_
          intro i hi; simp only [List.mem_cons, List.not_mem_nil, or_false] at hi
          subst hi
          refine wpOp_step rfl (fun K hK => ?_)
          go_simp
          have rg := Row.new v2 33 [.slice none 0 0, .int .u8 0, .int .u8 0, .int .u8 0, .int .u8 0, .int .u8 0, .int .u8 0, .int .u8 0, .int .u8 0, .int .i64 0, .bool false, .int .i64 0]
          have hA : Below v2.heap.size v2 (v2.alloc (.cells #[.slice none 0 0, .int .u8 0, .int .u8 0, .int .u8 0, .int .u8 0, .int .u8 0, .int .u8 0, .int .u8 0, .int .u8 0, .int .i64 0, .bool false, .int .i64 0] 33)) := (Below.refl _ _).alloc (Nat.le_refl _) _
          replace hO := hO.keep hA
          have l_rg0 := bR.size
          replace bR := bR.trans (hA.mono bR.size)
          have hS3 : (fun W' : World => Row W' g9 33 (dvC (.slice (some ⟨X, 0, none⟩) len len) ds pr st tk) ∧ Row W' (w.heap.size + 1) 28 ([Value.int .i8 k, Value.int .i64 x] : List Value)) (v2.alloc (.cells #[.slice none 0 0, .int .u8 0, .int .u8 0, .int .u8 0, .int .u8 0, .int .u8 0, .int .u8 0, .int .u8 0, .int .u8 0, .int .i64 0, .bool false, .int .i64 0] 33)) := ⟨QX.below bR QX.lt, QB.below bR QB.lt⟩
          refine hK _ _ ⟨hS3, ?_⟩
          try simp only [Act.put, List.setIfInBounds_toArray, List.set_cons_zero, List.set_cons_succ]
          obtain ⟨X3, hX3⟩ : ∃ X, X = v2.alloc (.cells #[.slice none 0 0, .int .u8 0, .int .u8 0, .int .u8 0, .int .u8 0, .int .u8 0, .int .u8 0, .int .u8 0, .int .u8 0, .int .i64 0, .bool false, .int .i64 0] 33) := ⟨_, rfl⟩
          obtain ⟨gg, hgg⟩ : ∃ y, y = v2.heap.size := ⟨_, rfl⟩
          rw [← hX3] at hO rg bR hS3 ⊢
          have l_rg : W0.heap.size ≤ gg := by rw [hgg]; exact l_rg0
          rw [← hgg] at rg ⊢
          clear hX3 hA hK K hgg l_rg0 hS2
          refine wpAnyH_all (rs := [9]) (by kernel_rfl) (by simp) ?_
          intro i hi; simp only [List.mem_cons, List.not_mem_nil, or_false] at hi
          subst hi
          refine wpOp_step rfl (fun K hK => ?_)
          rw [if_pos (by kernel_rfl)]
          refine wp_store_mid 33 (.tmp 10) (.tmp 40) rfl gg 0 ((dvC (.slice aa nn cc) es P St T) : List Value).toArray rfl rfl (rg.thereO 0 _ (by exact Nat.le_refl _)) hID (all_oneCell_toArray (dvC_one _ _ _ _ _ _ _)) ?_
          obtain ⟨X4, hX4⟩ : ∃ X, X = World.setCells X3 gg 0 ((dvC (.slice aa nn cc) es P St T) : List Value) := ⟨_, rfl⟩
          replace hO := hO.setO rg (by decide) ((dvC (.slice aa nn cc) es P St T) : List Value) 0
          rw [← hX4] at hO
          replace rg := rg.setAll (ys := ((dvC (.slice aa nn cc) es P St T) : List Value)) rfl
          replace bR := below_setCellsD ((dvC (.slice aa nn cc) es P St T) : List Value) 0 _ bR (g := gg) l_rg
          rw [← hX4] at rg bR
          have hS4 : (fun W' : World => Row W' g9 33 (dvC (.slice (some ⟨X, 0, none⟩) len len) ds pr st tk) ∧ Row W' (w.heap.size + 1) 28 ([Value.int .i8 k, Value.int .i64 x] : List Value)) X4 := ⟨QX.below bR QX.lt, QB.below bR QB.lt⟩
          have hXX4 : World.setCells X3 gg 0 ((dvC (.slice aa nn cc) es P St T) : List Value).toArray.toList = X4 := hX4.symm
          rw [hXX4]
          refine hK _ _ ⟨hS4, ?_⟩
          try simp only [Act.put, List.setIfInBounds_toArray, List.set_cons_zero, List.set_cons_succ]
          clear hX4 hXX4 hK K hS3
          refine wpAnyH_takeD (some 11) (i := 10) (v := ?_) rfl rfl (by kernel_rfl) (by kernel_rfl) (by kernel_rfl) (fun _ _ _ h => h) (.inl ⟨by kernel_rfl, ?_⟩) hS4 ?_
          rotate_left
          · intro w' hw'; clear hw'; go_simp; try with_reducible rfl
          try simp only [Act.put, List.setIfInBounds_toArray, List.set_cons_zero, List.set_cons_succ]
          refine wpAnyH_takeD (some 12) (i := 11) (v := ?_) rfl rfl (by kernel_rfl) (by kernel_rfl) (by kernel_rfl) (fun _ _ _ h => h) (.inl ⟨by kernel_rfl, ?_⟩) hS4 ?_
          rotate_left
          · intro w' hw'; clear hw'; go_simp; try with_reducible rfl
          try simp only [Act.put, List.setIfInBounds_toArray, List.set_cons_zero, List.set_cons_succ]
          refine wpAnyH_done (by kernel_rfl) ?_ _
          go_wp2_with fail
          go_meet
          exact ⟨gg, _, aa, nn, cc, rfl, rfl, rfl, rfl, rg, hO, hD0'.trans (bR.mono hD0'.size), Nat.le_trans hD0'.size l_rg⟩
        · refine wpOp_step rfl (fun K hK => ?_)
          go_simp
          have rg := Row.new v1 33 [.slice none 0 0, .int .u8 0, .int .u8 0, .int .u8 0, .int .u8 0, .int .u8 0, .int .u8 0, .int .u8 0, .int .u8 0, .int .i64 0, .bool false, .int .i64 0]
          have hA : Below v1.heap.size v1 (v1.alloc (.cells #[.slice none 0 0, .int .u8 0, .int .u8 0, .int .u8 0, .int .u8 0, .int .u8 0, .int .u8 0, .int .u8 0, .int .u8 0, .int .i64 0, .bool false, .int .i64 0] 33)) := (Below.refl _ _).alloc (Nat.le_refl _) _
          have l_rg0 := bR.size
          replace bR := bR.trans (hA.mono bR.size)
          have hS5 : (fun W' : World => Row W' g9 33 (dvC (.slice (some ⟨X, 0, none⟩) len len) ds pr st tk) ∧ Row W' (w.heap.size + 1) 28 ([Value.int .i8 k, Value.int .i64 x] : List Value)) (v1.alloc (.cells #[.slice none 0 0, .int .u8 0, .int .u8 0, .int .u8 0, .int .u8 0, .int .u8 0, .int .u8 0, .int .u8 0, .int .u8 0, .int .i64 0, .bool false, .int .i64 0] 33)) := ⟨QX.below bR QX.lt, QB.below bR QB.lt⟩
          refine hK _ _ ⟨hS5, ?_⟩
          try simp only [Act.put, List.setIfInBounds_toArray, List.set_cons_zero, List.set_cons_succ]
          obtain ⟨X5, hX5⟩ : ∃ X, X = v1.alloc (.cells #[.slice none 0 0, .int .u8 0, .int .u8 0, .int .u8 0, .int .u8 0, .int .u8 0, .int .u8 0, .int .u8 0, .int .u8 0, .int .i64 0, .bool false, .int .i64 0] 33) := ⟨_, rfl⟩
          obtain ⟨gg, hgg⟩ : ∃ y, y = v1.heap.size := ⟨_, rfl⟩
          rw [← hX5] at  rg bR hS5 ⊢
          have l_rg : W0.heap.size ≤ gg := by rw [hgg]; exact l_rg0
          rw [← hgg] at rg ⊢
          clear hX5 hA hK K hgg l_rg0 hS1
          refine wpAnyH_all (rs := [3]) (by kernel_rfl) (by simp) ?_
          intro i hi; simp only [List.mem_cons, List.not_mem_nil, or_false] at hi
          subst hi
          refine wpOp_step rfl (fun K hK => ?_)
          go_simp
          with_reducible refine (HIM.out X X5 (HSTK.out X X5 (hX.below (hD0'.trans (bR.mono hD0'.size)) hX.lt)) (HSN.out.below (b0.trans ((q.trans (bR.mono q.size)).mono b0.size)) trivial)).mono ?_
          rintro e v6 ⟨aa, nn, cc, rfl, hO, hB6⟩
          replace hO := hO.lowb (b' := V8.heap.size) (by have := hD0'.size; have := bR.size; first | omega | (simp at *; omega))
          replace rg := rg.below hB6 rg.lt
          replace bR := bR.trans (hB6.mono bR.size)
          have hS6 : (fun W' : World => Row W' g9 33 (dvC (.slice (some ⟨X, 0, none⟩) len len) ds pr st tk) ∧ Row W' (w.heap.size + 1) 28 ([Value.int .i8 k, Value.int .i64 x] : List Value)) v6 := ⟨QX.below bR QX.lt, QB.below bR QB.lt⟩
          refine hK _ _ ⟨hS6, ?_⟩
          try simp only [Act.put, List.setIfInBounds_toArray, List.set_cons_zero, List.set_cons_succ]
          clear hB6 hK K hS5
          refine wpAnyH_takeD (some 35) (i := 4) (v := ?_) rfl rfl (by kernel_rfl) (by kernel_rfl) (by kernel_rfl) (fun _ _ _ h => h) (.inl ⟨by kernel_rfl, ?_⟩) hS6 ?_
          rotate_left
          · intro w' hw'; clear hw'; go_simp; try with_reducible rfl
          try simp only [Act.put, List.setIfInBounds_toArray, List.set_cons_zero, List.set_cons_succ]
          refine wpAnyH_takeD (some 40) (i := 5) (v := ?_) rfl rfl (by kernel_rfl) (by kernel_rfl) (by kernel_rfl) (fun _ _ _ h => h) (.inl ⟨by kernel_rfl, ?_⟩) hS6 ?_
          rotate_left
          · intro w' hw'; clear hw'; go_simp; try with_reducible rfl
          try simp only [Act.put, List.setIfInBounds_toArray, List.set_cons_zero, List.set_cons_succ]
          refine wpAnyH_takeD (some 41) (i := 6) (v := ?_) rfl rfl (by kernel_rfl) (by kernel_rfl) (by kernel_rfl) (fun _ _ _ h => h) (.inl ⟨by kernel_rfl, ?_⟩) hS6 ?_
          rotate_left
          · intro w' hw'; clear hw'; go_simp; try with_reducible rfl
          try simp only [Act.put, List.setIfInBounds_toArray, List.set_cons_zero, List.set_cons_succ]
          refine wpAnyH_takeD (some 42) (i := 7) (v := ?_) rfl rfl (by kernel_rfl) (by kernel_rfl) (by kernel_rfl) (fun _ _ _ h => h) (.inl ⟨by kernel_rfl, ?_⟩) hS6 ?_
          rotate_left
          · intro w' hw'; clear hw'; go_simp; try with_reducible rfl
          try simp only [Act.put, List.setIfInBounds_toArray, List.set_cons_zero, List.set_cons_succ]
          refine wpAnyH_all (rs := [9]) (by kernel_rfl) (by simp) ?_
          intro i hi; simp only [List.mem_cons, List.not_mem_nil, or_false] at hi
          subst hi
          refine wpOp_step rfl (fun K hK => ?_)
          rw [if_pos (by kernel_rfl)]
          refine wp_store_mid 33 (.tmp 10) (.tmp 40) rfl gg 0 ((dvC (.slice aa nn cc) es P St T) : List Value).toArray rfl rfl (rg.thereO 0 _ (by exact Nat.le_refl _)) hID (all_oneCell_toArray (dvC_one _ _ _ _ _ _ _)) ?_
          obtain ⟨X7, hX7⟩ : ∃ X, X = World.setCells v6 gg 0 ((dvC (.slice aa nn cc) es P St T) : List Value) := ⟨_, rfl⟩
          replace hO := hO.setO rg (by decide) ((dvC (.slice aa nn cc) es P St T) : List Value) 0
          rw [← hX7] at hO
          replace rg := rg.setAll (ys := ((dvC (.slice aa nn cc) es P St T) : List Value)) rfl
          replace bR := below_setCellsD ((dvC (.slice aa nn cc) es P St T) : List Value) 0 _ bR (g := gg) l_rg
          rw [← hX7] at rg bR
          have hS7 : (fun W' : World => Row W' g9 33 (dvC (.slice (some ⟨X, 0, none⟩) len len) ds pr st tk) ∧ Row W' (w.heap.size + 1) 28 ([Value.int .i8 k, Value.int .i64 x] : List Value)) X7 := ⟨QX.below bR QX.lt, QB.below bR QB.lt⟩
          have hXX7 : World.setCells v6 gg 0 ((dvC (.slice aa nn cc) es P St T) : List Value).toArray.toList = X7 := hX7.symm
          rw [hXX7]
          refine hK _ _ ⟨hS7, ?_⟩
          try simp only [Act.put, List.setIfInBounds_toArray, List.set_cons_zero, List.set_cons_succ]
          clear hX7 hXX7 hK K hS6
          refine wpAnyH_takeD (some 11) (i := 10) (v := ?_) rfl rfl (by kernel_rfl) (by kernel_rfl) (by kernel_rfl) (fun _ _ _ h => h) (.inl ⟨by kernel_rfl, ?_⟩) hS7 ?_
          rotate_left
          · intro w' hw'; clear hw'; go_simp; try with_reducible rfl
          try simp only [Act.put, List.setIfInBounds_toArray, List.set_cons_zero, List.set_cons_succ]
          refine wpAnyH_takeD (some 12) (i := 11) (v := ?_) rfl rfl (by kernel_rfl) (by kernel_rfl) (by kernel_rfl) (fun _ _ _ h => h) (.inl ⟨by kernel_rfl, ?_⟩) hS7 ?_
          rotate_left
          · intro w' hw'; clear hw'; go_simp; try with_reducible rfl
          try simp only [Act.put, List.setIfInBounds_toArray, List.set_cons_zero, List.set_cons_succ]
          refine wpAnyH_done (by kernel_rfl) ?_ _
          go_wp2_with fail
          go_meet
          exact ⟨gg, _, aa, nn, cc, rfl, rfl, rfl, rfl, rg, hO, hD0'.trans (bR.mono hD0'.size), Nat.le_trans hD0'.size l_rg⟩
      · refine wpOp_step rfl (fun K hK => ?_)
        go_simp
        have rg := Row.new W0 33 [.slice none 0 0, .int .u8 0, .int .u8 0, .int .u8 0, .int .u8 0, .int .u8 0, .int .u8 0, .int .u8 0, .int .u8 0, .int .i64 0, .bool false, .int .i64 0]
        have hA : Below W0.heap.size W0 (W0.alloc (.cells #[.slice none 0 0, .int .u8 0, .int .u8 0, .int .u8 0, .int .u8 0, .int .u8 0, .int .u8 0, .int .u8 0, .int .u8 0, .int .i64 0, .bool false, .int .i64 0] 33)) := (Below.refl _ _).alloc (Nat.le_refl _) _
        have l_rg0 := bR.size
        replace bR := bR.trans (hA.mono bR.size)
        have hS8 : (fun W' : World => Row W' g9 33 (dvC (.slice (some ⟨X, 0, none⟩) len len) ds pr st tk) ∧ Row W' (w.heap.size + 1) 28 ([Value.int .i8 k, Value.int .i64 x] : List Value)) (W0.alloc (.cells #[.slice none 0 0, .int .u8 0, .int .u8 0, .int .u8 0, .int .u8 0, .int .u8 0, .int .u8 0, .int .u8 0, .int .u8 0, .int .i64 0, .bool false, .int .i64 0] 33)) := ⟨QX.below bR QX.lt, QB.below bR QB.lt⟩
        refine hK _ _ ⟨hS8, ?_⟩
        try simp only [Act.put, List.setIfInBounds_toArray, List.set_cons_zero, List.set_cons_succ]
        obtain ⟨X8, hX8⟩ : ∃ X, X = W0.alloc (.cells #[.slice none 0 0, .int .u8 0, .int .u8 0, .int .u8 0, .int .u8 0, .int .u8 0, .int .u8 0, .int .u8 0, .int .u8 0, .int .i64 0, .bool false, .int .i64 0] 33) := ⟨_, rfl⟩
        obtain ⟨gg, hgg⟩ : ∃ y, y = W0.heap.size := ⟨_, rfl⟩
        rw [← hX8] at  rg bR hS8 ⊢
        have l_rg : W0.heap.size ≤ gg := by rw [hgg]; exact l_rg0
        rw [← hgg] at rg ⊢
        clear hX8 hA hK K hgg l_rg0 hS0
        refine wpAnyH_all (rs := [2]) (by kernel_rfl) (by simp) ?_
        intro i hi; simp only [List.mem_cons, List.not_mem_nil, or_false] at hi
        subst hi
        refine wpOp_step rfl (fun K hK => ?_)
        go_simp
        with_reducible refine (toAct_any k x X8).mono ?_
        rintro e v9 ⟨rfl, hB9⟩
        replace rg := rg.below hB9 rg.lt
        replace bR := bR.trans (hB9.mono bR.size)
        have hS9 : (fun W' : World => Row W' g9 33 (dvC (.slice (some ⟨X, 0, none⟩) len len) ds pr st tk) ∧ Row W' (w.heap.size + 1) 28 ([Value.int .i8 k, Value.int .i64 x] : List Value)) v9 := ⟨QX.below bR QX.lt, QB.below bR QB.lt⟩
        refine hK _ _ ⟨hS9, ?_⟩
        try simp only [Act.put, List.setIfInBounds_toArray, List.set_cons_zero, List.set_cons_succ]
        clear hB9 hK K hS8
        refine wpAnyH_all (rs := [3]) (by kernel_rfl) (by simp) ?_
        intro i hi; simp only [List.mem_cons, List.not_mem_nil, or_false] at hi
        subst hi
        refine wpOp_step rfl (fun K hK => ?_)
        go_simp
        with_reducible refine (HIM.out X v9 (HSTK.out X v9 (hX.below (hD0'.trans (bR.mono hD0'.size)) hX.lt)) (HSN.out.below (b0.trans ((q.trans (bR.mono q.size)).mono b0.size)) trivial)).mono ?_
        rintro e v10 ⟨aa, nn, cc, rfl, hO, hB10⟩
        replace hO := hO.lowb (b' := V8.heap.size) (by have := hD0'.size; have := bR.size; first | omega | (simp at *; omega))
        replace rg := rg.below hB10 rg.lt
        replace bR := bR.trans (hB10.mono bR.size)
        have hS10 : (fun W' : World => Row W' g9 33 (dvC (.slice (some ⟨X, 0, none⟩) len len) ds pr st tk) ∧ Row W' (w.heap.size + 1) 28 ([Value.int .i8 k, Value.int .i64 x] : List Value)) v10 := ⟨QX.below bR QX.lt, QB.below bR QB.lt⟩
        refine hK _ _ ⟨hS10, ?_⟩
        try simp only [Act.put, List.setIfInBounds_toArray, List.set_cons_zero, List.set_cons_succ]
        clear hB10 hK K hS9
        refine wpAnyH_takeD (some 35) (i := 4) (v := ?_) rfl rfl (by kernel_rfl) (by kernel_rfl) (by kernel_rfl) (fun _ _ _ h => h) (.inl ⟨by kernel_rfl, ?_⟩) hS10 ?_
        rotate_left
        · intro w' hw'; clear hw'; go_simp; try with_reducible rfl
        try simp only [Act.put, List.setIfInBounds_toArray, List.set_cons_zero, List.set_cons_succ]
        refine wpAnyH_takeD (some 40) (i := 5) (v := ?_) rfl rfl (by kernel_rfl) (by kernel_rfl) (by kernel_rfl) (fun _ _ _ h => h) (.inl ⟨by kernel_rfl, ?_⟩) hS10 ?_
        rotate_left
        · intro w' hw'; clear hw'; go_simp; try with_reducible rfl
        try simp only [Act.put, List.setIfInBounds_toArray, List.set_cons_zero, List.set_cons_succ]
        refine wpAnyH_takeD (some 41) (i := 6) (v := ?_) rfl rfl (by kernel_rfl) (by kernel_rfl) (by kernel_rfl) (fun _ _ _ h => h) (.inl ⟨by kernel_rfl, ?_⟩) hS10 ?_
        rotate_left
        · intro w' hw'; clear hw'; go_simp; try with_reducible rfl
        try simp only [Act.put, List.setIfInBounds_toArray, List.set_cons_zero, List.set_cons_succ]
        refine wpAnyH_takeD (some 42) (i := 7) (v := ?_) rfl rfl (by kernel_rfl) (by kernel_rfl) (by kernel_rfl) (fun _ _ _ h => h) (.inl ⟨by kernel_rfl, ?_⟩) hS10 ?_
        rotate_left
        · intro w' hw'; clear hw'; go_simp; try with_reducible rfl
        try simp only [Act.put, List.setIfInBounds_toArray, List.set_cons_zero, List.set_cons_succ]
        refine wpAnyH_all (rs := [9]) (by kernel_rfl) (by simp) ?_
        intro i hi; simp only [List.mem_cons, List.not_mem_nil, or_false] at hi
        subst hi
        refine wpOp_step rfl (fun K hK => ?_)
        rw [if_pos (by kernel_rfl)]
        refine wp_store_mid 33 (.tmp 10) (.tmp 40) rfl gg 0 ((dvC (.slice aa nn cc) es P St T) : List Value).toArray rfl rfl (rg.thereO 0 _ (by exact Nat.le_refl _)) hID (all_oneCell_toArray (dvC_one _ _ _ _ _ _ _)) ?_
        obtain ⟨X11, hX11⟩ : ∃ X, X = World.setCells v10 gg 0 ((dvC (.slice aa nn cc) es P St T) : List Value) := ⟨_, rfl⟩
        replace hO := hO.setO rg (by decide) ((dvC (.slice aa nn cc) es P St T) : List Value) 0
        rw [← hX11] at hO
        replace rg := rg.setAll (ys := ((dvC (.slice aa nn cc) es P St T) : List Value)) rfl
        replace bR := below_setCellsD ((dvC (.slice aa nn cc) es P St T) : List Value) 0 _ bR (g := gg) l_rg
        rw [← hX11] at rg bR
        have hS11 : (fun W' : World => Row W' g9 33 (dvC (.slice (some ⟨X, 0, none⟩) len len) ds pr st tk) ∧ Row W' (w.heap.size + 1) 28 ([Value.int .i8 k, Value.int .i64 x] : List Value)) X11 := ⟨QX.below bR QX.lt, QB.below bR QB.lt⟩
        have hXX11 : World.setCells v10 gg 0 ((dvC (.slice aa nn cc) es P St T) : List Value).toArray.toList = X11 := hX11.symm
        rw [hXX11]
        refine hK _ _ ⟨hS11, ?_⟩
        try simp only [Act.put, List.setIfInBounds_toArray, List.set_cons_zero, List.set_cons_succ]
        clear hX11 hXX11 hK K hS10
        refine wpAnyH_takeD (some 11) (i := 10) (v := ?_) rfl rfl (by kernel_rfl) (by kernel_rfl) (by kernel_rfl) (fun _ _ _ h => h) (.inl ⟨by kernel_rfl, ?_⟩) hS11 ?_
        rotate_left
        · intro w' hw'; clear hw'; go_simp; try with_reducible rfl
        try simp only [Act.put, List.setIfInBounds_toArray, List.set_cons_zero, List.set_cons_succ]
        refine wpAnyH_takeD (some 12) (i := 11) (v := ?_) rfl rfl (by kernel_rfl) (by kernel_rfl) (by kernel_rfl) (fun _ _ _ h => h) (.inl ⟨by kernel_rfl, ?_⟩) hS11 ?_
        rotate_left
        · intro w' hw'; clear hw'; go_simp; try with_reducible rfl
        try simp only [Act.put, List.setIfInBounds_toArray, List.set_cons_zero, List.set_cons_succ]
        refine wpAnyH_done (by kernel_rfl) ?_ _
        go_wp2_with fail
        go_meet
        exact ⟨gg, _, aa, nn, cc, rfl, rfl, rfl, rfl, rg, hO, hD0'.trans (bR.mono hD0'.size), Nat.le_trans hD0'.size l_rg⟩
    case rest =>
      obtain ⟨g10, V6, a6s, n6, c6, rfl, rfl, rfl, rfl, RG, G6, hB, hg10⟩ := hcut
      replace q := q.trans (hB.mono q.size)
      replace c3b := c3b.trans (hB.mono c3b.size)
      replace d := d.trans (hB.mono d.size)
      clear hB
      have e : Below V6.heap.size V6 V6 := Below.refl _ _
      have HG10 := hid hg10
      clear hg10
      go_wp2_with (first | ((with_reducible refine wpList_load_row rfl 33 _ rfl g10 ?_ 33 (dvC (.slice a6s n6 c6) es P St T).toArray (0, 0) _ ?_ Tryd.underlying33 ?_ ?_ ?_); rfl; exact (RG.below e RG.lt); rfl; exact hID) | ((with_reducible refine wpList_load_row rfl 33 _ rfl g0 ?_ 33 (dvC (.slice a3s n3 c3) es P St T).toArray (0, 0) _ ?_ Tryd.underlying33 ?_ ?_ ?_); rfl; exact (R0.below c3b R0.lt); rfl; exact hID))
      refine (eqDevO _ _ a6s n6 c6 a3s n3 c3 E es P St T _ (G6.keep e) (O3.keep c3b)).mono ?_
      rintro e w11 ⟨rfl, hB⟩
      replace q := q.trans (hB.mono q.size)
      replace c3b := c3b.trans (hB.mono c3b.size)
      replace d := d.trans (hB.mono d.size)
      replace e := e.trans (hB.mono e.size)
      clear hB
      go_upto_region 10 with fail
      have QA := QA0.below q QA0.lt
      have QY := QX.below d QX.lt
      refine wp_region_held (S := fun W' : World => Row W' g9 33 (dvC (.slice (some ⟨X, 0, none⟩) len len) ds pr st tk) ∧ Row W' w.heap.size 25 (dvC (.slice a len cap) ds pr st tk)) (by kernel_rfl) ?_
      change wpAnyH _ _ _ _ _ _ _ _ (World.drew _)
      obtain ⟨W0, hW0⟩ : ∃ X, X = World.drew (w11) := ⟨_, rfl⟩
      have hD0 : Below (w11).heap.size (w11) W0 := by rw [hW0]; exact (Below.refl _ _).drew
      replace QY := QY.below hD0 QY.lt
      replace QA := QA.below hD0 QA.lt
      replace q := q.trans (hD0.mono q.size)
      replace c3b := c3b.trans (hD0.mono c3b.size)
      replace d := d.trans (hD0.mono d.size)
      replace e := e.trans (hD0.mono e.size)
      have bR : Below W0.heap.size W0 W0 := Below.refl _ _
      rw [← hW0]
      clear hW0 hD0
      have hS0 : (fun W' : World => Row W' g9 33 (dvC (.slice (some ⟨X, 0, none⟩) len len) ds pr st tk) ∧ Row W' w.heap.size 25 (dvC (.slice a len cap) ds pr st tk)) W0 := ⟨QY.below bR QY.lt, QA.below bR QA.lt⟩
      refine wpAnyH_takeD (some 57) (i := 0) (v := .agg ((dvC (.slice (some ⟨X, 0, none⟩) len len) ds pr st tk)).toArray) rfl rfl (by kernel_rfl) (by kernel_rfl) (by kernel_rfl) (fun _ _ _ h => h) (.inl ⟨by kernel_rfl, ?_⟩) hS0 ?_
      · intro w' hw'; exact exec_load_row 33 _ rfl g9 rfl 33 ((dvC (.slice (some ⟨X, 0, none⟩) len len) ds pr st tk)).toArray _ (hw'.1) Tryd.underlying33 rfl hID
      try simp only [Act.put, List.setIfInBounds_toArray, List.set_cons_zero, List.set_cons_succ]
      refine wpAnyH_takeD (some 58) (i := 1) (v := .agg ((dvC (.slice a len cap) ds pr st tk)).toArray) rfl rfl (by kernel_rfl) (by kernel_rfl) (by kernel_rfl) (fun _ _ _ h => h) (.inl ⟨by kernel_rfl, ?_⟩) hS0 ?_
      · intro w' hw'; exact exec_load_row 25 _ rfl w.heap.size rfl 25 ((dvC (.slice a len cap) ds pr st tk)).toArray _ (hw'.2) Tryd.underlying25 rfl hIL
      try simp only [Act.put, List.setIfInBounds_toArray, List.set_cons_zero, List.set_cons_succ]
      refine wpAnyH_all (rs := [2]) (by kernel_rfl) (by simp) ?_
      intro i hi; simp only [List.mem_cons, List.not_mem_nil, or_false] at hi
      subst hi
      refine wpOp_step rfl (fun K hK => ?_)
      go_simp
      with_reducible refine (toDeviceL a len cap zs ds pr st tk W0 (HI.out.below (b0.trans ((q.trans (bR.mono q.size)).mono b0.size)) (Nat.le_refl _)) hle).mono ?_
      rintro e v1 ⟨X2, rfl, hB1, hX2, _⟩
      replace bR := bR.trans (hB1.mono bR.size)
      have hS1 : (fun W' : World => Row W' g9 33 (dvC (.slice (some ⟨X, 0, none⟩) len len) ds pr st tk) ∧ Row W' w.heap.size 25 (dvC (.slice a len cap) ds pr st tk)) v1 := ⟨QY.below bR QY.lt, QA.below bR QA.lt⟩
      refine hK _ _ ⟨hS1, ?_⟩
      try simp only [Act.put, List.setIfInBounds_toArray, List.set_cons_zero, List.set_cons_succ]
      clear hB1 hK K hS0
      refine wpAnyH_all (rs := [3]) (by kernel_rfl) (by simp) ?_
      intro i hi; simp only [List.mem_cons, List.not_mem_nil, or_false] at hi
      subst hi
      refine wpOp_step rfl (fun K hK => ?_)
      go_simp
      with_reducible refine (eqDeviceL X X2 len len len zs ds pr st tk v1 (HSTK.out X v1 (hX.below (d.trans (bR.mono d.size)) hX.lt)) (HSTK.out X2 v1 hX2) HN.out).mono ?_
      rintro e v2 ⟨rfl, hB2⟩
      replace hX2 := hX2.below hB2 hX2.lt
      replace bR := bR.trans (hB2.mono bR.size)
      have hS2 : (fun W' : World => Row W' g9 33 (dvC (.slice (some ⟨X, 0, none⟩) len len) ds pr st tk) ∧ Row W' w.heap.size 25 (dvC (.slice a len cap) ds pr st tk)) v2 := ⟨QY.below bR QY.lt, QA.below bR QA.lt⟩
      refine hK _ _ ⟨hS2, ?_⟩
      try simp only [Act.put, List.setIfInBounds_toArray, List.set_cons_zero, List.set_cons_succ]
      clear hB2 hK K hS1
      refine wpAnyH_takeD (some 61) (i := 4) (v := ?_) rfl rfl (by kernel_rfl) (by kernel_rfl) (by kernel_rfl) (fun _ _ _ h => h) (.inl ⟨by kernel_rfl, ?_⟩) hS2 ?_
      rotate_left
      · intro w' hw'; clear hw'; go_simp; try with_reducible rfl
      try simp only [Act.put, List.setIfInBounds_toArray, List.set_cons_zero, List.set_cons_succ]
      refine wpAnyH_done (by kernel_rfl) ?_ _
      replace q := q.trans (bR.mono q.size)
      replace c3b := c3b.trans (bR.mono c3b.size)
      replace d := d.trans (bR.mono d.size)
      replace e := e.trans (bR.mono e.size)
      clear bR hX2 QA QY
      go_wp2_with ((with_reducible refine wpList_load_row rfl 33 _ rfl g9 ?_ 33 (dvC (.slice (some ⟨X, 0, none⟩) len len) ds pr st tk).toArray (0, 0) _ ?_ Tryd.underlying33 ?_ ?_ ?_); rfl; exact (QX.below d QX.lt); rfl; exact hID)
      refine (markDeviceL X len len _ ds pr st tk (by rw [List.length_map]; exact HN.out.symm) hle _ (hX.below d hX.lt)).mono ?_
      rintro e1 w13 ⟨rfl, h10⟩
      have hXV : V3.heap.size ≤ X := HXL.out
      have hq0 := HQ5.out
      have hX9 := HX9.out
      have hg10 := HG10.out
      have hl8 := HL8.out
      have hX5 : X < V8.heap.size := hX.lt

      obtain ⟨wv, hwv⟩ : ∃ z, OnlyB X z w13 ∧ Below v2.heap.size v2 z := ⟨_, h10, (Below.refl _ _).alloc (Nat.le_refl _) _⟩
      obtain ⟨ho, hB⟩ := hwv
      clear h10
      replace q := q.trans (hB.mono q.size)
      replace c3b := c3b.trans (hB.mono c3b.size)
      replace d := d.trans (hB.mono d.size)
      replace e := e.trans (hB.mono e.size)
      clear hB
      replace G6 := (G6.keep e).only ho hX5
      replace RG := ho.row (RG.below e RG.lt) (by omega)
      have hHS := ho.1
      have hq3 : V0.heap.size ≤ V3.heap.size := HQ3.out
      replace q := q.trans (ho.2.2.mono (by omega))
      replace c3b := c3b.trans (ho.2.2.mono hXV)
      have hb5 : V8.heap.size ≤ w13.heap.size := by rw [hHS]; exact d.size
      clear d e ho hHS
      have e : Below w13.heap.size w13 w13 := Below.refl _ _
      go_wp2_with (first | ((with_reducible refine wpList_load_rowG ?_ 33 _ rfl g10 ?_ 33 (dvC (.slice a6s n6 c6) es P St T).toArray (0, 0) _ ?_ Tryd.underlying33 ?_ ?_ ?_); rfl; rfl; exact (RG.below e RG.lt); rfl; exact hID) | ((with_reducible refine wpList_load_rowG ?_ 33 _ rfl g0 ?_ 33 (dvC (.slice a3s n3 c3) es P St T).toArray (0, 0) _ ?_ Tryd.underlying33 ?_ ?_ ?_); rfl; rfl; exact (R0.below c3b R0.lt); rfl; exact hID))
      refine (eqDevO _ _ a6s n6 c6 a3s n3 c3 E es P St T _ (G6.keep e) (O3.keep c3b)).mono ?_
      rintro e w15 ⟨rfl, hB⟩
      replace q := q.trans (hB.mono q.size)
      replace c3b := c3b.trans (hB.mono c3b.size)
      replace e := e.trans (hB.mono e.size)
      clear hB
      go_wp2_with ((with_reducible refine wpList_load_row rfl 33 _ rfl g10 ?_ 33 (dvC (.slice a6s n6 c6) es P St T).toArray (0, 0) _ ?_ Tryd.underlying33 ?_ ?_ ?_); rfl; exact (RG.below e RG.lt); rfl; exact hID)
      refine (markDevO V8.heap.size a6s n6 c6 E es P St T _ (G6.keep e) (Nat.le_trans hb5 e.size)).mono ?_
      rintro e1 w16 ⟨rfl, M16, hB, hK⟩
      replace RG := hK _ _ (RG.below e RG.lt)
      replace q := q.trans (hB.mono (by omega))
      replace c3b := c3b.trans (hB.mono (by omega))
      clear hB hK e G6
      have e : Below w16.heap.size w16 w16 := Below.refl _ _
      go_wp2_with ((with_reducible refine wpList_load_row rfl 33 _ rfl g10 ?_ 33 (dvC (.slice a6s n6 c6) es P St T).toArray (0, 0) _ ?_ Tryd.underlying33 ?_ ?_ ?_); rfl; exact (RG.below e RG.lt); rfl; exact hID)
      refine (heldDevO V8.heap.size a6s n6 c6 E.length es P St T _ (M16.keep e)).mono ?_
      rintro e w17 ⟨rfl, hB⟩
      replace q := q.trans (hB.mono q.size)
      replace c3b := c3b.trans (hB.mono c3b.size)
      replace e := e.trans (hB.mono e.size)
      clear hB
      go_upto_region 24 with fail
      obtain ⟨w18, hw18⟩ : ∃ z, z = w17 := ⟨_, rfl⟩
      rw [← hw18] at q c3b e ⊢
      clear hw18
      go_cut [16, 17, 18] (fun s16 s17 s18 wx => ∃ (g : Nat) (W : World) (aa : Option Addr) (nn cc : Nat), W = wx ∧ s16 = .pointer (some ⟨g, 0, none⟩) ∧ s17 = .int .i64 l ∧ s18 = .int .i64 c ∧ Row W g 33 (dvC (.slice aa nn cc) es P St T) ∧ OwnB W w18.heap.size (.slice aa nn cc) E ∧ Below w18.heap.size w18 W ∧ w18.heap.size ≤ g)
      case first =>
        have QA := QA0.below q QA0.lt
        have QB := QB0.below q QB0.lt
        refine wp_region_held (S := fun W' : World => Row W' w.heap.size 25 (dvC (.slice a len cap) ds pr st tk) ∧ Row W' (w.heap.size + 1) 28 ([Value.int .i8 k, Value.int .i64 x] : List Value)) (by kernel_rfl) ?_
        change wpAnyH _ _ _ _ _ _ _ _ (World.drew _)
        obtain ⟨W0, hW0⟩ : ∃ X, X = World.drew (w18) := ⟨_, rfl⟩
        have hD0 : Below (w18).heap.size (w18) W0 := by rw [hW0]; exact (Below.refl _ _).drew
        replace QA := QA.below hD0 QA.lt
        replace QB := QB.below hD0 QB.lt
        replace q := q.trans (hD0.mono q.size)
        have bR : Below W0.heap.size W0 W0 := Below.refl _ _
        have hD0' := hD0
        rw [← hW0]
        clear hW0 hD0
        have hS0 : (fun W' : World => Row W' w.heap.size 25 (dvC (.slice a len cap) ds pr st tk) ∧ Row W' (w.heap.size + 1) 28 ([Value.int .i8 k, Value.int .i64 x] : List Value)) W0 := ⟨QA.below bR QA.lt, QB.below bR QB.lt⟩
        refine wpAnyH_takeD (some 95) (i := 0) (v := .agg ((dvC (.slice a len cap) ds pr st tk)).toArray) rfl rfl (by kernel_rfl) (by kernel_rfl) (by kernel_rfl) (fun _ _ _ h => h) (.inl ⟨by kernel_rfl, ?_⟩) hS0 ?_
        · intro w' hw'; exact exec_load_row 25 _ rfl w.heap.size rfl 25 ((dvC (.slice a len cap) ds pr st tk)).toArray _ (hw'.1) Tryd.underlying25 rfl hIL
        try simp only [Act.put, List.setIfInBounds_toArray, List.set_cons_zero, List.set_cons_succ]
        refine wpAnyH_takeD (some 97) (i := 2) (v := .agg (([Value.int .i8 k, Value.int .i64 x] : List Value)).toArray) rfl rfl (by kernel_rfl) (by kernel_rfl) (by kernel_rfl) (fun _ _ _ h => h) (.inl ⟨by kernel_rfl, ?_⟩) hS0 ?_
        · intro w' hw'; exact exec_load_row 28 _ rfl (w.heap.size + 1) rfl 28 (([Value.int .i8 k, Value.int .i64 x] : List Value)).toArray _ (hw'.2) Tryd.underlying28 rfl hIA
        try simp only [Act.put, List.setIfInBounds_toArray, List.set_cons_zero, List.set_cons_succ]
        refine wpAnyH_all (rs := [1, 9]) (by kernel_rfl) (by simp) ?_
        intro i hi; simp only [List.mem_cons, List.not_mem_nil, or_false] at hi
        rcases hi with rfl | rfl
        · refine wpOp_step rfl (fun K hK => ?_)
          go_simp
          with_reducible refine (toDeviceL a len cap zs ds pr st tk W0 (HI.out.below (b0.trans ((q.trans (bR.mono q.size)).mono b0.size)) (Nat.le_refl _)) hle).mono ?_
          rintro e v1 ⟨X3, rfl, hB1, hX3, _⟩
          replace bR := bR.trans (hB1.mono bR.size)
          have hS1 : (fun W' : World => Row W' w.heap.size 25 (dvC (.slice a len cap) ds pr st tk) ∧ Row W' (w.heap.size + 1) 28 ([Value.int .i8 k, Value.int .i64 x] : List Value)) v1 := ⟨QA.below bR QA.lt, QB.below bR QB.lt⟩
          refine hK _ _ ⟨hS1, ?_⟩
          try simp only [Act.put, List.setIfInBounds_toArray, List.set_cons_zero, List.set_cons_succ]
          clear hB1 hK K hS0
          refine wpAnyH_all (rs := [3, 9]) (by kernel_rfl) (by simp) ?_
          intro i hi; simp only [List.mem_cons, List.not_mem_nil, or_false] at hi
          rcases hi with rfl | rfl
          · refine wpOp_step rfl (fun K hK => ?_)
            go_simp
            with_reducible refine (toAct_any k x v1).mono ?_
            rintro e v2 ⟨rfl, hB2⟩
            replace hX3 := hX3.below hB2 hX3.lt
            replace bR := bR.trans (hB2.mono bR.size)
            have hS2 : (fun W' : World => Row W' w.heap.size 25 (dvC (.slice a len cap) ds pr st tk) ∧ Row W' (w.heap.size + 1) 28 ([Value.int .i8 k, Value.int .i64 x] : List Value)) v2 := ⟨QA.below bR QA.lt, QB.below bR QB.lt⟩
            refine hK _ _ ⟨hS2, ?_⟩
            try simp only [Act.put, List.setIfInBounds_toArray, List.set_cons_zero, List.set_cons_succ]
            clear hB2 hK K hS1
            refine wpAnyH_all (rs := [4, 9]) (by kernel_rfl) (by simp) ?_
            intro i hi; simp only [List.mem_cons, List.not_mem_nil, or_false] at hi
            rcases hi with rfl | rfl
            · refine wpOp_step rfl (fun K hK => ?_)
              go_simp
              with_reducible refine (HIM.out X3 v2 (HSTK.out X3 v2 hX3) (HSN.out.below (b0.trans ((q.trans (bR.mono q.size)).mono b0.size)) trivial)).mono ?_
              rintro e v3 ⟨aa, nn, cc, rfl, hO, hB3⟩
              replace hO := hO.lowb (b' := w18.heap.size) (by have := hD0'.size; have := bR.size; first | omega | (simp at *; omega))
              replace hX3 := hX3.below hB3 hX3.lt
              replace bR := bR.trans (hB3.mono bR.size)
              have hS3 : (fun W' : World => Row W' w.heap.size 25 (dvC (.slice a len cap) ds pr st tk) ∧ Row W' (w.heap.size + 1) 28 ([Value.int .i8 k, Value.int .i64 x] : List Value)) v3 := ⟨QA.below bR QA.lt, QB.below bR QB.lt⟩
              refine hK _ _ ⟨hS3, ?_⟩
              try simp only [Act.put, List.setIfInBounds_toArray, List.set_cons_zero, List.set_cons_succ]
              clear hB3 hK K hS2
              refine wpAnyH_takeD (some 94) (i := 5) (v := ?_) rfl rfl (by kernel_rfl) (by kernel_rfl) (by kernel_rfl) (fun _ _ _ h => h) (.inl ⟨by kernel_rfl, ?_⟩) hS3 ?_
              rotate_left
              · intro w' hw'; clear hw'; go_simp; try with_reducible rfl
              try simp only [Act.put, List.setIfInBounds_toArray, List.set_cons_zero, List.set_cons_succ]
              refine wpAnyH_takeD (some 100) (i := 6) (v := ?_) rfl rfl (by kernel_rfl) (by kernel_rfl) (by kernel_rfl) (fun _ _ _ h => h) (.inl ⟨by kernel_rfl, ?_⟩) hS3 ?_
              rotate_left
              · intro w' hw'; clear hw'; go_simp; try with_reducible rfl
              try simp only [Act.put, List.setIfInBounds_toArray, List.set_cons_zero, List.set_cons_succ]
              refine wpAnyH_takeD (some 101) (i := 7) (v := ?_) rfl rfl (by kernel_rfl) (by kernel_rfl) (by kernel_rfl) (fun _ _ _ h => h) (.inl ⟨by kernel_rfl, ?_⟩) hS3 ?_
              rotate_left
              · intro w' hw'; clear hw'; go_simp; try with_reducible rfl
              try simp only [Act.put, List.setIfInBounds_toArray, List.set_cons_zero, List.set_cons_succ]
              refine wpAnyH_takeD (some 102) (i := 8) (v := ?_) rfl rfl (by kernel_rfl) (by kernel_rfl) (by kernel_rfl) (fun _ _ _ h => h) (.inl ⟨by kernel_rfl, ?_⟩) hS3 ?_
              rotate_left
              · intro w' hw'; clear hw'; go_simp; try with_reducible rfl
              try simp only [Act.put, List.setIfInBounds_toArray, List.set_cons_zero, List.set_cons_succ]
              refine wpAnyH_all (rs := [9]) (by kernel_rfl) (by simp) ?_
              intro i hi; simp only [List.mem_cons, List.not_mem_nil, or_false] at hi
              subst hi
              refine wpOp_step rfl (fun K hK => ?_)
              go_simp
              have rg := Row.new v3 33 [.slice none 0 0, .int .u8 0, .int .u8 0, .int .u8 0, .int .u8 0, .int .u8 0, .int .u8 0, .int .u8 0, .int .u8 0, .int .i64 0, .bool false, .int .i64 0]
              have hA : Below v3.heap.size v3 (v3.alloc (.cells #[.slice none 0 0, .int .u8 0, .int .u8 0, .int .u8 0, .int .u8 0, .int .u8 0, .int .u8 0, .int .u8 0, .int .u8 0, .int .i64 0, .bool false, .int .i64 0] 33)) := (Below.refl _ _).alloc (Nat.le_refl _) _
              replace hX3 := hX3.below hA hX3.lt
              replace hO := hO.keep hA
              have l_rg0 := bR.size
              replace bR := bR.trans (hA.mono bR.size)
              have hS4 : (fun W' : World => Row W' w.heap.size 25 (dvC (.slice a len cap) ds pr st tk) ∧ Row W' (w.heap.size + 1) 28 ([Value.int .i8 k, Value.int .i64 x] : List Value)) (v3.alloc (.cells #[.slice none 0 0, .int .u8 0, .int .u8 0, .int .u8 0, .int .u8 0, .int .u8 0, .int .u8 0, .int .u8 0, .int .u8 0, .int .i64 0, .bool false, .int .i64 0] 33)) := ⟨QA.below bR QA.lt, QB.below bR QB.lt⟩
              refine hK _ _ ⟨hS4, ?_⟩
              try simp only [Act.put, List.setIfInBounds_toArray, List.set_cons_zero, List.set_cons_succ]
              obtain ⟨X4, hX4⟩ : ∃ X, X = v3.alloc (.cells #[.slice none 0 0, .int .u8 0, .int .u8 0, .int .u8 0, .int .u8 0, .int .u8 0, .int .u8 0, .int .u8 0, .int .u8 0, .int .i64 0, .bool false, .int .i64 0] 33) := ⟨_, rfl⟩
              obtain ⟨gg, hgg⟩ : ∃ y, y = v3.heap.size := ⟨_, rfl⟩
              rw [← hX4] at hX3 hO rg bR hS4 ⊢
              have l_rg : W0.heap.size ≤ gg := by rw [hgg]; exact l_rg0
              rw [← hgg] at rg ⊢
              clear hX4 hA hK K hgg l_rg0 hS3
              refine wpAnyH_all (rs := [10]) (by kernel_rfl) (by simp) ?_
              intro i hi; simp only [List.mem_cons, List.not_mem_nil, or_false] at hi
              subst hi
              refine wpOp_step rfl (fun K hK => ?_)
              rw [if_pos (by kernel_rfl)]
              refine wp_store_mid 33 (.tmp 16) (.tmp 100) rfl gg 0 ((dvC (.slice aa nn cc) es P St T) : List Value).toArray rfl rfl (rg.thereO 0 _ (by exact Nat.le_refl _)) hID (all_oneCell_toArray (dvC_one _ _ _ _ _ _ _)) ?_
              obtain ⟨X5, hX5⟩ : ∃ X, X = World.setCells X4 gg 0 ((dvC (.slice aa nn cc) es P St T) : List Value) := ⟨_, rfl⟩
              replace hO := hO.setO rg (by decide) ((dvC (.slice aa nn cc) es P St T) : List Value) 0
              rw [← hX5] at hO
              replace rg := rg.setAll (ys := ((dvC (.slice aa nn cc) es P St T) : List Value)) rfl
              replace bR := below_setCellsD ((dvC (.slice aa nn cc) es P St T) : List Value) 0 _ bR (g := gg) l_rg
              rw [← hX5] at rg bR
              have hS5 : (fun W' : World => Row W' w.heap.size 25 (dvC (.slice a len cap) ds pr st tk) ∧ Row W' (w.heap.size + 1) 28 ([Value.int .i8 k, Value.int .i64 x] : List Value)) X5 := ⟨QA.below bR QA.lt, QB.below bR QB.lt⟩
              have hXX5 : World.setCells X4 gg 0 ((dvC (.slice aa nn cc) es P St T) : List Value).toArray.toList = X5 := hX5.symm
              rw [hXX5]
              refine hK _ _ ⟨hS5, ?_⟩
              try simp only [Act.put, List.setIfInBounds_toArray, List.set_cons_zero, List.set_cons_succ]
              clear hX5 hXX5 hK K hS4
              refine wpAnyH_takeD (some 17) (i := 11) (v := ?_) rfl rfl (by kernel_rfl) (by kernel_rfl) (by kernel_rfl) (fun _ _ _ h => h) (.inl ⟨by kernel_rfl, ?_⟩) hS5 ?_
              rotate_left
              · intro w' hw'; clear hw'; go_simp; try with_reducible rfl
              try simp only [Act.put, List.setIfInBounds_toArray, List.set_cons_zero, List.set_cons_succ]
              refine wpAnyH_takeD (some 18) (i := 12) (v := ?_) rfl rfl (by kernel_rfl) (by kernel_rfl) (by kernel_rfl) (fun _ _ _ h => h) (.inl ⟨by kernel_rfl, ?_⟩) hS5 ?_
              rotate_left
              · intro w' hw'; clear hw'; go_simp; try with_reducible rfl
              try simp only [Act.put, List.setIfInBounds_toArray, List.set_cons_zero, List.set_cons_succ]
              refine wpAnyH_done (by kernel_rfl) ?_ _
              go_wp2_with fail
              go_meet
              exact ⟨gg, _, aa, nn, cc, rfl, rfl, rfl, rfl, rg, hO, hD0'.trans (bR.mono hD0'.size), Nat.le_trans hD0'.size l_rg⟩
            · refine wpOp_step rfl (fun K hK => ?_)
              go_simp
              have rg := Row.new v2 33 [.slice none 0 0, .int .u8 0, .int .u8 0, .int .u8 0, .int .u8 0, .int .u8 0, .int .u8 0, .int .u8 0, .int .u8 0, .int .i64 0, .bool false, .int .i64 0]
              have hA : Below v2.heap.size v2 (v2.alloc (.cells #[.slice none 0 0, .int .u8 0, .int .u8 0, .int .u8 0, .int .u8 0, .int .u8 0, .int .u8 0, .int .u8 0, .int .u8 0, .int .i64 0, .bool false, .int .i64 0] 33)) := (Below.refl _ _).alloc (Nat.le_refl _) _
              replace hX3 := hX3.below hA hX3.lt
              have l_rg0 := bR.size
              replace bR := bR.trans (hA.mono bR.size)
              have hS6 : (fun W' : World => Row W' w.heap.size 25 (dvC (.slice a len cap) ds pr st tk) ∧ Row W' (w.heap.size + 1) 28 ([Value.int .i8 k, Value.int .i64 x] : List Value)) (v2.alloc (.cells #[.slice none 0 0, .int .u8 0, .int .u8 0, .int .u8 0, .int .u8 0, .int .u8 0, .int .u8 0, .int .u8 0, .int .u8 0, .int .i64 0, .bool false, .int .i64 0] 33)) := ⟨QA.below bR QA.lt, QB.below bR QB.lt⟩
              refine hK _ _ ⟨hS6, ?_⟩
              try simp only [Act.put, List.setIfInBounds_toArray, List.set_cons_zero, List.set_cons_succ]
              obtain ⟨X6, hX6⟩ : ∃ X, X = v2.alloc (.cells #[.slice none 0 0, .int .u8 0, .int .u8 0, .int .u8 0, .int .u8 0, .int .u8 0, .int .u8 0, .int .u8 0, .int .u8 0, .int .i64 0, .bool false, .int .i64 0] 33) := ⟨_, rfl⟩
              obtain ⟨gg, hgg⟩ : ∃ y, y = v2.heap.size := ⟨_, rfl⟩
              rw [← hX6] at hX3 rg bR hS6 ⊢
              have l_rg : W0.heap.size ≤ gg := by rw [hgg]; exact l_rg0
              rw [← hgg] at rg ⊢
              clear hX6 hA hK K hgg l_rg0 hS2
              refine wpAnyH_all (rs := [4]) (by kernel_rfl) (by simp) ?_
              intro i hi; simp only [List.mem_cons, List.not_mem_nil, or_false] at hi
              subst hi
              refine wpOp_step rfl (fun K hK => ?_)
              go_simp
              with_reducible refine (HIM.out X3 X6 (HSTK.out X3 X6 hX3) (HSN.out.below (b0.trans ((q.trans (bR.mono q.size)).mono b0.size)) trivial)).mono ?_
              rintro e v7 ⟨aa, nn, cc, rfl, hO, hB7⟩
              replace hO := hO.lowb (b' := w18.heap.size) (by have := hD0'.size; have := bR.size; first | omega | (simp at *; omega))
              replace hX3 := hX3.below hB7 hX3.lt
              replace rg := rg.below hB7 rg.lt
              replace bR := bR.trans (hB7.mono bR.size)
              have hS7 : (fun W' : World => Row W' w.heap.size 25 (dvC (.slice a len cap) ds pr st tk) ∧ Row W' (w.heap.size + 1) 28 ([Value.int .i8 k, Value.int .i64 x] : List Value)) v7 := ⟨QA.below bR QA.lt, QB.below bR QB.lt⟩
              refine hK _ _ ⟨hS7, ?_⟩
              try simp only [Act.put, List.setIfInBounds_toArray, List.set_cons_zero, List.set_cons_succ]
              clear hB7 hK K hS6
              refine wpAnyH_takeD (some 94) (i := 5) (v := ?_) rfl rfl (by kernel_rfl) (by kernel_rfl) (by kernel_rfl) (fun _ _ _ h => h) (.inl ⟨by kernel_rfl, ?_⟩) hS7 ?_
              rotate_left
              · intro w' hw'; clear hw'; go_simp; try with_reducible rfl
              try simp only [Act.put, List.setIfInBounds_toArray, List.set_cons_zero, List.set_cons_succ]
              refine wpAnyH_takeD (some 100) (i := 6) (v := ?_) rfl rfl (by kernel_rfl) (by kernel_rfl) (by kernel_rfl) (fun _ _ _ h => h) (.inl ⟨by kernel_rfl, ?_⟩) hS7 ?_
              rotate_left
              · intro w' hw'; clear hw'; go_simp; try with_reducible rfl
              try simp only [Act.put, List.setIfInBounds_toArray, List.set_cons_zero, List.set_cons_succ]
              refine wpAnyH_takeD (some 101) (i := 7) (v := ?_) rfl rfl (by kernel_rfl) (by kernel_rfl) (by kernel_rfl) (fun _ _ _ h => h) (.inl ⟨by kernel_rfl, ?_⟩) hS7 ?_
              rotate_left
              · intro w' hw'; clear hw'; go_simp; try with_reducible rfl
              try simp only [Act.put, List.setIfInBounds_toArray, List.set_cons_zero, List.set_cons_succ]
              refine wpAnyH_takeD (some 102) (i := 8) (v := ?_) rfl rfl (by kernel_rfl) (by kernel_rfl) (by kernel_rfl) (fun _ _ _ h => h) (.inl ⟨by kernel_rfl, ?_⟩) hS7 ?_
              rotate_left
              · intro w' hw'; clear hw'; go_simp; try with_reducible rfl
              try simp only [Act.put, List.setIfInBounds_toArray, List.set_cons_zero, List.set_cons_succ]
              refine wpAnyH_all (rs := [10]) (by kernel_rfl) (by simp) ?_
              intro i hi; simp only [List.mem_cons, List.not_mem_nil, or_false] at hi
              subst hi
              refine wpOp_step rfl (fun K hK => ?_)
              rw [if_pos (by kernel_rfl)]
              refine wp_store_mid 33 (.tmp 16) (.tmp 100) rfl gg 0 ((dvC (.slice aa nn cc) es P St T) : List Value).toArray rfl rfl (rg.thereO 0 _ (by exact Nat.le_refl _)) hID (all_oneCell_toArray (dvC_one _ _ _ _ _ _ _)) ?_
              obtain ⟨X8, hX8⟩ : ∃ X, X = World.setCells v7 gg 0 ((dvC (.slice aa nn cc) es P St T) : List Value) := ⟨_, rfl⟩
              replace hO := hO.setO rg (by decide) ((dvC (.slice aa nn cc) es P St T) : List Value) 0
              rw [← hX8] at hO
              replace rg := rg.setAll (ys := ((dvC (.slice aa nn cc) es P St T) : List Value)) rfl
              replace bR := below_setCellsD ((dvC (.slice aa nn cc) es P St T) : List Value) 0 _ bR (g := gg) l_rg
              rw [← hX8] at rg bR
              have hS8 : (fun W' : World => Row W' w.heap.size 25 (dvC (.slice a len cap) ds pr st tk) ∧ Row W' (w.heap.size + 1) 28 ([Value.int .i8 k, Value.int .i64 x] : List Value)) X8 := ⟨QA.below bR QA.lt, QB.below bR QB.lt⟩
              have hXX8 : World.setCells v7 gg 0 ((dvC (.slice aa nn cc) es P St T) : List Value).toArray.toList = X8 := hX8.symm
              rw [hXX8]
              refine hK _ _ ⟨hS8, ?_⟩
              try simp only [Act.put, List.setIfInBounds_toArray, List.set_cons_zero, List.set_cons_succ]
              clear hX8 hXX8 hK K hS7
              refine wpAnyH_takeD (some 17) (i := 11) (v := ?_) rfl rfl (by kernel_rfl) (by kernel_rfl) (by kernel_rfl) (fun _ _ _ h => h) (.inl ⟨by kernel_rfl, ?_⟩) hS8 ?_
              rotate_left
              · intro w' hw'; clear hw'; go_simp; try with_reducible rfl
              try simp only [Act.put, List.setIfInBounds_toArray, List.set_cons_zero, List.set_cons_succ]
              refine wpAnyH_takeD (some 18) (i := 12) (v := ?_) rfl rfl (by kernel_rfl) (by kernel_rfl) (by kernel_rfl) (fun _ _ _ h => h) (.inl ⟨by kernel_rfl, ?_⟩) hS8 ?_
              rotate_left
              · intro w' hw'; clear hw'; go_simp; try with_reducible rfl
              try simp only [Act.put, List.setIfInBounds_toArray, List.set_cons_zero, List.set_cons_succ]
              refine wpAnyH_done (by kernel_rfl) ?_ _
              go_wp2_with fail
              go_meet
              exact ⟨gg, _, aa, nn, cc, rfl, rfl, rfl, rfl, rg, hO, hD0'.trans (bR.mono hD0'.size), Nat.le_trans hD0'.size l_rg⟩
          · refine wpOp_step rfl (fun K hK => ?_)
            go_simp
            have rg := Row.new v1 33 [.slice none 0 0, .int .u8 0, .int .u8 0, .int .u8 0, .int .u8 0, .int .u8 0, .int .u8 0, .int .u8 0, .int .u8 0, .int .i64 0, .bool false, .int .i64 0]
            have hA : Below v1.heap.size v1 (v1.alloc (.cells #[.slice none 0 0, .int .u8 0, .int .u8 0, .int .u8 0, .int .u8 0, .int .u8 0, .int .u8 0, .int .u8 0, .int .u8 0, .int .i64 0, .bool false, .int .i64 0] 33)) := (Below.refl _ _).alloc (Nat.le_refl _) _
            replace hX3 := hX3.below hA hX3.lt
            have l_rg0 := bR.size
            replace bR := bR.trans (hA.mono bR.size)
            have hS9 : (fun W' : World => Row W' w.heap.size 25 (dvC (.slice a len cap) ds pr st tk) ∧ Row W' (w.heap.size + 1) 28 ([Value.int .i8 k, Value.int .i64 x] : List Value)) (v1.alloc (.cells #[.slice none 0 0, .int .u8 0, .int .u8 0, .int .u8 0, .int .u8 0, .int .u8 0, .int .u8 0, .int .u8 0, .int .u8 0, .int .i64 0, .bool false, .int .i64 0] 33)) := ⟨QA.below bR QA.lt, QB.below bR QB.lt⟩
            refine hK _ _ ⟨hS9, ?_⟩
            try simp only [Act.put, List.setIfInBounds_toArray, List.set_cons_zero, List.set_cons_succ]
            obtain ⟨X9, hX9⟩ : ∃ X, X = v1.alloc (.cells #[.slice none 0 0, .int .u8 0, .int .u8 0, .int .u8 0, .int .u8 0, .int .u8 0, .int .u8 0, .int .u8 0, .int .u8 0, .int .i64 0, .bool false, .int .i64 0] 33) := ⟨_, rfl⟩
            obtain ⟨gg, hgg⟩ : ∃ y, y = v1.heap.size := ⟨_, rfl⟩
            rw [← hX9] at hX3 rg bR hS9 ⊢
            have l_rg : W0.heap.size ≤ gg := by rw [hgg]; exact l_rg0
            rw [← hgg] at rg ⊢
            clear hX9 hA hK K hgg l_rg0 hS1
            refine wpAnyH_all (rs := [3]) (by kernel_rfl) (by simp) ?_
            intro i hi; simp only [List.mem_cons, List.not_mem_nil, or_false] at hi
            subst hi
            refine wpOp_step rfl (fun K hK => ?_)
            go_simp
            with_reducible refine (toAct_any k x X9).mono ?_
            rintro e v10 ⟨rfl, hB10⟩
            replace hX3 := hX3.below hB10 hX3.lt
            replace rg := rg.below hB10 rg.lt
            replace bR := bR.trans (hB10.mono bR.size)
            have hS10 : (fun W' : World => Row W' w.heap.size 25 (dvC (.slice a len cap) ds pr st tk) ∧ Row W' (w.heap.size + 1) 28 ([Value.int .i8 k, Value.int .i64 x] : List Value)) v10 := ⟨QA.below bR QA.lt, QB.below bR QB.lt⟩
            refine hK _ _ ⟨hS10, ?_⟩
            try simp only [Act.put, List.setIfInBounds_toArray, List.set_cons_zero, List.set_cons_succ]
            clear hB10 hK K hS9
            refine wpAnyH_all (rs := [4]) (by kernel_rfl) (by simp) ?_
            intro i hi; simp only [List.mem_cons, List.not_mem_nil, or_false] at hi
            subst hi
            refine wpOp_step rfl (fun K hK => ?_)
            go_simp
            with_reducible refine (HIM.out X3 v10 (HSTK.out X3 v10 hX3) (HSN.out.below (b0.trans ((q.trans (bR.mono q.size)).mono b0.size)) trivial)).mono ?_
            rintro e v11 ⟨aa, nn, cc, rfl, hO, hB11⟩
            replace hO := hO.lowb (b' := w18.heap.size) (by have := hD0'.size; have := bR.size; first | omega | (simp at *; omega))
            replace hX3 := hX3.below hB11 hX3.lt
            replace rg := rg.below hB11 rg.lt
            replace bR := bR.trans (hB11.mono bR.size)
            have hS11 : (fun W' : World => Row W' w.heap.size 25 (dvC (.slice a len cap) ds pr st tk) ∧ Row W' (w.heap.size + 1) 28 ([Value.int .i8 k, Value.int .i64 x] : List Value)) v11 := ⟨QA.below bR QA.lt, QB.below bR QB.lt⟩
            refine hK _ _ ⟨hS11, ?_⟩
            try simp only [Act.put, List.setIfInBounds_toArray, List.set_cons_zero, List.set_cons_succ]
            clear hB11 hK K hS10
            refine wpAnyH_takeD (some 94) (i := 5) (v := ?_) rfl rfl (by kernel_rfl) (by kernel_rfl) (by kernel_rfl) (fun _ _ _ h => h) (.inl ⟨by kernel_rfl, ?_⟩) hS11 ?_
            rotate_left
            · intro w' hw'; clear hw'; go_simp; try with_reducible rfl
            try simp only [Act.put, List.setIfInBounds_toArray, List.set_cons_zero, List.set_cons_succ]
            refine wpAnyH_takeD (some 100) (i := 6) (v := ?_) rfl rfl (by kernel_rfl) (by kernel_rfl) (by kernel_rfl) (fun _ _ _ h => h) (.inl ⟨by kernel_rfl, ?_⟩) hS11 ?_
            rotate_left
            · intro w' hw'; clear hw'; go_simp; try with_reducible rfl
            try simp only [Act.put, List.setIfInBounds_toArray, List.set_cons_zero, List.set_cons_succ]
            refine wpAnyH_takeD (some 101) (i := 7) (v := ?_) rfl rfl (by kernel_rfl) (by kernel_rfl) (by kernel_rfl) (fun _ _ _ h => h) (.inl ⟨by kernel_rfl, ?_⟩) hS11 ?_
            rotate_left
            · intro w' hw'; clear hw'; go_simp; try with_reducible rfl
            try simp only [Act.put, List.setIfInBounds_toArray, List.set_cons_zero, List.set_cons_succ]
            refine wpAnyH_takeD (some 102) (i := 8) (v := ?_) rfl rfl (by kernel_rfl) (by kernel_rfl) (by kernel_rfl) (fun _ _ _ h => h) (.inl ⟨by kernel_rfl, ?_⟩) hS11 ?_
            rotate_left
            · intro w' hw'; clear hw'; go_simp; try with_reducible rfl
            try simp only [Act.put, List.setIfInBounds_toArray, List.set_cons_zero, List.set_cons_succ]
            refine wpAnyH_all (rs := [10]) (by kernel_rfl) (by simp) ?_
            intro i hi; simp only [List.mem_cons, List.not_mem_nil, or_false] at hi
            subst hi
            refine wpOp_step rfl (fun K hK => ?_)
            rw [if_pos (by kernel_rfl)]
            refine wp_store_mid 33 (.tmp 16) (.tmp 100) rfl gg 0 ((dvC (.slice aa nn cc) es P St T) : List Value).toArray rfl rfl (rg.thereO 0 _ (by exact Nat.le_refl _)) hID (all_oneCell_toArray (dvC_one _ _ _ _ _ _ _)) ?_
            obtain ⟨X12, hX12⟩ : ∃ X, X = World.setCells v11 gg 0 ((dvC (.slice aa nn cc) es P St T) : List Value) := ⟨_, rfl⟩
            replace hO := hO.setO rg (by decide) ((dvC (.slice aa nn cc) es P St T) : List Value) 0
            rw [← hX12] at hO
            replace rg := rg.setAll (ys := ((dvC (.slice aa nn cc) es P St T) : List Value)) rfl
            replace bR := below_setCellsD ((dvC (.slice aa nn cc) es P St T) : List Value) 0 _ bR (g := gg) l_rg
            rw [← hX12] at rg bR
            have hS12 : (fun W' : World => Row W' w.heap.size 25 (dvC (.slice a len cap) ds pr st tk) ∧ Row W' (w.heap.size + 1) 28 ([Value.int .i8 k, Value.int .i64 x] : List Value)) X12 := ⟨QA.below bR QA.lt, QB.below bR QB.lt⟩
            have hXX12 : World.setCells v11 gg 0 ((dvC (.slice aa nn cc) es P St T) : List Value).toArray.toList = X12 := hX12.symm
            rw [hXX12]
            refine hK _ _ ⟨hS12, ?_⟩
            try simp only [Act.put, List.setIfInBounds_toArray, List.set_cons_zero, List.set_cons_succ]
            clear hX12 hXX12 hK K hS11
            refine wpAnyH_takeD (some 17) (i := 11) (v := ?_) rfl rfl (by kernel_rfl) (by kernel_rfl) (by kernel_rfl) (fun _ _ _ h => h) (.inl ⟨by kernel_rfl, ?_⟩) hS12 ?_
            rotate_left
            · intro w' hw'; clear hw'; go_simp; try with_reducible rfl
            try simp only [Act.put, List.setIfInBounds_toArray, List.set_cons_zero, List.set_cons_succ]
            refine wpAnyH_takeD (some 18) (i := 12) (v := ?_) rfl rfl (by kernel_rfl) (by kernel_rfl) (by kernel_rfl) (fun _ _ _ h => h) (.inl ⟨by kernel_rfl, ?_⟩) hS12 ?_
            rotate_left
            · intro w' hw'; clear hw'; go_simp; try with_reducible rfl
            try simp only [Act.put, List.setIfInBounds_toArray, List.set_cons_zero, List.set_cons_succ]
            refine wpAnyH_done (by kernel_rfl) ?_ _
            go_wp2_with fail
            go_meet
            exact ⟨gg, _, aa, nn, cc, rfl, rfl, rfl, rfl, rg, hO, hD0'.trans (bR.mono hD0'.size), Nat.le_trans hD0'.size l_rg⟩
        · refine wpOp_step rfl (fun K hK => ?_)
          go_simp
          have rg := Row.new W0 33 [.slice none 0 0, .int .u8 0, .int .u8 0, .int .u8 0, .int .u8 0, .int .u8 0, .int .u8 0, .int .u8 0, .int .u8 0, .int .i64 0, .bool false, .int .i64 0]
          have hA : Below W0.heap.size W0 (W0.alloc (.cells #[.slice none 0 0, .int .u8 0, .int .u8 0, .int .u8 0, .int .u8 0, .int .u8 0, .int .u8 0, .int .u8 0, .int .u8 0, .int .i64 0, .bool false, .int .i64 0] 33)) := (Below.refl _ _).alloc (Nat.le_refl _) _
          have l_rg0 := bR.size
          replace bR := bR.trans (hA.mono bR.size)
          have hS13 : (fun W' : World => Row W' w.heap.size 25 (dvC (.slice a len cap) ds pr st tk) ∧ Row W' (w.heap.size + 1) 28 ([Value.int .i8 k, Value.int .i64 x] : List Value)) (W0.alloc (.cells #[.slice none 0 0, .int .u8 0, .int .u8 0, .int .u8 0, .int .u8 0, .int .u8 0, .int .u8 0, .int .u8 0, .int .u8 0, .int .i64 0, .bool false, .int .i64 0] 33)) := ⟨QA.below bR QA.lt, QB.below bR QB.lt⟩
          refine hK _ _ ⟨hS13, ?_⟩
          try simp only [Act.put, List.setIfInBounds_toArray, List.set_cons_zero, List.set_cons_succ]
          obtain ⟨X13, hX13⟩ : ∃ X, X = W0.alloc (.cells #[.slice none 0 0, .int .u8 0, .int .u8 0, .int .u8 0, .int .u8 0, .int .u8 0, .int .u8 0, .int .u8 0, .int .u8 0, .int .i64 0, .bool false, .int .i64 0] 33) := ⟨_, rfl⟩
          obtain ⟨gg, hgg⟩ : ∃ y, y = W0.heap.size := ⟨_, rfl⟩
          rw [← hX13] at  rg bR hS13 ⊢
          have l_rg : W0.heap.size ≤ gg := by rw [hgg]; exact l_rg0
          rw [← hgg] at rg ⊢
          clear hX13 hA hK K hgg l_rg0 hS0
          refine wpAnyH_all (rs := [1]) (by kernel_rfl) (by simp) ?_
          intro i hi; simp only [List.mem_cons, List.not_mem_nil, or_false] at hi
          subst hi
          refine wpOp_step rfl (fun K hK => ?_)
          go_simp
          with_reducible refine (toDeviceL a len cap zs ds pr st tk X13 (HI.out.below (b0.trans ((q.trans (bR.mono q.size)).mono b0.size)) (Nat.le_refl _)) hle).mono ?_
          rintro e v14 ⟨X3, rfl, hB14, hX3, _⟩
          replace rg := rg.below hB14 rg.lt
          replace bR := bR.trans (hB14.mono bR.size)
          have hS14 : (fun W' : World => Row W' w.heap.size 25 (dvC (.slice a len cap) ds pr st tk) ∧ Row W' (w.heap.size + 1) 28 ([Value.int .i8 k, Value.int .i64 x] : List Value)) v14 := ⟨QA.below bR QA.lt, QB.below bR QB.lt⟩
          refine hK _ _ ⟨hS14, ?_⟩
          try simp only [Act.put, List.setIfInBounds_toArray, List.set_cons_zero, List.set_cons_succ]
          clear hB14 hK K hS13
          refine wpAnyH_all (rs := [3]) (by kernel_rfl) (by simp) ?_
          intro i hi; simp only [List.mem_cons, List.not_mem_nil, or_false] at hi
          subst hi
          refine wpOp_step rfl (fun K hK => ?_)
          go_simp
          with_reducible refine (toAct_any k x v14).mono ?_
          rintro e v15 ⟨rfl, hB15⟩
          replace hX3 := hX3.below hB15 hX3.lt
          replace rg := rg.below hB15 rg.lt
          replace bR := bR.trans (hB15.mono bR.size)
          have hS15 : (fun W' : World => Row W' w.heap.size 25 (dvC (.slice a len cap) ds pr st tk) ∧ Row W' (w.heap.size + 1) 28 ([Value.int .i8 k, Value.int .i64 x] : List Value)) v15 := ⟨QA.below bR QA.lt, QB.below bR QB.lt⟩
          refine hK _ _ ⟨hS15, ?_⟩
          try simp only [Act.put, List.setIfInBounds_toArray, List.set_cons_zero, List.set_cons_succ]
          clear hB15 hK K hS14
          refine wpAnyH_all (rs := [4]) (by kernel_rfl) (by simp) ?_
          intro i hi; simp only [List.mem_cons, List.not_mem_nil, or_false] at hi
          subst hi
          refine wpOp_step rfl (fun K hK => ?_)
          go_simp
          with_reducible refine (HIM.out X3 v15 (HSTK.out X3 v15 hX3) (HSN.out.below (b0.trans ((q.trans (bR.mono q.size)).mono b0.size)) trivial)).mono ?_
          rintro e v16 ⟨aa, nn, cc, rfl, hO, hB16⟩
          replace hO := hO.lowb (b' := w18.heap.size) (by have := hD0'.size; have := bR.size; first | omega | (simp at *; omega))
          replace hX3 := hX3.below hB16 hX3.lt
          replace rg := rg.below hB16 rg.lt
          replace bR := bR.trans (hB16.mono bR.size)
          have hS16 : (fun W' : World => Row W' w.heap.size 25 (dvC (.slice a len cap) ds pr st tk) ∧ Row W' (w.heap.size + 1) 28 ([Value.int .i8 k, Value.int .i64 x] : List Value)) v16 := ⟨QA.below bR QA.lt, QB.below bR QB.lt⟩
          refine hK _ _ ⟨hS16, ?_⟩
          try simp only [Act.put, List.setIfInBounds_toArray, List.set_cons_zero, List.set_cons_succ]
          clear hB16 hK K hS15
          refine wpAnyH_takeD (some 94) (i := 5) (v := ?_) rfl rfl (by kernel_rfl) (by kernel_rfl) (by kernel_rfl) (fun _ _ _ h => h) (.inl ⟨by kernel_rfl, ?_⟩) hS16 ?_
          rotate_left
          · intro w' hw'; clear hw'; go_simp; try with_reducible rfl
          try simp only [Act.put, List.setIfInBounds_toArray, List.set_cons_zero, List.set_cons_succ]
          refine wpAnyH_takeD (some 100) (i := 6) (v := ?_) rfl rfl (by kernel_rfl) (by kernel_rfl) (by kernel_rfl) (fun _ _ _ h => h) (.inl ⟨by kernel_rfl, ?_⟩) hS16 ?_
          rotate_left
          · intro w' hw'; clear hw'; go_simp; try with_reducible rfl
          try simp only [Act.put, List.setIfInBounds_toArray, List.set_cons_zero, List.set_cons_succ]
          refine wpAnyH_takeD (some 101) (i := 7) (v := ?_) rfl rfl (by kernel_rfl) (by kernel_rfl) (by kernel_rfl) (fun _ _ _ h => h) (.inl ⟨by kernel_rfl, ?_⟩) hS16 ?_
          rotate_left
          · intro w' hw'; clear hw'; go_simp; try with_reducible rfl
          try simp only [Act.put, List.setIfInBounds_toArray, List.set_cons_zero, List.set_cons_succ]
          refine wpAnyH_takeD (some 102) (i := 8) (v := ?_) rfl rfl (by kernel_rfl) (by kernel_rfl) (by kernel_rfl) (fun _ _ _ h => h) (.inl ⟨by kernel_rfl, ?_⟩) hS16 ?_
          rotate_left
          · intro w' hw'; clear hw'; go_simp; try with_reducible rfl
          try simp only [Act.put, List.setIfInBounds_toArray, List.set_cons_zero, List.set_cons_succ]
          refine wpAnyH_all (rs := [10]) (by kernel_rfl) (by simp) ?_
          intro i hi; simp only [List.mem_cons, List.not_mem_nil, or_false] at hi
          subst hi
          refine wpOp_step rfl (fun K hK => ?_)
          rw [if_pos (by kernel_rfl)]
          refine wp_store_mid 33 (.tmp 16) (.tmp 100) rfl gg 0 ((dvC (.slice aa nn cc) es P St T) : List Value).toArray rfl rfl (rg.thereO 0 _ (by exact Nat.le_refl _)) hID (all_oneCell_toArray (dvC_one _ _ _ _ _ _ _)) ?_
          obtain ⟨X17, hX17⟩ : ∃ X, X = World.setCells v16 gg 0 ((dvC (.slice aa nn cc) es P St T) : List Value) := ⟨_, rfl⟩
          replace hO := hO.setO rg (by decide) ((dvC (.slice aa nn cc) es P St T) : List Value) 0
          rw [← hX17] at hO
          replace rg := rg.setAll (ys := ((dvC (.slice aa nn cc) es P St T) : List Value)) rfl
          replace bR := below_setCellsD ((dvC (.slice aa nn cc) es P St T) : List Value) 0 _ bR (g := gg) l_rg
          rw [← hX17] at rg bR
          have hS17 : (fun W' : World => Row W' w.heap.size 25 (dvC (.slice a len cap) ds pr st tk) ∧ Row W' (w.heap.size + 1) 28 ([Value.int .i8 k, Value.int .i64 x] : List Value)) X17 := ⟨QA.below bR QA.lt, QB.below bR QB.lt⟩
          have hXX17 : World.setCells v16 gg 0 ((dvC (.slice aa nn cc) es P St T) : List Value).toArray.toList = X17 := hX17.symm
          rw [hXX17]
          refine hK _ _ ⟨hS17, ?_⟩
          try simp only [Act.put, List.setIfInBounds_toArray, List.set_cons_zero, List.set_cons_succ]
          clear hX17 hXX17 hK K hS16
          refine wpAnyH_takeD (some 17) (i := 11) (v := ?_) rfl rfl (by kernel_rfl) (by kernel_rfl) (by kernel_rfl) (fun _ _ _ h => h) (.inl ⟨by kernel_rfl, ?_⟩) hS17 ?_
          rotate_left
          · intro w' hw'; clear hw'; go_simp; try with_reducible rfl
          try simp only [Act.put, List.setIfInBounds_toArray, List.set_cons_zero, List.set_cons_succ]
          refine wpAnyH_takeD (some 18) (i := 12) (v := ?_) rfl rfl (by kernel_rfl) (by kernel_rfl) (by kernel_rfl) (fun _ _ _ h => h) (.inl ⟨by kernel_rfl, ?_⟩) hS17 ?_
          rotate_left
          · intro w' hw'; clear hw'; go_simp; try with_reducible rfl
          try simp only [Act.put, List.setIfInBounds_toArray, List.set_cons_zero, List.set_cons_succ]
          refine wpAnyH_done (by kernel_rfl) ?_ _
          go_wp2_with fail
          go_meet
          exact ⟨gg, _, aa, nn, cc, rfl, rfl, rfl, rfl, rg, hO, hD0'.trans (bR.mono hD0'.size), Nat.le_trans hD0'.size l_rg⟩
      case rest =>
        obtain ⟨g16, V15, a9s, n9, c9, rfl, rfl, rfl, rfl, R16, H9, hB, _⟩ := hcut
        replace q := q.trans (hB.mono q.size)
        replace c3b := c3b.trans (hB.mono c3b.size)
        replace e := e.trans (hB.mono e.size)
        clear hB
        have s16 : Below V15.heap.size V15 V15 := Below.refl _ _
        go_wp2_with (first | ((with_reducible refine wpList_load_row rfl 33 _ rfl g16 ?_ 33 (dvC (.slice a9s n9 c9) es P St T).toArray (0, 0) _ ?_ Tryd.underlying33 ?_ ?_ ?_); rfl; exact (R16.below s16 R16.lt); rfl; exact hID) | ((with_reducible refine wpList_load_row rfl 33 _ rfl g0 ?_ 33 (dvC (.slice a3s n3 c3) es P St T).toArray (0, 0) _ ?_ Tryd.underlying33 ?_ ?_ ?_); rfl; exact (R0.below c3b R0.lt); rfl; exact hID))
        refine (eqDevO _ _ a9s n9 c9 a3s n3 c3 E es P St T _ (H9.keep s16) (O3.keep c3b)).mono ?_
        rintro e w21 ⟨rfl, hB⟩
        replace q := q.trans (hB.mono q.size)
        replace c3b := c3b.trans (hB.mono c3b.size)
        replace e := e.trans (hB.mono e.size)
        replace s16 := s16.trans (hB.mono s16.size)
        clear hB
        go_wp2_with ((with_reducible refine wpList_load_row rfl 33 _ rfl g10 ?_ 33 (dvC (.slice a6s n6 c6) es P St T).toArray (0, 0) _ ?_ Tryd.underlying33 ?_ ?_ ?_); rfl; exact (RG.below e RG.lt); rfl; exact hID)
        refine (heldDevO V8.heap.size a6s n6 c6 E.length es P St T _ (M16.keep e)).mono ?_
        rintro e w22 ⟨rfl, hB⟩
        replace q := q.trans (hB.mono q.size)
        replace c3b := c3b.trans (hB.mono c3b.size)
        replace e := e.trans (hB.mono e.size)
        replace s16 := s16.trans (hB.mono s16.size)
        clear hB
        go_wp2_with fail
        go_ret
        exact ⟨rfl, b0.trans (q.mono b0.size)⟩
end Go.Proofs.YthifegbmpmialaaDoor

namespace Go.Proofs.YthifegbmpmialaaDoor
open Go.RowKit
set_option linter.unusedVariables false
set_option linter.unusedSimpArgs false
set_option maxRecDepth 100000 in
set_option maxHeartbeats 1000000 in
theorem law_FnExactDoAct (a : Option Addr) (len cap : Nat) (zs : List Int) (d0 d1 d2 d3 d4 d5 d6 d7 : Int) (pr : Int) (st : Bool) (tk : Int) (k x : Int) (w : World) (hl : len ≤ 9223372036854775807) (h : InB w a len zs) (ho : Oct d0 d1 d2 d3 d4 d5 d6 d7) (hp : I64 pr) (ht : I64 tk) (hk : -128 ≤ k ∧ k ≤ 127) (hx : I64 x) (a0 a1 a2 a3 : Addr) (hSN : SN w a0 a1 a2 a3) :
    Calls Tryd.prog 3 #[.agg #[.slice a len cap, .int .u8 d0, .int .u8 d1, .int .u8 d2, .int .u8 d3, .int .u8 d4, .int .u8 d5, .int .u8 d6, .int .u8 d7, .int .i64 pr, .bool st, .int .i64 tk], .agg #[.int .i8 k, .int .i64 x]] w fun e w' => e = .returned (.bool true) ∧ Below w.heap.size w w' := by
  by_cases hs : 1048576 < len
  · have HZ := hid (fun w => szDevice_no a len cap d0 d1 d2 d3 d4 d5 d6 d7 pr st tk w hs hl)
    have bel : Below w.heap.size w (((w.alloc (.cells #[.slice a len cap, .int .u8 d0, .int .u8 d1, .int .u8 d2, .int .u8 d3, .int .u8 d4, .int .u8 d5, .int .u8 d6, .int .u8 d7, .int .i64 pr, .bool st, .int .i64 tk] 25)).alloc (.cells #[.int .i8 k, .int .i64 x] 28)).alloc (.cells #[.slice a len cap, .int .u8 d0, .int .u8 d1, .int .u8 d2, .int .u8 d3, .int .u8 d4, .int .u8 d5, .int .u8 d6, .int .u8 d7, .int .i64 pr, .bool st, .int .i64 tk] 25)) := (((Below.refl _ _).alloc (Nat.le_refl _) _).alloc (by simp) _).alloc (by simp; omega) _
    clear h hs hl ho hp ht hSN hk hx
    go_enter Tryd.func3, Tryd.ntmps3
    go_wp2_with fail
    refine (HZ.out _).mono ?_
    rintro e w' ⟨rfl, rfl⟩
    go_wp2_with fail
    go_ret
    exact ⟨rfl, bel⟩
  · have hle : len ≤ 1048576 := by omega
    have hn : len = zs.length := h.1.symm
    have hvv : okDev zs [d0, d1, d2, d3, d4, d5, d6, d7] pr st tk = true → [d0, d1, d2, d3, d4, d5, d6, d7] = dgL zs (valL zs [d0, d1, d2, d3, d4, d5, d6, d7] zs.length) ∧ okS (szL zs) (valL zs [d0, d1, d2, d3, d4, d5, d6, d7] zs.length, pr, st, tk) := fun hv => dev_state rfl ho hv
    have hz : zs.length ≤ 1099511627776 := by omega
    refine lawc_FnExactDoAct a len cap zs [d0, d1, d2, d3, d4, d5, d6, d7] pr st tk k x w hle h hn _ _ _ _ _ _ _ a0 a1 a2 a3 hSN
      (fun B w1 hS => specDoAct_any B len len zs [d0, d1, d2, d3, d4, d5, d6, d7] (valL zs [d0, d1, d2, d3, d4, d5, d6, d7] zs.length) pr st tk k x w1 hS hn rfl ho hvv) ?_
    intro B w1 hS hN
    refine (doAct_any B len len zs [d0, d1, d2, d3, d4, d5, d6, d7] (valL zs [d0, d1, d2, d3, d4, d5, d6, d7] zs.length) pr st tk k x w1 hS hn hS.2.2.1 rfl ho hvv a0 a1 a2 a3 hN).mono ?_
    rintro e w' ⟨dv, nv, l, he, h12, hX, hB⟩
    exact DevO.of_impl (ds := zs) he hX hz hB
end Go.Proofs.YthifegbmpmialaaDoor

namespace Go.Proofs.YthifegbmpmialaaDoor
open Go
theorem laid_sentinels4 {P : Program} {n0 n1 n2 n3 nm : String} {text0 text1 text2 text3 : List UInt8} {r : List (String × DataW Unit)} {W : World} {g0 g1 g2 g3 : Nat} {ti tp te ts : TypeId} {ms : Array (String × TypeId)} {f : Field}
    (h : laidMet P ((n0, .iface nm (.ptr (.agg [.lit (.string text0)]))) :: (n1, .iface nm (.ptr (.agg [.lit (.string text1)]))) :: (n2, .iface nm (.ptr (.agg [.lit (.string text2)]))) :: (n3, .iface nm (.ptr (.agg [.lit (.string text3)]))) :: r) W) (hg0 : P.globalNamed n0 = some g0) (ht0 : (P.globals[g0]?).map (·.type) = some ti) (hg1 : P.globalNamed n1 = some g1) (ht1 : (P.globals[g1]?).map (·.type) = some ti) (hg2 : P.globalNamed n2 = some g2) (ht2 : (P.globals[g2]?).map (·.type) = some ti) (hg3 : P.globalNamed n3 = some g3) (ht3 : (P.globals[g3]?).map (·.type) = some ti)
    (hi : P.underlying ti = some (.interface ms)) (hrow : ∀ u, P.typeName? 3 u = some nm → u = tp)
    (hp : P.underlying tp = some (.pointer te)) (he : P.underlying te = some (.struct #[f])) (hft : f.type = ts) (hfo : f.offset = 0) (hs : P.underlying ts = some .string) (hc : P.cellsOf te = 1) (hcs : P.cellsOf ts = 1) :
    ∃ (a0 a1 a2 a3 : Addr) (s0 s1 s2 s3 : ByteArray) (c0 c1 c2 c3 : Array Value) (t0 t1 t2 t3 : TypeId),
      W.var? P n0 = some #[.iface tp (.pointer (some a0))] ∧ W.var? P n1 = some #[.iface tp (.pointer (some a1))] ∧ W.var? P n2 = some #[.iface tp (.pointer (some a2))] ∧ W.var? P n3 = some #[.iface tp (.pointer (some a3))] ∧ W.cell? a0 = some (.string s0) ∧ W.cell? a1 = some (.string s1) ∧ W.cell? a2 = some (.string s2) ∧ W.cell? a3 = some (.string s3) ∧ a0 ≠ a1 ∧ a0 ≠ a2 ∧ a0 ≠ a3 ∧ a1 ≠ a2 ∧ a1 ≠ a3 ∧ a2 ≠ a3 ∧ W.heap[a0.block]? = some (.cells c0 t0 (0, 0)) ∧ W.heap[a1.block]? = some (.cells c1 t1 (0, 0)) ∧ W.heap[a2.block]? = some (.cells c2 t2 (0, 0)) ∧ W.heap[a3.block]? = some (.cells c3 t3 (0, 0)) := by
  obtain ⟨ps, ⟨g0', t0', cs0, f0, p0, q0, hg0', ht0', hv0, hd0, ⟨g1', t1', cs1, f1, p1, q1, hg1', ht1', hv1, hd1, ⟨g2', t2', cs2, f2, p2, q2, hg2', ht2', hv2, hd2, ⟨g3', t3', cs3, f3, p3, q3, hg3', ht3', hv3, hd3, _, e3⟩, e2⟩, e1⟩, e0⟩, hnd, hrows⟩ := h
  obtain rfl := Option.some.inj (hg0.symm.trans hg0')
  obtain rfl := Option.some.inj (ht0.symm.trans ht0')
  obtain rfl := Option.some.inj (hg1.symm.trans hg1')
  obtain rfl := Option.some.inj (ht1.symm.trans ht1')
  obtain rfl := Option.some.inj (hg2.symm.trans hg2')
  obtain rfl := Option.some.inj (ht2.symm.trans ht2')
  obtain rfl := Option.some.inj (hg3.symm.trans hg3')
  obtain rfl := Option.some.inj (ht3.symm.trans ht3')
  subst e3
  subst e2
  subst e1
  subst e0
  obtain ⟨l0⟩ := cs0
  obtain ⟨l1⟩ := cs1
  obtain ⟨l2⟩ := cs2
  obtain ⟨l3⟩ := cs3
  have ok0 : ∀ u v, l0 = [.iface u v] → Value.okWide P W .any 0 u v := fun u v e => by
    subst e
    exact (hrows g0 0 (by simp [MemPlace.row])).2 u v (by simpa using World.var?_cell hg0' hv0 0)
  have ok1 : ∀ u v, l1 = [.iface u v] → Value.okWide P W .any 0 u v := fun u v e => by
    subst e
    exact (hrows g1 0 (by simp [MemPlace.row])).2 u v (by simpa using World.var?_cell hg1' hv1 0)
  have ok2 : ∀ u v, l2 = [.iface u v] → Value.okWide P W .any 0 u v := fun u v e => by
    subst e
    exact (hrows g2 0 (by simp [MemPlace.row])).2 u v (by simpa using World.var?_cell hg2' hv2 0)
  have ok3 : ∀ u v, l3 = [.iface u v] → Value.okWide P W .any 0 u v := fun u v e => by
    subst e
    exact (hrows g3 0 (by simp [MemPlace.row])).2 u v (by simpa using World.var?_cell hg3' hv3 0)
  obtain ⟨a0, s0, rfl, hc0, hs0, hz0, rfl⟩ := errorString_of_trod hi hrow hp he hft hfo hs hc hcs hd0 ok0
  obtain ⟨a1, s1, rfl, hc1, hs1, hz1, rfl⟩ := errorString_of_trod hi hrow hp he hft hfo hs hc hcs hd1 ok1
  obtain ⟨a2, s2, rfl, hc2, hs2, hz2, rfl⟩ := errorString_of_trod hi hrow hp he hft hfo hs hc hcs hd2 ok2
  obtain ⟨a3, s3, rfl, hc3, hs3, hz3, rfl⟩ := errorString_of_trod hi hrow hp he hft hfo hs hc hcs hd3 ok3
  obtain ⟨c0, t0, hb0⟩ := (hrows a0.block a0.off (by simp [MemPlace.row])).1
  obtain ⟨c1, t1, hb1⟩ := (hrows a1.block a1.off (by simp [MemPlace.row])).1
  obtain ⟨c2, t2, hb2⟩ := (hrows a2.block a2.off (by simp [MemPlace.row])).1
  obtain ⟨c3, t3, hb3⟩ := (hrows a3.block a3.off (by simp [MemPlace.row])).1
  refine ⟨a0, a1, a2, a3, s0, s1, s2, s3, c0, c1, c2, c3, t0, t1, t2, t3, hv0, hv1, hv2, hv3, hc0, hc1, hc2, hc3, ?_, ?_, ?_, ?_, ?_, ?_, hb0, hb1, hb2, hb3⟩
  all_goals (rintro rfl; simp [MemPlace.row] at hnd)
end Go.Proofs.YthifegbmpmialaaDoor
