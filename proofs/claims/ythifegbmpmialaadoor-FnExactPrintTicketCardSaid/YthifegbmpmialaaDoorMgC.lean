/- Texts of this seat, merged: DvE DvF DevR OwnB NewD DvG DvH DvI DvJ. -/
import Derived.LaidEql
import Derived.Stop.Asserts
import Derived.RowKitTokens
import Derived.OwnWalk
import Derived.Deep.QuietTactic
import Derived.Laws.OwnMore
import Derived.Deep.MidRow
import Derived.Test.YthifegbmpmialaaDoorMgB

namespace Go.Proofs.YthifegbmpmialaaDoor
open Go.RowKit
set_option linter.unusedVariables false
set_option linter.unusedSimpArgs false
/-- the eleven cells of a note -/
def ntC (k x : Int) (ds : List Int) (l : Int) : List Value := [.int .i8 k, .int .i64 x, .int .u8 (dg ds 0), .int .u8 (dg ds 1), .int .u8 (dg ds 2), .int .u8 (dg ds 3), .int .u8 (dg ds 4), .int .u8 (dg ds 5), .int .u8 (dg ds 6), .int .u8 (dg ds 7), .int .i64 l]
def ntZ : List Value := [.int .i8 0, .int .i64 0, .int .u8 0, .int .u8 0, .int .u8 0, .int .u8 0, .int .u8 0, .int .u8 0, .int .u8 0, .int .u8 0, .int .i64 0]
theorem ntC_len (k x : Int) (ds : List Int) (l : Int) : (ntC k x ds l).length = 11 := rfl
theorem ntZ_len : ntZ.length = 11 := rfl
theorem ntC_one (k x : Int) (ds : List Int) (l : Int) : ∀ v ∈ ntC k x ds l, v.oneCell' = true := by
  intro v hv
  simp only [ntC, List.mem_cons, List.not_mem_nil, or_false] at hv
  rcases hv with rfl | rfl | rfl | rfl | rfl | rfl | rfl | rfl | rfl | rfl | rfl <;> rfl
theorem ntZ_one : ∀ v ∈ ntZ, v.oneCell' = true := by
  intro v hv
  simp only [ntZ, List.mem_cons, List.not_mem_nil, or_false] at hv
  rcases hv with rfl | rfl | rfl | rfl | rfl | rfl | rfl | rfl | rfl | rfl | rfl <;> rfl
theorem Tryd.infoNote : (Tryd.prog.info? 87).map (·.size) = some 11 := by kernel_rfl
theorem Tryd.infoAct2 : (Tryd.prog.info? 37).map (·.size) = some 2 := by kernel_rfl
/-- the error of a code, as the program has it -/
def erV (c : Int) (a2 a3 : Addr) : Value := if c = 0 then .nilIface else if c = 2 then ES a2 else ES a3
set_option maxRecDepth 100000 in
set_option maxHeartbeats 4000000 in
theorem do_any (B n cap : Nat) (zs : List Int) (v pr : Int) (st : Bool) (tk : Int) (k x : Int) (w : World) (hS : Stk w B zs) (hn : n = zs.length) (hv : okL zs = true) (hok : okS (szL zs) (v, pr, st, tk)) (ha : okAct k x = true) (a0 a1 a2 a3 : Addr) (hSN : SN w a0 a1 a2 a3) :
    ∃ (T : TypeId) (V : Value) (f : FuncId), deedV k x = .iface T V ∧ (∀ w, (Go.method 300 T V "loop.example/g01278/impl.do").run Tryd.prog w = .ok (f, V) w) ∧ (∀ W args, Sem.run Tryd.prog (callFunc f args) W = .ok (.enter f args) W) ∧
      ∀ W, Stk W B zs → SN W a0 a1 a2 a3 → Calls Tryd.prog f #[V, .agg (dvC (.slice (some ⟨B, 0, none⟩) n cap) (dgL zs v) pr st tk).toArray] W fun e w' => (∃ D : List Value, e = .returned (.tuple #[.agg D.toArray, .int .i64 (actF (szL zs) (v, pr, st, tk) k x).2.2, erV (actF (szL zs) (v, pr, st, tk) k x).1 a2 a3]) ∧ D.length = 12 ∧ (∀ u ∈ D, u.oneCell' = true) ∧ ((actF (szL zs) (v, pr, st, tk) k x).1 = 0 → D = (dvC (.slice (some ⟨B, 0, none⟩) n cap) (dgL zs (actF (szL zs) (v, pr, st, tk) k x).2.1.1) (actF (szL zs) (v, pr, st, tk) k x).2.1.2.1 (actF (szL zs) (v, pr, st, tk) k x).2.1.2.2.1 (actF (szL zs) (v, pr, st, tk) k x).2.1.2.2.2))) ∧ Below W.heap.size W w' := by
  obtain ⟨⟨v0, v1⟩, ⟨p0, p1⟩, hst, t0, t1⟩ := hok
  have hok : okS (szL zs) (v, pr, st, tk) := ⟨⟨v0, v1⟩, ⟨p0, p1⟩, hst, t0, t1⟩
  simp only at v0 v1 p0 p1 hst t0 t1
  have hb := okAct_bd ha
  rcases okAct_kind ha with rfl | rfl | rfl | rfl | rfl
  · refine ⟨_, _, 131, rfl, fun w => by kernel_rfl, fun _ _ => rfl, fun W h hs => ?_⟩
    refine (pulses_any B n cap zs v pr st tk x 1 W h hn hv hok (.inl rfl) (by omega)).mono ?_
    rintro e w' ⟨rfl, hB⟩
    exact ⟨⟨_, rfl, rfl, dvC_one _ _ _ _ _ _ _, fun _ => rfl⟩, hB⟩
  · refine ⟨_, _, 131, rfl, fun w => by kernel_rfl, fun _ _ => rfl, fun W h hs => ?_⟩
    refine (pulses_any B n cap zs v pr st tk x (-1) W h hn hv hok (.inr rfl) (by omega)).mono ?_
    rintro e w' ⟨rfl, hB⟩
    exact ⟨⟨_, rfl, rfl, dvC_one _ _ _ _ _ _ _, fun _ => rfl⟩, hB⟩
  · refine ⟨_, _, 137, rfl, fun w => by kernel_rfl, fun _ _ => rfl, fun W h hs => ?_⟩
    by_cases hx : szL zs ≤ x
    · have e0 : actF (szL zs) (v, pr, st, tk) 3 x = (2, (v, pr, st, tk), 0) := by
        unfold actF
        rw [if_neg (by omega), if_neg (by omega), if_pos rfl, if_pos hx]
      rw [e0]
      refine (presetDo_no B n cap zs v pr st tk x W h hn hv ⟨v0, v1⟩ a0 a1 a2 a3 hs hx).mono ?_
      rintro e w' ⟨rfl, hB⟩
      exact ⟨⟨_, rfl, rfl, dvZ_one, fun h => by simp at h⟩, hB⟩
    · have e0 : actF (szL zs) (v, pr, st, tk) 3 x = (0, (v, x, decide (v = x), tk), 0) := by
        unfold actF
        rw [if_neg (by omega), if_neg (by omega), if_pos rfl, if_neg hx]
      rw [e0]
      refine (presetDo_ok B n cap zs v pr st tk x W h hn hv ⟨v0, v1⟩ a0 a1 a2 a3 hs (by omega)).mono ?_
      rintro e w' ⟨rfl, hB⟩
      exact ⟨⟨_, rfl, rfl, dvC_one _ _ _ _ _ _ _, fun _ => rfl⟩, hB⟩
  · refine ⟨_, _, 138, rfl, fun w => by kernel_rfl, fun _ _ => rfl, fun W h hs => ?_⟩
    have e0 : actF (szL zs) (v, pr, st, tk) 4 x = (0, (0, pr, decide (0 = pr), tk), 0) := by
      unfold actF
      rw [if_neg (by omega), if_neg (by omega), if_neg (by omega), if_pos rfl]
    rw [e0]
    refine (resetDo B n cap zs v pr st tk W h hn hv ⟨v0, v1⟩ a0 a1 a2 a3 hs).mono ?_
    rintro e w' ⟨rfl, hB⟩
    exact ⟨⟨_, rfl, rfl, dvC_one _ _ _ _ _ _ _, fun _ => rfl⟩, hB⟩
  · refine ⟨_, _, 139, rfl, fun w => by kernel_rfl, fun _ _ => rfl, fun W h hs => ?_⟩
    by_cases hx : 1000000 ≤ tk
    · have e0 : actF (szL zs) (v, pr, st, tk) 5 x = (4, (v, pr, st, tk), 0) := by
        unfold actF
        rw [if_neg (by omega), if_neg (by omega), if_neg (by omega), if_neg (by omega), if_pos hx]
      rw [e0]
      refine (printDo_no B n cap zs v pr st tk W h hn hv ⟨v0, v1⟩ a0 a1 a2 a3 hs (by omega)).mono ?_
      rintro e w' ⟨rfl, hB⟩
      exact ⟨⟨_, rfl, rfl, dvZ_one, fun h => by simp at h⟩, hB⟩
    · have e0 : actF (szL zs) (v, pr, st, tk) 5 x = (0, (v, pr, st, tk + 1), 0) := by
        unfold actF
        rw [if_neg (by omega), if_neg (by omega), if_neg (by omega), if_neg (by omega), if_neg hx]
      rw [e0]
      refine (printDo_ok B n cap zs v pr st tk W h hn hv ⟨v0, v1⟩ a0 a1 a2 a3 hs (by omega)).mono ?_
      rintro e w' ⟨rfl, hB⟩
      exact ⟨⟨_, rfl, rfl, dvC_one _ _ _ _ _ _ _, fun _ => rfl⟩, hB⟩
set_option maxRecDepth 100000 in
set_option maxHeartbeats 4000000 in
theorem journal_err (D : Nat) (B n cap : Nat) (zs : List Int) (v pr : Int) (st : Bool) (tk : Int) (k x : Int) (c l : Int) (S' : DS) (w : World) (hR : Row w D 33 (dvC (.slice (some ⟨B, 0, none⟩) n cap) (dgL zs v) pr st tk)) (hS : Stk w B zs) (hBD : B ≠ D) (hn : n = zs.length) (hv : okL zs = true) (hok : okS (szL zs) (v, pr, st, tk)) (ha : okAct k x = true) (a0 a1 a2 a3 : Addr) (hSN : SN w a0 a1 a2 a3) (hact : actF (szL zs) (v, pr, st, tk) k x = (c, S', l)) (hc : c ≠ 0) :
    Calls Tryd.prog 74 #[.agg #[.int .i8 k, .int .i64 x], .pointer (some ⟨D, 0, none⟩)] w fun e w' => e = .returned (.tuple #[.agg dvZ.toArray, .agg ntZ.toArray, erV c a2 a3]) ∧ Below w.heap.size w w' := by
  have hDl := hR.lt
  obtain ⟨TT, VV, ff, hdv, hmm, hcf, hcc⟩ := do_any B n cap zs v pr st tk k x w hS hn hv hok ha a0 a1 a2 a3 hSN
  rw [hact] at hcc
  have HDE := hid (fun W => deed_any k x ha W)
  rw [hdv] at HDE
  have HVA := hid (fun W => implValidAct_any k x W)
  rw [ha] at HVA
  have hID : (Tryd.prog.info? 33).map (·.size) = some 12 := Tryd.infoDev
  have hIN : (Tryd.prog.info? 87).map (·.size) = some 11 := Tryd.infoNote
  have hIA : (Tryd.prog.info? 37).map (·.size) = some 2 := Tryd.infoAct2
  simp only at hcc
  obtain ⟨ea, hea⟩ : ∃ a, erV c a2 a3 = .iface 161 (.pointer (some a)) := by
    unfold erV
    rw [if_neg hc]
    split
    · exact ⟨a2, rfl⟩
    · exact ⟨a3, rfl⟩
  rw [hea] at hcc ⊢
  have HCC := hid hcc
  obtain ⟨V, hV⟩ : ∃ V, V = ((w.alloc (.cells #[.int .i8 k, .int .i64 x] 37)).alloc (.cells #[.slice none 0 0, .int .u8 0, .int .u8 0, .int .u8 0, .int .u8 0, .int .u8 0, .int .u8 0, .int .u8 0, .int .u8 0, .int .i64 0, .bool false, .int .i64 0] 33)).alloc (.cells #[.int .i8 0, .int .i64 0, .int .u8 0, .int .u8 0, .int .u8 0, .int .u8 0, .int .u8 0, .int .u8 0, .int .u8 0, .int .u8 0, .int .i64 0] 87) := ⟨_, rfl⟩
  have bV : Below w.heap.size w V := by rw [hV]; exact (((Below.refl _ _).alloc (Nat.le_refl _) _).alloc (by simp) _).alloc (by simp; omega) _
  have sV : V.heap.size = w.heap.size + 1 + 1 + 1 := by rw [hV]; simp
  have rA : Row V w.heap.size 37 [.int .i8 k, .int .i64 x] := by rw [hV]; exact ((Row.new w _ _).alloc _).alloc _
  have rR : Row V (w.heap.size + 1) 33 dvZ := by
    have h := (Row.new (w.alloc (.cells #[.int .i8 k, .int .i64 x] 37)) 33 dvZ).alloc (.cells #[.int .i8 0, .int .i64 0, .int .u8 0, .int .u8 0, .int .u8 0, .int .u8 0, .int .u8 0, .int .u8 0, .int .u8 0, .int .u8 0, .int .i64 0] 87)
    simp only [World.size_alloc] at h
    rw [hV]; exact h
  have rN : Row V (w.heap.size + 1 + 1) 87 ntZ := by
    have h := Row.new ((w.alloc (.cells #[.int .i8 k, .int .i64 x] 37)).alloc (.cells #[.slice none 0 0, .int .u8 0, .int .u8 0, .int .u8 0, .int .u8 0, .int .u8 0, .int .u8 0, .int .u8 0, .int .u8 0, .int .i64 0, .bool false, .int .i64 0] 33)) 87 ntZ
    simp only [World.size_alloc] at h
    rw [hV]; exact h
  have rD := hR.below bV hDl
  have sS := hS.below bV hS.1
  have sN := hSN.below bV trivial
  have q0 := rA.cell 0; have q1 := rA.cell 1
  simp only [List.getElem?_cons_zero, List.getElem?_cons_succ] at q0 q1
  rw [hV] at q0 q1
  have HV := hid hV; have HBW := hid bV; have HSV := hid sV
  have HRR := hid rR; have HRN := hid rN; have HRA := hid rA; have HRD := hid rD; have HSS := hid sS; have HSN := hid sN
  clear hR hS hn hv hok ha hSN hcc hdv hact hV rA rR rN rD sS sN bV sV
  go_enter Tryd.func74, Tryd.ntmps74
  go_wp2_with fail
  rw [← HV.out]
  refine (HVA.out _).mono ?_
  rintro e w1 ⟨rfl, hB1⟩
  have bW1 := HBW.out.trans (hB1.mono HBW.out.size)
  have rA := HRA.out.below hB1 HRA.out.lt; have rR := HRR.out.below hB1 HRR.out.lt; have rN := HRN.out.below hB1 HRN.out.lt; have rD := HRD.out.below hB1 HRD.out.lt
  have sS := HSS.out.below hB1 HSS.out.1; have sN := HSN.out.below hB1 trivial
  clear q0 q1 hB1
  go_wp2_with fail
  refine wp_region_held (S := fun W' : World => Row W' w.heap.size 37 [.int .i8 k, .int .i64 x] ∧ Row W' D 33 (dvC (.slice (some ⟨B, 0, none⟩) n cap) (dgL zs v) pr st tk)) (by kernel_rfl) ?_
  change wpAnyH _ _ _ _ _ _ _ _ (World.drew _)
  obtain ⟨W0, hW0⟩ : ∃ X, X = World.drew (w1) := ⟨_, rfl⟩
  have hD0 : Below (w1).heap.size (w1) W0 := by rw [hW0]; exact (Below.refl _ _).drew
  replace rA := rA.below hD0 rA.lt
  replace rR := rR.below hD0 rR.lt
  replace rN := rN.below hD0 rN.lt
  replace rD := rD.below hD0 rD.lt
  replace sS := sS.below hD0 sS.1
  replace sN := sN.below hD0 sN.1
  have bW0 := bW1.trans (hD0.mono bW1.size)
  have bR : Below W0.heap.size W0 W0 := Below.refl _ _
  rw [← hW0]
  clear hW0 hD0
  have l_rA := rA.lt
  have l_rR := rR.lt
  have l_rN := rN.lt
  have l_rD := rD.lt
  have l_sS := sS.1
  have l_sN := sN.1
  have hS0 : (fun W' : World => Row W' w.heap.size 37 [.int .i8 k, .int .i64 x] ∧ Row W' D 33 (dvC (.slice (some ⟨B, 0, none⟩) n cap) (dgL zs v) pr st tk)) W0 := ⟨rA, rD⟩
  refine wpAnyH_takeD (some 16) (i := 0) (v := ?_) rfl rfl (by kernel_rfl) (by kernel_rfl) (by kernel_rfl) (fun _ _ _ h => h) (.inl ⟨by kernel_rfl, ?_⟩) hS0 ?_
  rotate_left
  · intro w' hw'; have hrow0 := hw'.1; have e0x0 := Row.cell hrow0 0; have e0x1 := Row.cell hrow0 1; simp only [List.getElem?_cons_zero, List.getElem?_cons_succ] at e0x0 e0x1; clear hrow0; have e1 := hw'.2; clear hw'; go_simp; try with_reducible rfl
  try simp only [Act.put, List.setIfInBounds_toArray, List.set_cons_zero, List.set_cons_succ]
  refine wpAnyH_takeD (some 18) (i := 2) (v := .agg ((dvC (.slice (some ⟨B, 0, none⟩) n cap) (dgL zs v) pr st tk)).toArray) rfl rfl (by kernel_rfl) (by kernel_rfl) (by kernel_rfl) (fun _ _ _ h => h) (.inl ⟨by kernel_rfl, ?_⟩) hS0 ?_
  · intro w' hw'; exact exec_load_row 33 _ rfl D rfl 33 ((dvC (.slice (some ⟨B, 0, none⟩) n cap) (dgL zs v) pr st tk)).toArray _ (hw'.2) Tryd.underlying33 rfl hID
  try simp only [Act.put, List.setIfInBounds_toArray, List.set_cons_zero, List.set_cons_succ]
  refine wpAnyH_all (rs := [1, 8]) (by kernel_rfl) (by simp) ?_
  intro i hi; simp only [List.mem_cons, List.not_mem_nil, or_false] at hi
  rcases hi with rfl | rfl
  · refine wpOp_step rfl (fun K hK => ?_)
    go_simp
    with_reducible refine (HDE.out W0).mono ?_
    rintro e v1 ⟨rfl, hB1⟩
    replace rA := rA.below hB1 rA.lt
    replace rR := rR.below hB1 rR.lt
    replace rN := rN.below hB1 rN.lt
    replace rD := rD.below hB1 rD.lt
    replace sS := sS.below hB1 sS.1
    replace sN := sN.below hB1 sN.1
    replace bR := bR.trans (hB1.mono bR.size)
    have hS1 : (fun W' : World => Row W' w.heap.size 37 [.int .i8 k, .int .i64 x] ∧ Row W' D 33 (dvC (.slice (some ⟨B, 0, none⟩) n cap) (dgL zs v) pr st tk)) v1 := ⟨rA, rD⟩
    refine hK _ _ ⟨hS1, ?_⟩
    try simp only [Act.put, List.setIfInBounds_toArray, List.set_cons_zero, List.set_cons_succ]
    clear hB1 hK K hS0
    refine wpAnyH_all (rs := [3, 8]) (by kernel_rfl) (by simp) ?_
    intro i hi; simp only [List.mem_cons, List.not_mem_nil, or_false] at hi
    rcases hi with rfl | rfl
    · refine wpOp_step rfl (fun K hK => ?_)
      go_simp
      with_reducible refine (HCC.out v1 sS sN).mono ?_
      rintro e v2 ⟨⟨DL, rfl, hDL, hD1, hD0⟩, hB2⟩
      replace rA := rA.below hB2 rA.lt
      replace rR := rR.below hB2 rR.lt
      replace rN := rN.below hB2 rN.lt
      replace rD := rD.below hB2 rD.lt
      replace sS := sS.below hB2 sS.1
      replace sN := sN.below hB2 sN.1
      replace bR := bR.trans (hB2.mono bR.size)
      have hS2 : (fun W' : World => Row W' w.heap.size 37 [.int .i8 k, .int .i64 x] ∧ Row W' D 33 (dvC (.slice (some ⟨B, 0, none⟩) n cap) (dgL zs v) pr st tk)) v2 := ⟨rA, rD⟩
      refine hK _ _ ⟨hS2, ?_⟩
      try simp only [Act.put, List.setIfInBounds_toArray, List.set_cons_zero, List.set_cons_succ]
      clear hB2 hK K hS1
      refine wpAnyH_takeD (some 15) (i := 4) (v := ?_) rfl rfl (by kernel_rfl) (by kernel_rfl) (by kernel_rfl) (fun _ _ _ h => h) (.inl ⟨by kernel_rfl, ?_⟩) hS2 ?_
      rotate_left
      · intro w' hw'; go_simp; try with_reducible rfl
      try simp only [Act.put, List.setIfInBounds_toArray, List.set_cons_zero, List.set_cons_succ]
      refine wpAnyH_takeD (some 20) (i := 5) (v := ?_) rfl rfl (by kernel_rfl) (by kernel_rfl) (by kernel_rfl) (fun _ _ _ h => h) (.inl ⟨by kernel_rfl, ?_⟩) hS2 ?_
      rotate_left
      · intro w' hw'; go_simp; try with_reducible rfl
      try simp only [Act.put, List.setIfInBounds_toArray, List.set_cons_zero, List.set_cons_succ]
      refine wpAnyH_takeD (some 21) (i := 6) (v := ?_) rfl rfl (by kernel_rfl) (by kernel_rfl) (by kernel_rfl) (fun _ _ _ h => h) (.inl ⟨by kernel_rfl, ?_⟩) hS2 ?_
      rotate_left
      · intro w' hw'; go_simp; try with_reducible rfl
      try simp only [Act.put, List.setIfInBounds_toArray, List.set_cons_zero, List.set_cons_succ]
      refine wpAnyH_takeD (some 22) (i := 7) (v := ?_) rfl rfl (by kernel_rfl) (by kernel_rfl) (by kernel_rfl) (fun _ _ _ h => h) (.inl ⟨by kernel_rfl, ?_⟩) hS2 ?_
      rotate_left
      · intro w' hw'; go_simp; try with_reducible rfl
      try simp only [Act.put, List.setIfInBounds_toArray, List.set_cons_zero, List.set_cons_succ]
      refine wpAnyH_all (rs := [8]) (by kernel_rfl) (by simp) ?_
      intro i hi; simp only [List.mem_cons, List.not_mem_nil, or_false] at hi
      subst hi
      refine wpOp_step rfl (fun K hK => ?_)
      go_simp
      have r6 := Row.new v2 33 [.slice none 0 0, .int .u8 0, .int .u8 0, .int .u8 0, .int .u8 0, .int .u8 0, .int .u8 0, .int .u8 0, .int .u8 0, .int .i64 0, .bool false, .int .i64 0]
      have hA : Below v2.heap.size v2 (v2.alloc (.cells #[.slice none 0 0, .int .u8 0, .int .u8 0, .int .u8 0, .int .u8 0, .int .u8 0, .int .u8 0, .int .u8 0, .int .u8 0, .int .i64 0, .bool false, .int .i64 0] 33)) := (Below.refl _ _).alloc (Nat.le_refl _) _
      replace rA := rA.below hA rA.lt
      replace rR := rR.below hA rR.lt
      replace rN := rN.below hA rN.lt
      replace rD := rD.below hA rD.lt
      replace sS := sS.below hA sS.1
      replace sN := sN.below hA sN.1
      have l_r6 := bR.size
      replace bR := bR.trans (hA.mono bR.size)
      have hS3 : (fun W' : World => Row W' w.heap.size 37 [.int .i8 k, .int .i64 x] ∧ Row W' D 33 (dvC (.slice (some ⟨B, 0, none⟩) n cap) (dgL zs v) pr st tk)) (v2.alloc (.cells #[.slice none 0 0, .int .u8 0, .int .u8 0, .int .u8 0, .int .u8 0, .int .u8 0, .int .u8 0, .int .u8 0, .int .u8 0, .int .i64 0, .bool false, .int .i64 0] 33)) := ⟨rA, rD⟩
      refine hK _ _ ⟨hS3, ?_⟩
      try simp only [Act.put, List.setIfInBounds_toArray, List.set_cons_zero, List.set_cons_succ]
      obtain ⟨X3, hX3⟩ : ∃ X, X = v2.alloc (.cells #[.slice none 0 0, .int .u8 0, .int .u8 0, .int .u8 0, .int .u8 0, .int .u8 0, .int .u8 0, .int .u8 0, .int .u8 0, .int .i64 0, .bool false, .int .i64 0] 33) := ⟨_, rfl⟩
      obtain ⟨g_r6, hg_r6⟩ : ∃ y, (World.heap v2).size = y := ⟨_, rfl⟩
      rw [← hX3] at rA rR rN rD sS sN r6 bR hS3 ⊢
      rw [hg_r6] at r6 l_r6 ⊢
      have Hg_r6 := hid hg_r6
      clear hX3 hA hK K hg_r6 hS2
      refine wpAnyH_all (rs := [9]) (by kernel_rfl) (by simp) ?_
      intro i hi; simp only [List.mem_cons, List.not_mem_nil, or_false] at hi
      subst hi
      refine wpOp_step rfl (fun K hK => ?_)
      rw [if_pos (by kernel_rfl)]
      refine wp_store_mid 33 (.tmp 6) (.tmp 20) rfl (g_r6) 0 (DL : List Value).toArray rfl rfl (by rw [List.size_toArray, hDL]; exact r6.thereO 0 12 (by rw [show ([.slice none 0 0, .int .u8 0, .int .u8 0, .int .u8 0, .int .u8 0, .int .u8 0, .int .u8 0, .int .u8 0, .int .u8 0, .int .i64 0, .bool false, .int .i64 0] : List Value).length = 12 from rfl]; omega)) (by rw [List.size_toArray, hDL]; exact hID) (all_oneCell_toArray hD1) ?_
      obtain ⟨X4, hX4⟩ : ∃ X, X = World.setCells X3 (g_r6) 0 (DL : List Value) := ⟨_, rfl⟩
      have n6 : Row X4 g_r6 33 DL := by rw [hX4]; exact r6.setAll (by rw [hDL]; rfl)
      have lg6 : (w.heap.size + 1 + 1) < g_r6 := by have := bW0.size; have := HSV.out; have := Hg_r6.out; have := l_r6; have := l_rN; omega
      replace rA : Row X4 w.heap.size 37 [.int .i8 k, .int .i64 x] := by rw [hX4]; exact rA.setCellsO (by omega) _ _
      replace rR : Row X4 (w.heap.size + 1) 33 dvZ := by rw [hX4]; exact rR.setCellsO (by omega) _ _
      replace rN : Row X4 (w.heap.size + 1 + 1) 87 ntZ := by rw [hX4]; exact rN.setCellsO (by omega) _ _
      replace rD : Row X4 D 33 (dvC (.slice (some ⟨B, 0, none⟩) n cap) (dgL zs v) pr st tk) := by rw [hX4]; exact rD.setCellsO (by omega) _ _
      have nB : Below w.heap.size w X4 := by rw [hX4]; exact below_setCellsD _ _ _ (bW0.trans (bR.mono bW0.size)) (by omega)
      have hS4 : (fun W' : World => Row W' w.heap.size 37 [.int .i8 k, .int .i64 x] ∧ Row W' D 33 (dvC (.slice (some ⟨B, 0, none⟩) n cap) (dgL zs v) pr st tk)) X4 := ⟨rA, rD⟩
      have hXX4 : World.setCells X3 (g_r6) 0 (DL : List Value).toArray.toList = X4 := hX4.symm
      rw [hXX4]
      refine hK _ _ ⟨hS4, ?_⟩
      try simp only [Act.put, List.setIfInBounds_toArray, List.set_cons_zero, List.set_cons_succ]
      clear hX4 hXX4 hK K hS3
      refine wpAnyH_takeD (some 7) (i := 10) (v := ?_) rfl rfl (by kernel_rfl) (by kernel_rfl) (by kernel_rfl) (fun _ _ _ h => h) (.inl ⟨by kernel_rfl, ?_⟩) hS4 ?_
      rotate_left
      · intro w' hw'; go_simp; try with_reducible rfl
      try simp only [Act.put, List.setIfInBounds_toArray, List.set_cons_zero, List.set_cons_succ]
      refine wpAnyH_takeD (some 8) (i := 11) (v := ?_) rfl rfl (by kernel_rfl) (by kernel_rfl) (by kernel_rfl) (fun _ _ _ h => h) (.inl ⟨by kernel_rfl, ?_⟩) hS4 ?_
      rotate_left
      · intro w' hw'; go_simp; try with_reducible rfl
      try simp only [Act.put, List.setIfInBounds_toArray, List.set_cons_zero, List.set_cons_succ]
      refine wpAnyH_done (by kernel_rfl) ?_ _
      clear bR bW0 sS sN r6
      have T3 := rR.thereO 0 12 (by rw [dvZ_len]; omega)
      have T4 := rN.thereO 0 11 (by rw [ntZ_len]; omega)
      have T4' : ∀ ys : List Value, (World.setCells X4 (w.heap.size + 1) 0 ys).there (w.heap.size + 1 + 1) 0 11 := fun ys => (rN.setCellsO (by omega) ys 0).thereO 0 11 (by rw [ntZ_len]; omega)
      go_wp2_with (first | ((with_reducible refine wpList_store_mid rfl 33 _ _ rfl (w.heap.size + 1) 0 dvZ.toArray ?_ ?_ ?_ ?_ dvZ_oneT ?_); rfl; rfl; exact T3; exact hID) | ((with_reducible refine wpList_store_mid rfl 87 _ _ rfl (w.heap.size + 1 + 1) 0 ntZ.toArray ?_ ?_ ?_ ?_ (all_oneCell_toArray ntZ_one) ?_); rfl; rfl; exact T4' _; exact hIN))
      have u3 := (rR.setAll (ys := dvZ) rfl).setCellsO (g := (w.heap.size + 1 + 1)) (by omega) ntZ 0
      have u4 := (rN.setCellsO (g := (w.heap.size + 1)) (by omega) dvZ 0).setAll (ys := ntZ) rfl
      exact bodyPost_ret (v := .tuple #[.agg dvZ.toArray, .agg ntZ.toArray, .iface 161 (.pointer (some ea))]) (results_ccs (p := 3) (q := 4) (r := 5) (fn := Tryd.f74) rfl _ _ _ _ _ _ _ _ _ _ _ rfl rfl rfl u3 u4 Tryd.underlying33 rfl hID Tryd.underlying87 rfl hIN) rfl ⟨rfl, below_setCellsD _ _ _ (below_setCellsD _ _ _ nB (by omega)) (by omega)⟩
    · refine wpOp_step rfl (fun K hK => ?_)
      go_simp
      have r6 := Row.new v1 33 [.slice none 0 0, .int .u8 0, .int .u8 0, .int .u8 0, .int .u8 0, .int .u8 0, .int .u8 0, .int .u8 0, .int .u8 0, .int .i64 0, .bool false, .int .i64 0]
      have hA : Below v1.heap.size v1 (v1.alloc (.cells #[.slice none 0 0, .int .u8 0, .int .u8 0, .int .u8 0, .int .u8 0, .int .u8 0, .int .u8 0, .int .u8 0, .int .u8 0, .int .i64 0, .bool false, .int .i64 0] 33)) := (Below.refl _ _).alloc (Nat.le_refl _) _
      replace rA := rA.below hA rA.lt
      replace rR := rR.below hA rR.lt
      replace rN := rN.below hA rN.lt
      replace rD := rD.below hA rD.lt
      replace sS := sS.below hA sS.1
      replace sN := sN.below hA sN.1
      have l_r6 := bR.size
      replace bR := bR.trans (hA.mono bR.size)
      have hS5 : (fun W' : World => Row W' w.heap.size 37 [.int .i8 k, .int .i64 x] ∧ Row W' D 33 (dvC (.slice (some ⟨B, 0, none⟩) n cap) (dgL zs v) pr st tk)) (v1.alloc (.cells #[.slice none 0 0, .int .u8 0, .int .u8 0, .int .u8 0, .int .u8 0, .int .u8 0, .int .u8 0, .int .u8 0, .int .u8 0, .int .i64 0, .bool false, .int .i64 0] 33)) := ⟨rA, rD⟩
      refine hK _ _ ⟨hS5, ?_⟩
      try simp only [Act.put, List.setIfInBounds_toArray, List.set_cons_zero, List.set_cons_succ]
      obtain ⟨X5, hX5⟩ : ∃ X, X = v1.alloc (.cells #[.slice none 0 0, .int .u8 0, .int .u8 0, .int .u8 0, .int .u8 0, .int .u8 0, .int .u8 0, .int .u8 0, .int .u8 0, .int .i64 0, .bool false, .int .i64 0] 33) := ⟨_, rfl⟩
      obtain ⟨g_r6, hg_r6⟩ : ∃ y, (World.heap v1).size = y := ⟨_, rfl⟩
      rw [← hX5] at rA rR rN rD sS sN r6 bR hS5 ⊢
      rw [hg_r6] at r6 l_r6 ⊢
      have Hg_r6 := hid hg_r6
      clear hX5 hA hK K hg_r6 hS1
      refine wpAnyH_all (rs := [3]) (by kernel_rfl) (by simp) ?_
      intro i hi; simp only [List.mem_cons, List.not_mem_nil, or_false] at hi
      subst hi
      refine wpOp_step rfl (fun K hK => ?_)
      go_simp
      with_reducible refine (HCC.out X5 sS sN).mono ?_
      rintro e v6 ⟨⟨DL, rfl, hDL, hD1, hD0⟩, hB6⟩
      replace rA := rA.below hB6 rA.lt
      replace rR := rR.below hB6 rR.lt
      replace rN := rN.below hB6 rN.lt
      replace rD := rD.below hB6 rD.lt
      replace sS := sS.below hB6 sS.1
      replace sN := sN.below hB6 sN.1
      replace r6 := r6.below hB6 r6.lt
      replace bR := bR.trans (hB6.mono bR.size)
      have hS6 : (fun W' : World => Row W' w.heap.size 37 [.int .i8 k, .int .i64 x] ∧ Row W' D 33 (dvC (.slice (some ⟨B, 0, none⟩) n cap) (dgL zs v) pr st tk)) v6 := ⟨rA, rD⟩
      refine hK _ _ ⟨hS6, ?_⟩
      try simp only [Act.put, List.setIfInBounds_toArray, List.set_cons_zero, List.set_cons_succ]
      clear hB6 hK K hS5
      refine wpAnyH_takeD (some 15) (i := 4) (v := ?_) rfl rfl (by kernel_rfl) (by kernel_rfl) (by kernel_rfl) (fun _ _ _ h => h) (.inl ⟨by kernel_rfl, ?_⟩) hS6 ?_
      rotate_left
      · intro w' hw'; go_simp; try with_reducible rfl
      try simp only [Act.put, List.setIfInBounds_toArray, List.set_cons_zero, List.set_cons_succ]
      refine wpAnyH_takeD (some 20) (i := 5) (v := ?_) rfl rfl (by kernel_rfl) (by kernel_rfl) (by kernel_rfl) (fun _ _ _ h => h) (.inl ⟨by kernel_rfl, ?_⟩) hS6 ?_
      rotate_left
      · intro w' hw'; go_simp; try with_reducible rfl
      try simp only [Act.put, List.setIfInBounds_toArray, List.set_cons_zero, List.set_cons_succ]
      refine wpAnyH_takeD (some 21) (i := 6) (v := ?_) rfl rfl (by kernel_rfl) (by kernel_rfl) (by kernel_rfl) (fun _ _ _ h => h) (.inl ⟨by kernel_rfl, ?_⟩) hS6 ?_
      rotate_left
      · intro w' hw'; go_simp; try with_reducible rfl
      try simp only [Act.put, List.setIfInBounds_toArray, List.set_cons_zero, List.set_cons_succ]
      refine wpAnyH_takeD (some 22) (i := 7) (v := ?_) rfl rfl (by kernel_rfl) (by kernel_rfl) (by kernel_rfl) (fun _ _ _ h => h) (.inl ⟨by kernel_rfl, ?_⟩) hS6 ?_
      rotate_left
      · intro w' hw'; go_simp; try with_reducible rfl
      try simp only [Act.put, List.setIfInBounds_toArray, List.set_cons_zero, List.set_cons_succ]
      refine wpAnyH_all (rs := [9]) (by kernel_rfl) (by simp) ?_
      intro i hi; simp only [List.mem_cons, List.not_mem_nil, or_false] at hi
      subst hi
      refine wpOp_step rfl (fun K hK => ?_)
      rw [if_pos (by kernel_rfl)]
      refine wp_store_mid 33 (.tmp 6) (.tmp 20) rfl (g_r6) 0 (DL : List Value).toArray rfl rfl (by rw [List.size_toArray, hDL]; exact r6.thereO 0 12 (by rw [show ([.slice none 0 0, .int .u8 0, .int .u8 0, .int .u8 0, .int .u8 0, .int .u8 0, .int .u8 0, .int .u8 0, .int .u8 0, .int .i64 0, .bool false, .int .i64 0] : List Value).length = 12 from rfl]; omega)) (by rw [List.size_toArray, hDL]; exact hID) (all_oneCell_toArray hD1) ?_
      obtain ⟨X7, hX7⟩ : ∃ X, X = World.setCells v6 (g_r6) 0 (DL : List Value) := ⟨_, rfl⟩
      have n6 : Row X7 g_r6 33 DL := by rw [hX7]; exact r6.setAll (by rw [hDL]; rfl)
      have lg6 : (w.heap.size + 1 + 1) < g_r6 := by have := bW0.size; have := HSV.out; have := Hg_r6.out; have := l_r6; have := l_rN; omega
      replace rA : Row X7 w.heap.size 37 [.int .i8 k, .int .i64 x] := by rw [hX7]; exact rA.setCellsO (by omega) _ _
      replace rR : Row X7 (w.heap.size + 1) 33 dvZ := by rw [hX7]; exact rR.setCellsO (by omega) _ _
      replace rN : Row X7 (w.heap.size + 1 + 1) 87 ntZ := by rw [hX7]; exact rN.setCellsO (by omega) _ _
      replace rD : Row X7 D 33 (dvC (.slice (some ⟨B, 0, none⟩) n cap) (dgL zs v) pr st tk) := by rw [hX7]; exact rD.setCellsO (by omega) _ _
      have nB : Below w.heap.size w X7 := by rw [hX7]; exact below_setCellsD _ _ _ (bW0.trans (bR.mono bW0.size)) (by omega)
      have hS7 : (fun W' : World => Row W' w.heap.size 37 [.int .i8 k, .int .i64 x] ∧ Row W' D 33 (dvC (.slice (some ⟨B, 0, none⟩) n cap) (dgL zs v) pr st tk)) X7 := ⟨rA, rD⟩
      have hXX7 : World.setCells v6 (g_r6) 0 (DL : List Value).toArray.toList = X7 := hX7.symm
      rw [hXX7]
      refine hK _ _ ⟨hS7, ?_⟩
      try simp only [Act.put, List.setIfInBounds_toArray, List.set_cons_zero, List.set_cons_succ]
      clear hX7 hXX7 hK K hS6
      refine wpAnyH_takeD (some 7) (i := 10) (v := ?_) rfl rfl (by kernel_rfl) (by kernel_rfl) (by kernel_rfl) (fun _ _ _ h => h) (.inl ⟨by kernel_rfl, ?_⟩) hS7 ?_
      rotate_left
      · intro w' hw'; go_simp; try with_reducible rfl
      try simp only [Act.put, List.setIfInBounds_toArray, List.set_cons_zero, List.set_cons_succ]
      refine wpAnyH_takeD (some 8) (i := 11) (v := ?_) rfl rfl (by kernel_rfl) (by kernel_rfl) (by kernel_rfl) (fun _ _ _ h => h) (.inl ⟨by kernel_rfl, ?_⟩) hS7 ?_
      rotate_left
      · intro w' hw'; go_simp; try with_reducible rfl
      try simp only [Act.put, List.setIfInBounds_toArray, List.set_cons_zero, List.set_cons_succ]
      refine wpAnyH_done (by kernel_rfl) ?_ _
      clear bR bW0 sS sN r6
      have T3 := rR.thereO 0 12 (by rw [dvZ_len]; omega)
      have T4 := rN.thereO 0 11 (by rw [ntZ_len]; omega)
      have T4' : ∀ ys : List Value, (World.setCells X7 (w.heap.size + 1) 0 ys).there (w.heap.size + 1 + 1) 0 11 := fun ys => (rN.setCellsO (by omega) ys 0).thereO 0 11 (by rw [ntZ_len]; omega)
      go_wp2_with (first | ((with_reducible refine wpList_store_mid rfl 33 _ _ rfl (w.heap.size + 1) 0 dvZ.toArray ?_ ?_ ?_ ?_ dvZ_oneT ?_); rfl; rfl; exact T3; exact hID) | ((with_reducible refine wpList_store_mid rfl 87 _ _ rfl (w.heap.size + 1 + 1) 0 ntZ.toArray ?_ ?_ ?_ ?_ (all_oneCell_toArray ntZ_one) ?_); rfl; rfl; exact T4' _; exact hIN))
      have u3 := (rR.setAll (ys := dvZ) rfl).setCellsO (g := (w.heap.size + 1 + 1)) (by omega) ntZ 0
      have u4 := (rN.setCellsO (g := (w.heap.size + 1)) (by omega) dvZ 0).setAll (ys := ntZ) rfl
      exact bodyPost_ret (v := .tuple #[.agg dvZ.toArray, .agg ntZ.toArray, .iface 161 (.pointer (some ea))]) (results_ccs (p := 3) (q := 4) (r := 5) (fn := Tryd.f74) rfl _ _ _ _ _ _ _ _ _ _ _ rfl rfl rfl u3 u4 Tryd.underlying33 rfl hID Tryd.underlying87 rfl hIN) rfl ⟨rfl, below_setCellsD _ _ _ (below_setCellsD _ _ _ nB (by omega)) (by omega)⟩
  · refine wpOp_step rfl (fun K hK => ?_)
    go_simp
    have r6 := Row.new W0 33 [.slice none 0 0, .int .u8 0, .int .u8 0, .int .u8 0, .int .u8 0, .int .u8 0, .int .u8 0, .int .u8 0, .int .u8 0, .int .i64 0, .bool false, .int .i64 0]
    have hA : Below W0.heap.size W0 (W0.alloc (.cells #[.slice none 0 0, .int .u8 0, .int .u8 0, .int .u8 0, .int .u8 0, .int .u8 0, .int .u8 0, .int .u8 0, .int .u8 0, .int .i64 0, .bool false, .int .i64 0] 33)) := (Below.refl _ _).alloc (Nat.le_refl _) _
    replace rA := rA.below hA rA.lt
    replace rR := rR.below hA rR.lt
    replace rN := rN.below hA rN.lt
    replace rD := rD.below hA rD.lt
    replace sS := sS.below hA sS.1
    replace sN := sN.below hA sN.1
    have l_r6 := bR.size
    replace bR := bR.trans (hA.mono bR.size)
    have hS8 : (fun W' : World => Row W' w.heap.size 37 [.int .i8 k, .int .i64 x] ∧ Row W' D 33 (dvC (.slice (some ⟨B, 0, none⟩) n cap) (dgL zs v) pr st tk)) (W0.alloc (.cells #[.slice none 0 0, .int .u8 0, .int .u8 0, .int .u8 0, .int .u8 0, .int .u8 0, .int .u8 0, .int .u8 0, .int .u8 0, .int .i64 0, .bool false, .int .i64 0] 33)) := ⟨rA, rD⟩
    refine hK _ _ ⟨hS8, ?_⟩
    try simp only [Act.put, List.setIfInBounds_toArray, List.set_cons_zero, List.set_cons_succ]
    obtain ⟨X8, hX8⟩ : ∃ X, X = W0.alloc (.cells #[.slice none 0 0, .int .u8 0, .int .u8 0, .int .u8 0, .int .u8 0, .int .u8 0, .int .u8 0, .int .u8 0, .int .u8 0, .int .i64 0, .bool false, .int .i64 0] 33) := ⟨_, rfl⟩
    obtain ⟨g_r6, hg_r6⟩ : ∃ y, (World.heap W0).size = y := ⟨_, rfl⟩
    rw [← hX8] at rA rR rN rD sS sN r6 bR hS8 ⊢
    rw [hg_r6] at r6 l_r6 ⊢
    have Hg_r6 := hid hg_r6
    clear hX8 hA hK K hg_r6 hS0
    refine wpAnyH_all (rs := [1]) (by kernel_rfl) (by simp) ?_
    intro i hi; simp only [List.mem_cons, List.not_mem_nil, or_false] at hi
    subst hi
    refine wpOp_step rfl (fun K hK => ?_)
    go_simp
    with_reducible refine (HDE.out X8).mono ?_
    rintro e v9 ⟨rfl, hB9⟩
    replace rA := rA.below hB9 rA.lt
    replace rR := rR.below hB9 rR.lt
    replace rN := rN.below hB9 rN.lt
    replace rD := rD.below hB9 rD.lt
    replace sS := sS.below hB9 sS.1
    replace sN := sN.below hB9 sN.1
    replace r6 := r6.below hB9 r6.lt
    replace bR := bR.trans (hB9.mono bR.size)
    have hS9 : (fun W' : World => Row W' w.heap.size 37 [.int .i8 k, .int .i64 x] ∧ Row W' D 33 (dvC (.slice (some ⟨B, 0, none⟩) n cap) (dgL zs v) pr st tk)) v9 := ⟨rA, rD⟩
    refine hK _ _ ⟨hS9, ?_⟩
    try simp only [Act.put, List.setIfInBounds_toArray, List.set_cons_zero, List.set_cons_succ]
    clear hB9 hK K hS8
    refine wpAnyH_all (rs := [3]) (by kernel_rfl) (by simp) ?_
    intro i hi; simp only [List.mem_cons, List.not_mem_nil, or_false] at hi
    subst hi
    refine wpOp_step rfl (fun K hK => ?_)
    go_simp
    with_reducible refine (HCC.out v9 sS sN).mono ?_
    rintro e v10 ⟨⟨DL, rfl, hDL, hD1, hD0⟩, hB10⟩
    replace rA := rA.below hB10 rA.lt
    replace rR := rR.below hB10 rR.lt
    replace rN := rN.below hB10 rN.lt
    replace rD := rD.below hB10 rD.lt
    replace sS := sS.below hB10 sS.1
    replace sN := sN.below hB10 sN.1
    replace r6 := r6.below hB10 r6.lt
    replace bR := bR.trans (hB10.mono bR.size)
    have hS10 : (fun W' : World => Row W' w.heap.size 37 [.int .i8 k, .int .i64 x] ∧ Row W' D 33 (dvC (.slice (some ⟨B, 0, none⟩) n cap) (dgL zs v) pr st tk)) v10 := ⟨rA, rD⟩
    refine hK _ _ ⟨hS10, ?_⟩
    try simp only [Act.put, List.setIfInBounds_toArray, List.set_cons_zero, List.set_cons_succ]
    clear hB10 hK K hS9
    refine wpAnyH_takeD (some 15) (i := 4) (v := ?_) rfl rfl (by kernel_rfl) (by kernel_rfl) (by kernel_rfl) (fun _ _ _ h => h) (.inl ⟨by kernel_rfl, ?_⟩) hS10 ?_
    rotate_left
    · intro w' hw'; go_simp; try with_reducible rfl
    try simp only [Act.put, List.setIfInBounds_toArray, List.set_cons_zero, List.set_cons_succ]
    refine wpAnyH_takeD (some 20) (i := 5) (v := ?_) rfl rfl (by kernel_rfl) (by kernel_rfl) (by kernel_rfl) (fun _ _ _ h => h) (.inl ⟨by kernel_rfl, ?_⟩) hS10 ?_
    rotate_left
    · intro w' hw'; go_simp; try with_reducible rfl
    try simp only [Act.put, List.setIfInBounds_toArray, List.set_cons_zero, List.set_cons_succ]
    refine wpAnyH_takeD (some 21) (i := 6) (v := ?_) rfl rfl (by kernel_rfl) (by kernel_rfl) (by kernel_rfl) (fun _ _ _ h => h) (.inl ⟨by kernel_rfl, ?_⟩) hS10 ?_
    rotate_left
    · intro w' hw'; go_simp; try with_reducible rfl
    try simp only [Act.put, List.setIfInBounds_toArray, List.set_cons_zero, List.set_cons_succ]
    refine wpAnyH_takeD (some 22) (i := 7) (v := ?_) rfl rfl (by kernel_rfl) (by kernel_rfl) (by kernel_rfl) (fun _ _ _ h => h) (.inl ⟨by kernel_rfl, ?_⟩) hS10 ?_
    rotate_left
    · intro w' hw'; go_simp; try with_reducible rfl
    try simp only [Act.put, List.setIfInBounds_toArray, List.set_cons_zero, List.set_cons_succ]
    refine wpAnyH_all (rs := [9]) (by kernel_rfl) (by simp) ?_
    intro i hi; simp only [List.mem_cons, List.not_mem_nil, or_false] at hi
    subst hi
    refine wpOp_step rfl (fun K hK => ?_)
    rw [if_pos (by kernel_rfl)]
    refine wp_store_mid 33 (.tmp 6) (.tmp 20) rfl (g_r6) 0 (DL : List Value).toArray rfl rfl (by rw [List.size_toArray, hDL]; exact r6.thereO 0 12 (by rw [show ([.slice none 0 0, .int .u8 0, .int .u8 0, .int .u8 0, .int .u8 0, .int .u8 0, .int .u8 0, .int .u8 0, .int .u8 0, .int .i64 0, .bool false, .int .i64 0] : List Value).length = 12 from rfl]; omega)) (by rw [List.size_toArray, hDL]; exact hID) (all_oneCell_toArray hD1) ?_
    obtain ⟨X11, hX11⟩ : ∃ X, X = World.setCells v10 (g_r6) 0 (DL : List Value) := ⟨_, rfl⟩
    have n6 : Row X11 g_r6 33 DL := by rw [hX11]; exact r6.setAll (by rw [hDL]; rfl)
    have lg6 : (w.heap.size + 1 + 1) < g_r6 := by have := bW0.size; have := HSV.out; have := Hg_r6.out; have := l_r6; have := l_rN; omega
    replace rA : Row X11 w.heap.size 37 [.int .i8 k, .int .i64 x] := by rw [hX11]; exact rA.setCellsO (by omega) _ _
    replace rR : Row X11 (w.heap.size + 1) 33 dvZ := by rw [hX11]; exact rR.setCellsO (by omega) _ _
    replace rN : Row X11 (w.heap.size + 1 + 1) 87 ntZ := by rw [hX11]; exact rN.setCellsO (by omega) _ _
    replace rD : Row X11 D 33 (dvC (.slice (some ⟨B, 0, none⟩) n cap) (dgL zs v) pr st tk) := by rw [hX11]; exact rD.setCellsO (by omega) _ _
    have nB : Below w.heap.size w X11 := by rw [hX11]; exact below_setCellsD _ _ _ (bW0.trans (bR.mono bW0.size)) (by omega)
    have hS11 : (fun W' : World => Row W' w.heap.size 37 [.int .i8 k, .int .i64 x] ∧ Row W' D 33 (dvC (.slice (some ⟨B, 0, none⟩) n cap) (dgL zs v) pr st tk)) X11 := ⟨rA, rD⟩
    have hXX11 : World.setCells v10 (g_r6) 0 (DL : List Value).toArray.toList = X11 := hX11.symm
    rw [hXX11]
    refine hK _ _ ⟨hS11, ?_⟩
    try simp only [Act.put, List.setIfInBounds_toArray, List.set_cons_zero, List.set_cons_succ]
    clear hX11 hXX11 hK K hS10
    refine wpAnyH_takeD (some 7) (i := 10) (v := ?_) rfl rfl (by kernel_rfl) (by kernel_rfl) (by kernel_rfl) (fun _ _ _ h => h) (.inl ⟨by kernel_rfl, ?_⟩) hS11 ?_
    rotate_left
    · intro w' hw'; go_simp; try with_reducible rfl
    try simp only [Act.put, List.setIfInBounds_toArray, List.set_cons_zero, List.set_cons_succ]
    refine wpAnyH_takeD (some 8) (i := 11) (v := ?_) rfl rfl (by kernel_rfl) (by kernel_rfl) (by kernel_rfl) (fun _ _ _ h => h) (.inl ⟨by kernel_rfl, ?_⟩) hS11 ?_
    rotate_left
    · intro w' hw'; go_simp; try with_reducible rfl
    try simp only [Act.put, List.setIfInBounds_toArray, List.set_cons_zero, List.set_cons_succ]
    refine wpAnyH_done (by kernel_rfl) ?_ _
    clear bR bW0 sS sN r6
    have T3 := rR.thereO 0 12 (by rw [dvZ_len]; omega)
    have T4 := rN.thereO 0 11 (by rw [ntZ_len]; omega)
    have T4' : ∀ ys : List Value, (World.setCells X11 (w.heap.size + 1) 0 ys).there (w.heap.size + 1 + 1) 0 11 := fun ys => (rN.setCellsO (by omega) ys 0).thereO 0 11 (by rw [ntZ_len]; omega)
    go_wp2_with (first | ((with_reducible refine wpList_store_mid rfl 33 _ _ rfl (w.heap.size + 1) 0 dvZ.toArray ?_ ?_ ?_ ?_ dvZ_oneT ?_); rfl; rfl; exact T3; exact hID) | ((with_reducible refine wpList_store_mid rfl 87 _ _ rfl (w.heap.size + 1 + 1) 0 ntZ.toArray ?_ ?_ ?_ ?_ (all_oneCell_toArray ntZ_one) ?_); rfl; rfl; exact T4' _; exact hIN))
    have u3 := (rR.setAll (ys := dvZ) rfl).setCellsO (g := (w.heap.size + 1 + 1)) (by omega) ntZ 0
    have u4 := (rN.setCellsO (g := (w.heap.size + 1)) (by omega) dvZ 0).setAll (ys := ntZ) rfl
    exact bodyPost_ret (v := .tuple #[.agg dvZ.toArray, .agg ntZ.toArray, .iface 161 (.pointer (some ea))]) (results_ccs (p := 3) (q := 4) (r := 5) (fn := Tryd.f74) rfl _ _ _ _ _ _ _ _ _ _ _ rfl rfl rfl u3 u4 Tryd.underlying33 rfl hID Tryd.underlying87 rfl hIN) rfl ⟨rfl, below_setCellsD _ _ _ (below_setCellsD _ _ _ nB (by omega)) (by omega)⟩
set_option maxRecDepth 100000 in
set_option maxHeartbeats 4000000 in
theorem journal_ok (D : Nat) (B n cap : Nat) (zs : List Int) (v pr : Int) (st : Bool) (tk : Int) (k x : Int) (v' pr' : Int) (st' : Bool) (tk' l : Int) (w : World) (hR : Row w D 33 (dvC (.slice (some ⟨B, 0, none⟩) n cap) (dgL zs v) pr st tk)) (hS : Stk w B zs) (hBD : B ≠ D) (hn : n = zs.length) (hv : okL zs = true) (hok : okS (szL zs) (v, pr, st, tk)) (ha : okAct k x = true) (a0 a1 a2 a3 : Addr) (hSN : SN w a0 a1 a2 a3) (hact : actF (szL zs) (v, pr, st, tk) k x = (0, (v', pr', st', tk'), l))  :
    Calls Tryd.prog 74 #[.agg #[.int .i8 k, .int .i64 x], .pointer (some ⟨D, 0, none⟩)] w fun e w' => e = .returned (.tuple #[.agg (dvC (.slice (some ⟨B, 0, none⟩) n cap) (dgL zs v') pr' st' tk').toArray, .agg (ntC k x (dgL zs v') l).toArray, .nilIface]) ∧ Row w' D 33 (dvC (.slice (some ⟨B, 0, none⟩) n cap) (dgL zs v') pr' st' tk') ∧ Below D w w' ∧ ∀ q, q < w.heap.size → q ≠ D → w'.heap[q]? = w.heap[q]? := by
  have hDl := hR.lt
  obtain ⟨TT, VV, ff, hdv, hmm, hcf, hcc⟩ := do_any B n cap zs v pr st tk k x w hS hn hv hok ha a0 a1 a2 a3 hSN
  rw [hact] at hcc
  have HDE := hid (fun W => deed_any k x ha W)
  rw [hdv] at HDE
  have HVA := hid (fun W => implValidAct_any k x W)
  rw [ha] at HVA
  have hID : (Tryd.prog.info? 33).map (·.size) = some 12 := Tryd.infoDev
  have hIN : (Tryd.prog.info? 87).map (·.size) = some 11 := Tryd.infoNote
  have hIA : (Tryd.prog.info? 37).map (·.size) = some 2 := Tryd.infoAct2
  simp only at hcc
  rw [show erV 0 a2 a3 = .nilIface from rfl] at hcc
  replace hcc : ∀ W, Stk W B zs → SN W a0 a1 a2 a3 → Calls Tryd.prog ff #[VV, .agg (dvC (.slice (some ⟨B, 0, none⟩) n cap) (dgL zs v) pr st tk).toArray] W fun e w' => e = .returned (.tuple #[.agg (dvC (.slice (some ⟨B, 0, none⟩) n cap) (dgL zs v') pr' st' tk').toArray, .int .i64 l, .nilIface]) ∧ Below W.heap.size W w' := fun W h1 h2 => (hcc W h1 h2).mono (by
    rintro e w' ⟨⟨DL, rfl, _, _, h0⟩, hB⟩
    rw [h0 trivial]
    exact ⟨rfl, hB⟩)
  have HCC := hid hcc
  obtain ⟨V, hV⟩ : ∃ V, V = ((w.alloc (.cells #[.int .i8 k, .int .i64 x] 37)).alloc (.cells #[.slice none 0 0, .int .u8 0, .int .u8 0, .int .u8 0, .int .u8 0, .int .u8 0, .int .u8 0, .int .u8 0, .int .u8 0, .int .i64 0, .bool false, .int .i64 0] 33)).alloc (.cells #[.int .i8 0, .int .i64 0, .int .u8 0, .int .u8 0, .int .u8 0, .int .u8 0, .int .u8 0, .int .u8 0, .int .u8 0, .int .u8 0, .int .i64 0] 87) := ⟨_, rfl⟩
  have bV : Below w.heap.size w V := by rw [hV]; exact (((Below.refl _ _).alloc (Nat.le_refl _) _).alloc (by simp) _).alloc (by simp; omega) _
  have sV : V.heap.size = w.heap.size + 1 + 1 + 1 := by rw [hV]; simp
  have rA : Row V w.heap.size 37 [.int .i8 k, .int .i64 x] := by rw [hV]; exact ((Row.new w _ _).alloc _).alloc _
  have rR : Row V (w.heap.size + 1) 33 dvZ := by
    have h := (Row.new (w.alloc (.cells #[.int .i8 k, .int .i64 x] 37)) 33 dvZ).alloc (.cells #[.int .i8 0, .int .i64 0, .int .u8 0, .int .u8 0, .int .u8 0, .int .u8 0, .int .u8 0, .int .u8 0, .int .u8 0, .int .u8 0, .int .i64 0] 87)
    simp only [World.size_alloc] at h
    rw [hV]; exact h
  have rN : Row V (w.heap.size + 1 + 1) 87 ntZ := by
    have h := Row.new ((w.alloc (.cells #[.int .i8 k, .int .i64 x] 37)).alloc (.cells #[.slice none 0 0, .int .u8 0, .int .u8 0, .int .u8 0, .int .u8 0, .int .u8 0, .int .u8 0, .int .u8 0, .int .u8 0, .int .i64 0, .bool false, .int .i64 0] 33)) 87 ntZ
    simp only [World.size_alloc] at h
    rw [hV]; exact h
  have rD := hR.below bV hDl
  have sS := hS.below bV hS.1
  have sN := hSN.below bV trivial
  have q0 := rA.cell 0; have q1 := rA.cell 1
  simp only [List.getElem?_cons_zero, List.getElem?_cons_succ] at q0 q1
  rw [hV] at q0 q1
  have HV := hid hV; have HBW := hid bV; have HSV := hid sV
  have HRR := hid rR; have HRN := hid rN; have HRA := hid rA; have HRD := hid rD; have HSS := hid sS; have HSN := hid sN
  clear hR hS hn hv hok ha hSN hcc hdv hact hV rA rR rN rD sS sN bV sV
  go_enter Tryd.func74, Tryd.ntmps74
  go_wp2_with fail
  rw [← HV.out]
  refine (HVA.out _).mono ?_
  rintro e w1 ⟨rfl, hB1⟩
  have bW1 := HBW.out.trans (hB1.mono HBW.out.size)
  have rA := HRA.out.below hB1 HRA.out.lt; have rR := HRR.out.below hB1 HRR.out.lt; have rN := HRN.out.below hB1 HRN.out.lt; have rD := HRD.out.below hB1 HRD.out.lt
  have sS := HSS.out.below hB1 HSS.out.1; have sN := HSN.out.below hB1 trivial
  clear q0 q1 hB1
  go_wp2_with fail
  refine wp_region_held (S := fun W' : World => Row W' w.heap.size 37 [.int .i8 k, .int .i64 x] ∧ Row W' D 33 (dvC (.slice (some ⟨B, 0, none⟩) n cap) (dgL zs v) pr st tk)) (by kernel_rfl) ?_
  change wpAnyH _ _ _ _ _ _ _ _ (World.drew _)
  obtain ⟨W0, hW0⟩ : ∃ X, X = World.drew (w1) := ⟨_, rfl⟩
  have hD0 : Below (w1).heap.size (w1) W0 := by rw [hW0]; exact (Below.refl _ _).drew
  replace rA := rA.below hD0 rA.lt
  replace rR := rR.below hD0 rR.lt
  replace rN := rN.below hD0 rN.lt
  replace rD := rD.below hD0 rD.lt
  replace sS := sS.below hD0 sS.1
  replace sN := sN.below hD0 sN.1
  have bW0 := bW1.trans (hD0.mono bW1.size)
  have bR : Below W0.heap.size W0 W0 := Below.refl _ _
  rw [← hW0]
  clear hW0 hD0
  have l_rA := rA.lt
  have l_rR := rR.lt
  have l_rN := rN.lt
  have l_rD := rD.lt
  have l_sS := sS.1
  have l_sN := sN.1
  have hS0 : (fun W' : World => Row W' w.heap.size 37 [.int .i8 k, .int .i64 x] ∧ Row W' D 33 (dvC (.slice (some ⟨B, 0, none⟩) n cap) (dgL zs v) pr st tk)) W0 := ⟨rA, rD⟩
  refine wpAnyH_takeD (some 16) (i := 0) (v := ?_) rfl rfl (by kernel_rfl) (by kernel_rfl) (by kernel_rfl) (fun _ _ _ h => h) (.inl ⟨by kernel_rfl, ?_⟩) hS0 ?_
  rotate_left
  · intro w' hw'; have hrow0 := hw'.1; have e0x0 := Row.cell hrow0 0; have e0x1 := Row.cell hrow0 1; simp only [List.getElem?_cons_zero, List.getElem?_cons_succ] at e0x0 e0x1; clear hrow0; have e1 := hw'.2; clear hw'; go_simp; try with_reducible rfl
  try simp only [Act.put, List.setIfInBounds_toArray, List.set_cons_zero, List.set_cons_succ]
  refine wpAnyH_takeD (some 18) (i := 2) (v := .agg ((dvC (.slice (some ⟨B, 0, none⟩) n cap) (dgL zs v) pr st tk)).toArray) rfl rfl (by kernel_rfl) (by kernel_rfl) (by kernel_rfl) (fun _ _ _ h => h) (.inl ⟨by kernel_rfl, ?_⟩) hS0 ?_
  · intro w' hw'; exact exec_load_row 33 _ rfl D rfl 33 ((dvC (.slice (some ⟨B, 0, none⟩) n cap) (dgL zs v) pr st tk)).toArray _ (hw'.2) Tryd.underlying33 rfl hID
  try simp only [Act.put, List.setIfInBounds_toArray, List.set_cons_zero, List.set_cons_succ]
  refine wpAnyH_all (rs := [1, 8]) (by kernel_rfl) (by simp) ?_
  intro i hi; simp only [List.mem_cons, List.not_mem_nil, or_false] at hi
  rcases hi with rfl | rfl
  · refine wpOp_step rfl (fun K hK => ?_)
    go_simp
    with_reducible refine (HDE.out W0).mono ?_
    rintro e v1 ⟨rfl, hB1⟩
    replace rA := rA.below hB1 rA.lt
    replace rR := rR.below hB1 rR.lt
    replace rN := rN.below hB1 rN.lt
    replace rD := rD.below hB1 rD.lt
    replace sS := sS.below hB1 sS.1
    replace sN := sN.below hB1 sN.1
    replace bR := bR.trans (hB1.mono bR.size)
    have hS1 : (fun W' : World => Row W' w.heap.size 37 [.int .i8 k, .int .i64 x] ∧ Row W' D 33 (dvC (.slice (some ⟨B, 0, none⟩) n cap) (dgL zs v) pr st tk)) v1 := ⟨rA, rD⟩
    refine hK _ _ ⟨hS1, ?_⟩
    try simp only [Act.put, List.setIfInBounds_toArray, List.set_cons_zero, List.set_cons_succ]
    clear hB1 hK K hS0
    refine wpAnyH_all (rs := [3, 8]) (by kernel_rfl) (by simp) ?_
    intro i hi; simp only [List.mem_cons, List.not_mem_nil, or_false] at hi
    rcases hi with rfl | rfl
    · refine wpOp_step rfl (fun K hK => ?_)
      go_simp
      with_reducible refine (HCC.out v1 sS sN).mono ?_
      rintro e v2 ⟨rfl, hB2⟩
      replace rA := rA.below hB2 rA.lt
      replace rR := rR.below hB2 rR.lt
      replace rN := rN.below hB2 rN.lt
      replace rD := rD.below hB2 rD.lt
      replace sS := sS.below hB2 sS.1
      replace sN := sN.below hB2 sN.1
      replace bR := bR.trans (hB2.mono bR.size)
      have hS2 : (fun W' : World => Row W' w.heap.size 37 [.int .i8 k, .int .i64 x] ∧ Row W' D 33 (dvC (.slice (some ⟨B, 0, none⟩) n cap) (dgL zs v) pr st tk)) v2 := ⟨rA, rD⟩
      refine hK _ _ ⟨hS2, ?_⟩
      try simp only [Act.put, List.setIfInBounds_toArray, List.set_cons_zero, List.set_cons_succ]
      clear hB2 hK K hS1
      refine wpAnyH_takeD (some 15) (i := 4) (v := ?_) rfl rfl (by kernel_rfl) (by kernel_rfl) (by kernel_rfl) (fun _ _ _ h => h) (.inl ⟨by kernel_rfl, ?_⟩) hS2 ?_
      rotate_left
      · intro w' hw'; go_simp; try with_reducible rfl
      try simp only [Act.put, List.setIfInBounds_toArray, List.set_cons_zero, List.set_cons_succ]
      refine wpAnyH_takeD (some 20) (i := 5) (v := ?_) rfl rfl (by kernel_rfl) (by kernel_rfl) (by kernel_rfl) (fun _ _ _ h => h) (.inl ⟨by kernel_rfl, ?_⟩) hS2 ?_
      rotate_left
      · intro w' hw'; go_simp; try with_reducible rfl
      try simp only [Act.put, List.setIfInBounds_toArray, List.set_cons_zero, List.set_cons_succ]
      refine wpAnyH_takeD (some 21) (i := 6) (v := ?_) rfl rfl (by kernel_rfl) (by kernel_rfl) (by kernel_rfl) (fun _ _ _ h => h) (.inl ⟨by kernel_rfl, ?_⟩) hS2 ?_
      rotate_left
      · intro w' hw'; go_simp; try with_reducible rfl
      try simp only [Act.put, List.setIfInBounds_toArray, List.set_cons_zero, List.set_cons_succ]
      refine wpAnyH_takeD (some 22) (i := 7) (v := ?_) rfl rfl (by kernel_rfl) (by kernel_rfl) (by kernel_rfl) (fun _ _ _ h => h) (.inl ⟨by kernel_rfl, ?_⟩) hS2 ?_
      rotate_left
      · intro w' hw'; go_simp; try with_reducible rfl
      try simp only [Act.put, List.setIfInBounds_toArray, List.set_cons_zero, List.set_cons_succ]
      refine wpAnyH_all (rs := [8]) (by kernel_rfl) (by simp) ?_
      intro i hi; simp only [List.mem_cons, List.not_mem_nil, or_false] at hi
      subst hi
      refine wpOp_step rfl (fun K hK => ?_)
      go_simp
      have r6 := Row.new v2 33 [.slice none 0 0, .int .u8 0, .int .u8 0, .int .u8 0, .int .u8 0, .int .u8 0, .int .u8 0, .int .u8 0, .int .u8 0, .int .i64 0, .bool false, .int .i64 0]
      have hA : Below v2.heap.size v2 (v2.alloc (.cells #[.slice none 0 0, .int .u8 0, .int .u8 0, .int .u8 0, .int .u8 0, .int .u8 0, .int .u8 0, .int .u8 0, .int .u8 0, .int .i64 0, .bool false, .int .i64 0] 33)) := (Below.refl _ _).alloc (Nat.le_refl _) _
      replace rA := rA.below hA rA.lt
      replace rR := rR.below hA rR.lt
      replace rN := rN.below hA rN.lt
      replace rD := rD.below hA rD.lt
      replace sS := sS.below hA sS.1
      replace sN := sN.below hA sN.1
      have l_r6 := bR.size
      replace bR := bR.trans (hA.mono bR.size)
      have hS3 : (fun W' : World => Row W' w.heap.size 37 [.int .i8 k, .int .i64 x] ∧ Row W' D 33 (dvC (.slice (some ⟨B, 0, none⟩) n cap) (dgL zs v) pr st tk)) (v2.alloc (.cells #[.slice none 0 0, .int .u8 0, .int .u8 0, .int .u8 0, .int .u8 0, .int .u8 0, .int .u8 0, .int .u8 0, .int .u8 0, .int .i64 0, .bool false, .int .i64 0] 33)) := ⟨rA, rD⟩
      refine hK _ _ ⟨hS3, ?_⟩
      try simp only [Act.put, List.setIfInBounds_toArray, List.set_cons_zero, List.set_cons_succ]
      obtain ⟨X3, hX3⟩ : ∃ X, X = v2.alloc (.cells #[.slice none 0 0, .int .u8 0, .int .u8 0, .int .u8 0, .int .u8 0, .int .u8 0, .int .u8 0, .int .u8 0, .int .u8 0, .int .i64 0, .bool false, .int .i64 0] 33) := ⟨_, rfl⟩
      obtain ⟨g_r6, hg_r6⟩ : ∃ y, (World.heap v2).size = y := ⟨_, rfl⟩
      rw [← hX3] at rA rR rN rD sS sN r6 bR hS3 ⊢
      rw [hg_r6] at r6 l_r6 ⊢
      have Hg_r6 := hid hg_r6
      clear hX3 hA hK K hg_r6 hS2
      refine wpAnyH_all (rs := [9]) (by kernel_rfl) (by simp) ?_
      intro i hi; simp only [List.mem_cons, List.not_mem_nil, or_false] at hi
      subst hi
      refine wpOp_step rfl (fun K hK => ?_)
      rw [if_pos (by kernel_rfl)]
      refine wp_store_mid 33 (.tmp 6) (.tmp 20) rfl (g_r6) 0 ((dvC (.slice (some ⟨B, 0, none⟩) n cap) (dgL zs v') pr' st' tk') : List Value).toArray rfl rfl (r6.thereO 0 12 (by rw [show ([.slice none 0 0, .int .u8 0, .int .u8 0, .int .u8 0, .int .u8 0, .int .u8 0, .int .u8 0, .int .u8 0, .int .u8 0, .int .i64 0, .bool false, .int .i64 0] : List Value).length = 12 from rfl]; omega)) hID (all_oneCell_toArray (dvC_one _ _ _ _ _ _ _)) ?_
      obtain ⟨X4, hX4⟩ : ∃ X, X = World.setCells X3 (g_r6) 0 ((dvC (.slice (some ⟨B, 0, none⟩) n cap) (dgL zs v') pr' st' tk') : List Value) := ⟨_, rfl⟩
      have n6 : Row X4 g_r6 33 (dvC (.slice (some ⟨B, 0, none⟩) n cap) (dgL zs v') pr' st' tk') := by rw [hX4]; exact r6.setAll rfl
      have lg6 : (w.heap.size + 1 + 1) < g_r6 := by have := bW0.size; have := HSV.out; have := Hg_r6.out; have := l_r6; have := l_rN; omega
      replace rA : Row X4 w.heap.size 37 [.int .i8 k, .int .i64 x] := by rw [hX4]; exact rA.setCellsO (by omega) _ _
      replace rR : Row X4 (w.heap.size + 1) 33 dvZ := by rw [hX4]; exact rR.setCellsO (by omega) _ _
      replace rN : Row X4 (w.heap.size + 1 + 1) 87 ntZ := by rw [hX4]; exact rN.setCellsO (by omega) _ _
      replace rD : Row X4 D 33 (dvC (.slice (some ⟨B, 0, none⟩) n cap) (dgL zs v) pr st tk) := by rw [hX4]; exact rD.setCellsO (by omega) _ _
      have nB : Below w.heap.size w X4 := by rw [hX4]; exact below_setCellsD _ _ _ (bW0.trans (bR.mono bW0.size)) (by omega)
      have hS4 : (fun W' : World => Row W' w.heap.size 37 [.int .i8 k, .int .i64 x] ∧ Row W' D 33 (dvC (.slice (some ⟨B, 0, none⟩) n cap) (dgL zs v) pr st tk)) X4 := ⟨rA, rD⟩
      have hXX4 : World.setCells X3 (g_r6) 0 ((dvC (.slice (some ⟨B, 0, none⟩) n cap) (dgL zs v') pr' st' tk') : List Value).toArray.toList = X4 := hX4.symm
      rw [hXX4]
      refine hK _ _ ⟨hS4, ?_⟩
      try simp only [Act.put, List.setIfInBounds_toArray, List.set_cons_zero, List.set_cons_succ]
      clear hX4 hXX4 hK K hS3
      refine wpAnyH_takeD (some 7) (i := 10) (v := ?_) rfl rfl (by kernel_rfl) (by kernel_rfl) (by kernel_rfl) (fun _ _ _ h => h) (.inl ⟨by kernel_rfl, ?_⟩) hS4 ?_
      rotate_left
      · intro w' hw'; go_simp; try with_reducible rfl
      try simp only [Act.put, List.setIfInBounds_toArray, List.set_cons_zero, List.set_cons_succ]
      refine wpAnyH_takeD (some 8) (i := 11) (v := ?_) rfl rfl (by kernel_rfl) (by kernel_rfl) (by kernel_rfl) (fun _ _ _ h => h) (.inl ⟨by kernel_rfl, ?_⟩) hS4 ?_
      rotate_left
      · intro w' hw'; go_simp; try with_reducible rfl
      try simp only [Act.put, List.setIfInBounds_toArray, List.set_cons_zero, List.set_cons_succ]
      refine wpAnyH_done (by kernel_rfl) ?_ _
      clear bR bW0 sS sN r6
      have T1 := rD.thereO 0 12 (by rw [dvC_len]; omega)
      go_wp2_with (first | ((with_reducible refine wpList_load_row rfl 33 _ rfl g_r6 ?_ 33 (dvC (.slice (some ⟨B, 0, none⟩) n cap) (dgL zs v') pr' st' tk').toArray (0, 0) _ ?_ Tryd.underlying33 ?_ ?_ ?_); rfl; exact n6; rfl; exact hID) | ((with_reducible refine wpList_store_mid rfl 33 _ _ rfl D 0 (dvC (.slice (some ⟨B, 0, none⟩) n cap) (dgL zs v') pr' st' tk').toArray ?_ ?_ ?_ ?_ (all_oneCell_toArray (dvC_one _ _ _ _ _ _ _)) ?_); rfl; rfl; exact T1; exact hID))
      obtain ⟨Y7, hY7⟩ : ∃ X, X = World.setCells X4 D 0 (dvC (.slice (some ⟨B, 0, none⟩) n cap) (dgL zs v') pr' st' tk') := ⟨_, rfl⟩
      have lG : D < w.heap.size := hDl
      have nB1 := hid nB
      replace rA : Row Y7 w.heap.size 37 [.int .i8 k, .int .i64 x] := by rw [hY7]; exact rA.setCellsO (by omega) _ _
      replace rR : Row Y7 (w.heap.size + 1) 33 dvZ := by rw [hY7]; exact rR.setCellsO (by omega) _ _
      replace rN : Row Y7 (w.heap.size + 1 + 1) 87 ntZ := by rw [hY7]; exact rN.setCellsO (by omega) _ _
      replace rD : Row Y7 D 33 (dvC (.slice (some ⟨B, 0, none⟩) n cap) (dgL zs v') pr' st' tk') := by rw [hY7]; exact rD.setAll rfl
      have BD : Below D w Y7 := by rw [hY7]; exact below_setCellsD _ _ _ (nB1.out.mono (by omega)) (Nat.le_refl _)
      have K7 : ∀ q, q < w.heap.size → q ≠ D → Y7.heap[q]? = w.heap[q]? := fun q h1 h2 => by rw [hY7, other_setCellsD h2]; exact nB1.out.block q h1
      have hY7' : World.setCells X4 D 0 (dvC (.slice (some ⟨B, 0, none⟩) n cap) (dgL zs v') pr' st' tk').toArray.toList = Y7 := hY7.symm
      first | rw [hY7'] | rw [← hY7]
      have bW7 := Below.refl Y7.heap.size Y7
      clear hY7 hY7' n6 nB nB1 T1 lG
      refine wp_region_held (S := fun W' : World => Row W' w.heap.size 37 [.int .i8 k, .int .i64 x] ∧ Row W' D 33 (dvC (.slice (some ⟨B, 0, none⟩) n cap) (dgL zs v') pr' st' tk')) (by kernel_rfl) ?_
      change wpAnyH _ _ _ _ _ _ _ _ (World.drew _)
      obtain ⟨W0, hW0⟩ : ∃ X, X = World.drew (Y7) := ⟨_, rfl⟩
      have hD0 : Below (Y7).heap.size (Y7) W0 := by rw [hW0]; exact (Below.refl _ _).drew
      replace rA := rA.below hD0 rA.lt
      replace rR := rR.below hD0 rR.lt
      replace rN := rN.below hD0 rN.lt
      replace rD := rD.below hD0 rD.lt
      have bW0 := bW7.trans (hD0.mono bW7.size)
      have bR : Below W0.heap.size W0 W0 := Below.refl _ _
      rw [← hW0]
      clear hW0 hD0
      have l_rA := rA.lt
      have l_rR := rR.lt
      have l_rN := rN.lt
      have l_rD := rD.lt
      have hS0 : (fun W' : World => Row W' w.heap.size 37 [.int .i8 k, .int .i64 x] ∧ Row W' D 33 (dvC (.slice (some ⟨B, 0, none⟩) n cap) (dgL zs v') pr' st' tk')) W0 := ⟨rA, rD⟩
      refine wpAnyH_takeD (some 29) (i := 0) (v := .agg ((dvC (.slice (some ⟨B, 0, none⟩) n cap) (dgL zs v') pr' st' tk')).toArray) rfl rfl (by kernel_rfl) (by kernel_rfl) (by kernel_rfl) (fun _ _ _ h => h) (.inl ⟨by kernel_rfl, ?_⟩) hS0 ?_
      · intro w' hw'; exact exec_load_row 33 _ rfl D rfl 33 ((dvC (.slice (some ⟨B, 0, none⟩) n cap) (dgL zs v') pr' st' tk')).toArray _ (hw'.2) Tryd.underlying33 rfl hID
      try simp only [Act.put, List.setIfInBounds_toArray, List.set_cons_zero, List.set_cons_succ]
      refine wpAnyH_takeD (some 30) (i := 1) (v := ?_) rfl rfl (by kernel_rfl) (by kernel_rfl) (by kernel_rfl) (fun _ _ _ h => h) (.inl ⟨by kernel_rfl, ?_⟩) hS0 ?_
      rotate_left
      · intro w' hw'; have hrow0 := hw'.1; have e0x0 := Row.cell hrow0 0; have e0x1 := Row.cell hrow0 1; simp only [List.getElem?_cons_zero, List.getElem?_cons_succ] at e0x0 e0x1; clear hrow0; have hrD := hw'.2; have d1 : w'.cell? ⟨D, 1, none⟩ = some (.int .u8 (dg (dgL zs v') 0)) := hrD.cell 1; have d2 : w'.cell? ⟨D, 2, none⟩ = some (.int .u8 (dg (dgL zs v') 1)) := hrD.cell 2; have d3 : w'.cell? ⟨D, 3, none⟩ = some (.int .u8 (dg (dgL zs v') 2)) := hrD.cell 3; have d4 : w'.cell? ⟨D, 4, none⟩ = some (.int .u8 (dg (dgL zs v') 3)) := hrD.cell 4; have d5 : w'.cell? ⟨D, 5, none⟩ = some (.int .u8 (dg (dgL zs v') 4)) := hrD.cell 5; have d6 : w'.cell? ⟨D, 6, none⟩ = some (.int .u8 (dg (dgL zs v') 5)) := hrD.cell 6; have d7 : w'.cell? ⟨D, 7, none⟩ = some (.int .u8 (dg (dgL zs v') 6)) := hrD.cell 7; have d8 : w'.cell? ⟨D, 8, none⟩ = some (.int .u8 (dg (dgL zs v') 7)) := hrD.cell 8; clear hrD; clear hw'; go_simp; try with_reducible rfl
      try simp only [Act.put, List.setIfInBounds_toArray, List.set_cons_zero, List.set_cons_succ]
      refine wpAnyH_takeD (some 31) (i := 2) (v := ?_) rfl rfl (by kernel_rfl) (by kernel_rfl) (by kernel_rfl) (fun _ _ _ h => h) (.inl ⟨by kernel_rfl, ?_⟩) hS0 ?_
      rotate_left
      · intro w' hw'; have hrow0 := hw'.1; have e0x0 := Row.cell hrow0 0; have e0x1 := Row.cell hrow0 1; simp only [List.getElem?_cons_zero, List.getElem?_cons_succ] at e0x0 e0x1; clear hrow0; have hrD := hw'.2; have d1 : w'.cell? ⟨D, 1, none⟩ = some (.int .u8 (dg (dgL zs v') 0)) := hrD.cell 1; have d2 : w'.cell? ⟨D, 2, none⟩ = some (.int .u8 (dg (dgL zs v') 1)) := hrD.cell 2; have d3 : w'.cell? ⟨D, 3, none⟩ = some (.int .u8 (dg (dgL zs v') 2)) := hrD.cell 3; have d4 : w'.cell? ⟨D, 4, none⟩ = some (.int .u8 (dg (dgL zs v') 3)) := hrD.cell 4; have d5 : w'.cell? ⟨D, 5, none⟩ = some (.int .u8 (dg (dgL zs v') 4)) := hrD.cell 5; have d6 : w'.cell? ⟨D, 6, none⟩ = some (.int .u8 (dg (dgL zs v') 5)) := hrD.cell 6; have d7 : w'.cell? ⟨D, 7, none⟩ = some (.int .u8 (dg (dgL zs v') 6)) := hrD.cell 7; have d8 : w'.cell? ⟨D, 8, none⟩ = some (.int .u8 (dg (dgL zs v') 7)) := hrD.cell 8; clear hrD; clear hw'; go_simp; try with_reducible rfl
      try simp only [Act.put, List.setIfInBounds_toArray, List.set_cons_zero, List.set_cons_succ]
      refine wpAnyH_takeD (some 32) (i := 3) (v := ?_) rfl rfl (by kernel_rfl) (by kernel_rfl) (by kernel_rfl) (fun _ _ _ h => h) (.inl ⟨by kernel_rfl, ?_⟩) hS0 ?_
      rotate_left
      · intro w' hw'; have hrow0 := hw'.1; have e0x0 := Row.cell hrow0 0; have e0x1 := Row.cell hrow0 1; simp only [List.getElem?_cons_zero, List.getElem?_cons_succ] at e0x0 e0x1; clear hrow0; have hrD := hw'.2; have d1 : w'.cell? ⟨D, 1, none⟩ = some (.int .u8 (dg (dgL zs v') 0)) := hrD.cell 1; have d2 : w'.cell? ⟨D, 2, none⟩ = some (.int .u8 (dg (dgL zs v') 1)) := hrD.cell 2; have d3 : w'.cell? ⟨D, 3, none⟩ = some (.int .u8 (dg (dgL zs v') 2)) := hrD.cell 3; have d4 : w'.cell? ⟨D, 4, none⟩ = some (.int .u8 (dg (dgL zs v') 3)) := hrD.cell 4; have d5 : w'.cell? ⟨D, 5, none⟩ = some (.int .u8 (dg (dgL zs v') 4)) := hrD.cell 5; have d6 : w'.cell? ⟨D, 6, none⟩ = some (.int .u8 (dg (dgL zs v') 5)) := hrD.cell 6; have d7 : w'.cell? ⟨D, 7, none⟩ = some (.int .u8 (dg (dgL zs v') 6)) := hrD.cell 7; have d8 : w'.cell? ⟨D, 8, none⟩ = some (.int .u8 (dg (dgL zs v') 7)) := hrD.cell 8; clear hrD; clear hw'; go_simp; try with_reducible rfl
      try simp only [Act.put, List.setIfInBounds_toArray, List.set_cons_zero, List.set_cons_succ]
      refine wpAnyH_takeD (some 33) (i := 4) (v := ?_) rfl rfl (by kernel_rfl) (by kernel_rfl) (by kernel_rfl) (fun _ _ _ h => h) (.inl ⟨by kernel_rfl, ?_⟩) hS0 ?_
      rotate_left
      · intro w' hw'; go_simp; try with_reducible rfl
      try simp only [Act.put, List.setIfInBounds_toArray, List.set_cons_zero, List.set_cons_succ]
      refine wpAnyH_takeD (some 34) (i := 5) (v := ?_) rfl rfl (by kernel_rfl) (by kernel_rfl) (by kernel_rfl) (fun _ _ _ h => h) (.inl ⟨by kernel_rfl, ?_⟩) hS0 ?_
      rotate_left
      · intro w' hw'; go_simp; try with_reducible rfl
      try simp only [Act.put, List.setIfInBounds_toArray, List.set_cons_zero, List.set_cons_succ]
      refine wpAnyH_all (rs := [6]) (by kernel_rfl) (by simp) ?_
      intro i hi; simp only [List.mem_cons, List.not_mem_nil, or_false] at hi
      subst hi
      refine wpOp_step rfl (fun K hK => ?_)
      rw [if_pos (by kernel_rfl)]
      refine wp_store_mid 33 (.tmp 3) (.tmp 29) rfl ((w.heap.size + 1)) 0 ((dvC (.slice (some ⟨B, 0, none⟩) n cap) (dgL zs v') pr' st' tk') : List Value).toArray rfl rfl (rR.thereO 0 12 (by rw [dvZ_len]; omega)) hID (all_oneCell_toArray (dvC_one _ _ _ _ _ _ _)) ?_
      obtain ⟨X1, hX1⟩ : ∃ X, X = World.setCells W0 ((w.heap.size + 1)) 0 ((dvC (.slice (some ⟨B, 0, none⟩) n cap) (dgL zs v') pr' st' tk') : List Value) := ⟨_, rfl⟩
      have n3 : Row X1 (w.heap.size + 1) 33 (dvC (.slice (some ⟨B, 0, none⟩) n cap) (dgL zs v') pr' st' tk') := by rw [hX1]; exact rR.setAll rfl
      have lG : D < w.heap.size := hDl
      replace rA : Row X1 w.heap.size 37 [.int .i8 k, .int .i64 x] := by rw [hX1]; exact rA.setCellsO (by omega) _ _
      replace rN : Row X1 (w.heap.size + 1 + 1) 87 ntZ := by rw [hX1]; exact rN.setCellsO (by omega) _ _
      replace rD : Row X1 D 33 (dvC (.slice (some ⟨B, 0, none⟩) n cap) (dgL zs v') pr' st' tk') := by rw [hX1]; exact rD.setCellsO (by omega) _ _
      have nB : Below D w X1 := by rw [hX1]; exact below_setCellsD _ _ _ (BD.trans ((bW0.trans (bR.mono bW0.size)).mono (by have := BD.size; omega))) (by omega)
      have nK : ∀ q, q < w.heap.size → q ≠ D → X1.heap[q]? = w.heap[q]? := fun q h1 h2 => by rw [hX1, other_setCellsD (by omega)]; exact ((bW0.trans (bR.mono bW0.size)).block q (by have := BD.size; omega)).trans (K7 q h1 h2)
      clear rR
      have hS1 : (fun W' : World => Row W' w.heap.size 37 [.int .i8 k, .int .i64 x] ∧ Row W' D 33 (dvC (.slice (some ⟨B, 0, none⟩) n cap) (dgL zs v') pr' st' tk')) X1 := ⟨rA, rD⟩
      have hXX1 : World.setCells W0 ((w.heap.size + 1)) 0 ((dvC (.slice (some ⟨B, 0, none⟩) n cap) (dgL zs v') pr' st' tk') : List Value).toArray.toList = X1 := hX1.symm
      rw [hXX1]
      refine hK _ _ ⟨hS1, ?_⟩
      try simp only [Act.put, List.setIfInBounds_toArray, List.set_cons_zero, List.set_cons_succ]
      clear hX1 hXX1 hK K hS0
      refine wpAnyH_all (rs := [7]) (by kernel_rfl) (by simp) ?_
      intro i hi; simp only [List.mem_cons, List.not_mem_nil, or_false] at hi
      subst hi
      refine wpOp_step rfl (fun K hK => ?_)
      rw [if_pos (by kernel_rfl)]
      refine wp_store_mid 87 (.tmp 4) (.tmp 34) rfl ((w.heap.size + 1 + 1)) 0 ((ntC k x (dgL zs v') l) : List Value).toArray rfl rfl (rN.thereO 0 11 (by rw [ntZ_len]; omega)) hIN (all_oneCell_toArray (ntC_one _ _ _ _)) ?_
      obtain ⟨X2, hX2⟩ : ∃ X, X = World.setCells X1 ((w.heap.size + 1 + 1)) 0 ((ntC k x (dgL zs v') l) : List Value) := ⟨_, rfl⟩
      have n4 : Row X2 (w.heap.size + 1 + 1) 87 (ntC k x (dgL zs v') l) := by rw [hX2]; exact rN.setAll rfl
      replace n3 : Row X2 (w.heap.size + 1) 33 (dvC (.slice (some ⟨B, 0, none⟩) n cap) (dgL zs v') pr' st' tk') := by rw [hX2]; exact n3.setCellsO (by omega) _ _
      replace rA : Row X2 w.heap.size 37 [.int .i8 k, .int .i64 x] := by rw [hX2]; exact rA.setCellsO (by omega) _ _
      replace rD : Row X2 D 33 (dvC (.slice (some ⟨B, 0, none⟩) n cap) (dgL zs v') pr' st' tk') := by rw [hX2]; exact rD.setCellsO (by omega) _ _
      replace nB : Below D w X2 := by rw [hX2]; exact below_setCellsD _ _ _ nB (by omega)
      replace nK : ∀ q, q < w.heap.size → q ≠ D → X2.heap[q]? = w.heap[q]? := fun q h1 h2 => by rw [hX2, other_setCellsD (by omega)]; exact nK q h1 h2
      clear rN
      have hS2 : (fun W' : World => Row W' w.heap.size 37 [.int .i8 k, .int .i64 x] ∧ Row W' D 33 (dvC (.slice (some ⟨B, 0, none⟩) n cap) (dgL zs v') pr' st' tk')) X2 := ⟨rA, rD⟩
      have hXX2 : World.setCells X1 ((w.heap.size + 1 + 1)) 0 ((ntC k x (dgL zs v') l) : List Value).toArray.toList = X2 := hX2.symm
      rw [hXX2]
      refine hK _ _ ⟨hS2, ?_⟩
      try simp only [Act.put, List.setIfInBounds_toArray, List.set_cons_zero, List.set_cons_succ]
      clear hX2 hXX2 hK K hS1
      refine wpAnyH_takeD (some 5) (i := 8) (v := ?_) rfl rfl (by kernel_rfl) (by kernel_rfl) (by kernel_rfl) (fun _ _ _ h => h) (.inl ⟨by kernel_rfl, ?_⟩) hS2 ?_
      rotate_left
      · intro w' hw'; go_simp; try with_reducible rfl
      try simp only [Act.put, List.setIfInBounds_toArray, List.set_cons_zero, List.set_cons_succ]
      refine wpAnyH_done (by kernel_rfl) ?_ _
      go_wp2_with fail
      exact bodyPost_ret (v := .tuple #[.agg (dvC (.slice (some ⟨B, 0, none⟩) n cap) (dgL zs v') pr' st' tk').toArray, .agg (ntC k x (dgL zs v') l).toArray, .nilIface]) (results_ccs (p := 3) (q := 4) (r := 5) (fn := Tryd.f74) rfl _ _ _ _ _ _ _ _ _ _ _ rfl rfl rfl n3 n4 Tryd.underlying33 rfl hID Tryd.underlying87 rfl hIN) rfl ⟨rfl, rD, nB, nK⟩
    · refine wpOp_step rfl (fun K hK => ?_)
      go_simp
      have r6 := Row.new v1 33 [.slice none 0 0, .int .u8 0, .int .u8 0, .int .u8 0, .int .u8 0, .int .u8 0, .int .u8 0, .int .u8 0, .int .u8 0, .int .i64 0, .bool false, .int .i64 0]
      have hA : Below v1.heap.size v1 (v1.alloc (.cells #[.slice none 0 0, .int .u8 0, .int .u8 0, .int .u8 0, .int .u8 0, .int .u8 0, .int .u8 0, .int .u8 0, .int .u8 0, .int .i64 0, .bool false, .int .i64 0] 33)) := (Below.refl _ _).alloc (Nat.le_refl _) _
      replace rA := rA.below hA rA.lt
      replace rR := rR.below hA rR.lt
      replace rN := rN.below hA rN.lt
      replace rD := rD.below hA rD.lt
      replace sS := sS.below hA sS.1
      replace sN := sN.below hA sN.1
      have l_r6 := bR.size
      replace bR := bR.trans (hA.mono bR.size)
      have hS5 : (fun W' : World => Row W' w.heap.size 37 [.int .i8 k, .int .i64 x] ∧ Row W' D 33 (dvC (.slice (some ⟨B, 0, none⟩) n cap) (dgL zs v) pr st tk)) (v1.alloc (.cells #[.slice none 0 0, .int .u8 0, .int .u8 0, .int .u8 0, .int .u8 0, .int .u8 0, .int .u8 0, .int .u8 0, .int .u8 0, .int .i64 0, .bool false, .int .i64 0] 33)) := ⟨rA, rD⟩
      refine hK _ _ ⟨hS5, ?_⟩
      try simp only [Act.put, List.setIfInBounds_toArray, List.set_cons_zero, List.set_cons_succ]
      obtain ⟨X5, hX5⟩ : ∃ X, X = v1.alloc (.cells #[.slice none 0 0, .int .u8 0, .int .u8 0, .int .u8 0, .int .u8 0, .int .u8 0, .int .u8 0, .int .u8 0, .int .u8 0, .int .i64 0, .bool false, .int .i64 0] 33) := ⟨_, rfl⟩
      obtain ⟨g_r6, hg_r6⟩ : ∃ y, (World.heap v1).size = y := ⟨_, rfl⟩
      rw [← hX5] at rA rR rN rD sS sN r6 bR hS5 ⊢
      rw [hg_r6] at r6 l_r6 ⊢
      have Hg_r6 := hid hg_r6
      clear hX5 hA hK K hg_r6 hS1
      refine wpAnyH_all (rs := [3]) (by kernel_rfl) (by simp) ?_
      intro i hi; simp only [List.mem_cons, List.not_mem_nil, or_false] at hi
      subst hi
      refine wpOp_step rfl (fun K hK => ?_)
      go_simp
      with_reducible refine (HCC.out X5 sS sN).mono ?_
      rintro e v6 ⟨rfl, hB6⟩
      replace rA := rA.below hB6 rA.lt
      replace rR := rR.below hB6 rR.lt
      replace rN := rN.below hB6 rN.lt
      replace rD := rD.below hB6 rD.lt
      replace sS := sS.below hB6 sS.1
      replace sN := sN.below hB6 sN.1
      replace r6 := r6.below hB6 r6.lt
      replace bR := bR.trans (hB6.mono bR.size)
      have hS6 : (fun W' : World => Row W' w.heap.size 37 [.int .i8 k, .int .i64 x] ∧ Row W' D 33 (dvC (.slice (some ⟨B, 0, none⟩) n cap) (dgL zs v) pr st tk)) v6 := ⟨rA, rD⟩
      refine hK _ _ ⟨hS6, ?_⟩
      try simp only [Act.put, List.setIfInBounds_toArray, List.set_cons_zero, List.set_cons_succ]
      clear hB6 hK K hS5
      refine wpAnyH_takeD (some 15) (i := 4) (v := ?_) rfl rfl (by kernel_rfl) (by kernel_rfl) (by kernel_rfl) (fun _ _ _ h => h) (.inl ⟨by kernel_rfl, ?_⟩) hS6 ?_
      rotate_left
      · intro w' hw'; go_simp; try with_reducible rfl
      try simp only [Act.put, List.setIfInBounds_toArray, List.set_cons_zero, List.set_cons_succ]
      refine wpAnyH_takeD (some 20) (i := 5) (v := ?_) rfl rfl (by kernel_rfl) (by kernel_rfl) (by kernel_rfl) (fun _ _ _ h => h) (.inl ⟨by kernel_rfl, ?_⟩) hS6 ?_
      rotate_left
      · intro w' hw'; go_simp; try with_reducible rfl
      try simp only [Act.put, List.setIfInBounds_toArray, List.set_cons_zero, List.set_cons_succ]
      refine wpAnyH_takeD (some 21) (i := 6) (v := ?_) rfl rfl (by kernel_rfl) (by kernel_rfl) (by kernel_rfl) (fun _ _ _ h => h) (.inl ⟨by kernel_rfl, ?_⟩) hS6 ?_
      rotate_left
      · intro w' hw'; go_simp; try with_reducible rfl
      try simp only [Act.put, List.setIfInBounds_toArray, List.set_cons_zero, List.set_cons_succ]
      refine wpAnyH_takeD (some 22) (i := 7) (v := ?_) rfl rfl (by kernel_rfl) (by kernel_rfl) (by kernel_rfl) (fun _ _ _ h => h) (.inl ⟨by kernel_rfl, ?_⟩) hS6 ?_
      rotate_left
      · intro w' hw'; go_simp; try with_reducible rfl
      try simp only [Act.put, List.setIfInBounds_toArray, List.set_cons_zero, List.set_cons_succ]
      refine wpAnyH_all (rs := [9]) (by kernel_rfl) (by simp) ?_
      intro i hi; simp only [List.mem_cons, List.not_mem_nil, or_false] at hi
      subst hi
      refine wpOp_step rfl (fun K hK => ?_)
      rw [if_pos (by kernel_rfl)]
      refine wp_store_mid 33 (.tmp 6) (.tmp 20) rfl (g_r6) 0 ((dvC (.slice (some ⟨B, 0, none⟩) n cap) (dgL zs v') pr' st' tk') : List Value).toArray rfl rfl (r6.thereO 0 12 (by rw [show ([.slice none 0 0, .int .u8 0, .int .u8 0, .int .u8 0, .int .u8 0, .int .u8 0, .int .u8 0, .int .u8 0, .int .u8 0, .int .i64 0, .bool false, .int .i64 0] : List Value).length = 12 from rfl]; omega)) hID (all_oneCell_toArray (dvC_one _ _ _ _ _ _ _)) ?_
      obtain ⟨X7, hX7⟩ : ∃ X, X = World.setCells v6 (g_r6) 0 ((dvC (.slice (some ⟨B, 0, none⟩) n cap) (dgL zs v') pr' st' tk') : List Value) := ⟨_, rfl⟩
      have n6 : Row X7 g_r6 33 (dvC (.slice (some ⟨B, 0, none⟩) n cap) (dgL zs v') pr' st' tk') := by rw [hX7]; exact r6.setAll rfl
      have lg6 : (w.heap.size + 1 + 1) < g_r6 := by have := bW0.size; have := HSV.out; have := Hg_r6.out; have := l_r6; have := l_rN; omega
      replace rA : Row X7 w.heap.size 37 [.int .i8 k, .int .i64 x] := by rw [hX7]; exact rA.setCellsO (by omega) _ _
      replace rR : Row X7 (w.heap.size + 1) 33 dvZ := by rw [hX7]; exact rR.setCellsO (by omega) _ _
      replace rN : Row X7 (w.heap.size + 1 + 1) 87 ntZ := by rw [hX7]; exact rN.setCellsO (by omega) _ _
      replace rD : Row X7 D 33 (dvC (.slice (some ⟨B, 0, none⟩) n cap) (dgL zs v) pr st tk) := by rw [hX7]; exact rD.setCellsO (by omega) _ _
      have nB : Below w.heap.size w X7 := by rw [hX7]; exact below_setCellsD _ _ _ (bW0.trans (bR.mono bW0.size)) (by omega)
      have hS7 : (fun W' : World => Row W' w.heap.size 37 [.int .i8 k, .int .i64 x] ∧ Row W' D 33 (dvC (.slice (some ⟨B, 0, none⟩) n cap) (dgL zs v) pr st tk)) X7 := ⟨rA, rD⟩
      have hXX7 : World.setCells v6 (g_r6) 0 ((dvC (.slice (some ⟨B, 0, none⟩) n cap) (dgL zs v') pr' st' tk') : List Value).toArray.toList = X7 := hX7.symm
      rw [hXX7]
      refine hK _ _ ⟨hS7, ?_⟩
      try simp only [Act.put, List.setIfInBounds_toArray, List.set_cons_zero, List.set_cons_succ]
      clear hX7 hXX7 hK K hS6
      refine wpAnyH_takeD (some 7) (i := 10) (v := ?_) rfl rfl (by kernel_rfl) (by kernel_rfl) (by kernel_rfl) (fun _ _ _ h => h) (.inl ⟨by kernel_rfl, ?_⟩) hS7 ?_
      rotate_left
      · intro w' hw'; go_simp; try with_reducible rfl
      try simp only [Act.put, List.setIfInBounds_toArray, List.set_cons_zero, List.set_cons_succ]
      refine wpAnyH_takeD (some 8) (i := 11) (v := ?_) rfl rfl (by kernel_rfl) (by kernel_rfl) (by kernel_rfl) (fun _ _ _ h => h) (.inl ⟨by kernel_rfl, ?_⟩) hS7 ?_
      rotate_left
      · intro w' hw'; go_simp; try with_reducible rfl
      try simp only [Act.put, List.setIfInBounds_toArray, List.set_cons_zero, List.set_cons_succ]
      refine wpAnyH_done (by kernel_rfl) ?_ _
      clear bR bW0 sS sN r6
      have T1 := rD.thereO 0 12 (by rw [dvC_len]; omega)
      go_wp2_with (first | ((with_reducible refine wpList_load_row rfl 33 _ rfl g_r6 ?_ 33 (dvC (.slice (some ⟨B, 0, none⟩) n cap) (dgL zs v') pr' st' tk').toArray (0, 0) _ ?_ Tryd.underlying33 ?_ ?_ ?_); rfl; exact n6; rfl; exact hID) | ((with_reducible refine wpList_store_mid rfl 33 _ _ rfl D 0 (dvC (.slice (some ⟨B, 0, none⟩) n cap) (dgL zs v') pr' st' tk').toArray ?_ ?_ ?_ ?_ (all_oneCell_toArray (dvC_one _ _ _ _ _ _ _)) ?_); rfl; rfl; exact T1; exact hID))
      obtain ⟨Y7, hY7⟩ : ∃ X, X = World.setCells X7 D 0 (dvC (.slice (some ⟨B, 0, none⟩) n cap) (dgL zs v') pr' st' tk') := ⟨_, rfl⟩
      have lG : D < w.heap.size := hDl
      have nB1 := hid nB
      replace rA : Row Y7 w.heap.size 37 [.int .i8 k, .int .i64 x] := by rw [hY7]; exact rA.setCellsO (by omega) _ _
      replace rR : Row Y7 (w.heap.size + 1) 33 dvZ := by rw [hY7]; exact rR.setCellsO (by omega) _ _
      replace rN : Row Y7 (w.heap.size + 1 + 1) 87 ntZ := by rw [hY7]; exact rN.setCellsO (by omega) _ _
      replace rD : Row Y7 D 33 (dvC (.slice (some ⟨B, 0, none⟩) n cap) (dgL zs v') pr' st' tk') := by rw [hY7]; exact rD.setAll rfl
      have BD : Below D w Y7 := by rw [hY7]; exact below_setCellsD _ _ _ (nB1.out.mono (by omega)) (Nat.le_refl _)
      have K7 : ∀ q, q < w.heap.size → q ≠ D → Y7.heap[q]? = w.heap[q]? := fun q h1 h2 => by rw [hY7, other_setCellsD h2]; exact nB1.out.block q h1
      have hY7' : World.setCells X7 D 0 (dvC (.slice (some ⟨B, 0, none⟩) n cap) (dgL zs v') pr' st' tk').toArray.toList = Y7 := hY7.symm
      first | rw [hY7'] | rw [← hY7]
      have bW7 := Below.refl Y7.heap.size Y7
      clear hY7 hY7' n6 nB nB1 T1 lG
      refine wp_region_held (S := fun W' : World => Row W' w.heap.size 37 [.int .i8 k, .int .i64 x] ∧ Row W' D 33 (dvC (.slice (some ⟨B, 0, none⟩) n cap) (dgL zs v') pr' st' tk')) (by kernel_rfl) ?_
      change wpAnyH _ _ _ _ _ _ _ _ (World.drew _)
      obtain ⟨W0, hW0⟩ : ∃ X, X = World.drew (Y7) := ⟨_, rfl⟩
      have hD0 : Below (Y7).heap.size (Y7) W0 := by rw [hW0]; exact (Below.refl _ _).drew
      replace rA := rA.below hD0 rA.lt
      replace rR := rR.below hD0 rR.lt
      replace rN := rN.below hD0 rN.lt
      replace rD := rD.below hD0 rD.lt
      have bW0 := bW7.trans (hD0.mono bW7.size)
      have bR : Below W0.heap.size W0 W0 := Below.refl _ _
      rw [← hW0]
      clear hW0 hD0
      have l_rA := rA.lt
      have l_rR := rR.lt
      have l_rN := rN.lt
      have l_rD := rD.lt
      have hS0 : (fun W' : World => Row W' w.heap.size 37 [.int .i8 k, .int .i64 x] ∧ Row W' D 33 (dvC (.slice (some ⟨B, 0, none⟩) n cap) (dgL zs v') pr' st' tk')) W0 := ⟨rA, rD⟩
      refine wpAnyH_takeD (some 29) (i := 0) (v := .agg ((dvC (.slice (some ⟨B, 0, none⟩) n cap) (dgL zs v') pr' st' tk')).toArray) rfl rfl (by kernel_rfl) (by kernel_rfl) (by kernel_rfl) (fun _ _ _ h => h) (.inl ⟨by kernel_rfl, ?_⟩) hS0 ?_
      · intro w' hw'; exact exec_load_row 33 _ rfl D rfl 33 ((dvC (.slice (some ⟨B, 0, none⟩) n cap) (dgL zs v') pr' st' tk')).toArray _ (hw'.2) Tryd.underlying33 rfl hID
      try simp only [Act.put, List.setIfInBounds_toArray, List.set_cons_zero, List.set_cons_succ]
      refine wpAnyH_takeD (some 30) (i := 1) (v := ?_) rfl rfl (by kernel_rfl) (by kernel_rfl) (by kernel_rfl) (fun _ _ _ h => h) (.inl ⟨by kernel_rfl, ?_⟩) hS0 ?_
      rotate_left
      · intro w' hw'; have hrow0 := hw'.1; have e0x0 := Row.cell hrow0 0; have e0x1 := Row.cell hrow0 1; simp only [List.getElem?_cons_zero, List.getElem?_cons_succ] at e0x0 e0x1; clear hrow0; have hrD := hw'.2; have d1 : w'.cell? ⟨D, 1, none⟩ = some (.int .u8 (dg (dgL zs v') 0)) := hrD.cell 1; have d2 : w'.cell? ⟨D, 2, none⟩ = some (.int .u8 (dg (dgL zs v') 1)) := hrD.cell 2; have d3 : w'.cell? ⟨D, 3, none⟩ = some (.int .u8 (dg (dgL zs v') 2)) := hrD.cell 3; have d4 : w'.cell? ⟨D, 4, none⟩ = some (.int .u8 (dg (dgL zs v') 3)) := hrD.cell 4; have d5 : w'.cell? ⟨D, 5, none⟩ = some (.int .u8 (dg (dgL zs v') 4)) := hrD.cell 5; have d6 : w'.cell? ⟨D, 6, none⟩ = some (.int .u8 (dg (dgL zs v') 5)) := hrD.cell 6; have d7 : w'.cell? ⟨D, 7, none⟩ = some (.int .u8 (dg (dgL zs v') 6)) := hrD.cell 7; have d8 : w'.cell? ⟨D, 8, none⟩ = some (.int .u8 (dg (dgL zs v') 7)) := hrD.cell 8; clear hrD; clear hw'; go_simp; try with_reducible rfl
      try simp only [Act.put, List.setIfInBounds_toArray, List.set_cons_zero, List.set_cons_succ]
      refine wpAnyH_takeD (some 31) (i := 2) (v := ?_) rfl rfl (by kernel_rfl) (by kernel_rfl) (by kernel_rfl) (fun _ _ _ h => h) (.inl ⟨by kernel_rfl, ?_⟩) hS0 ?_
      rotate_left
      · intro w' hw'; have hrow0 := hw'.1; have e0x0 := Row.cell hrow0 0; have e0x1 := Row.cell hrow0 1; simp only [List.getElem?_cons_zero, List.getElem?_cons_succ] at e0x0 e0x1; clear hrow0; have hrD := hw'.2; have d1 : w'.cell? ⟨D, 1, none⟩ = some (.int .u8 (dg (dgL zs v') 0)) := hrD.cell 1; have d2 : w'.cell? ⟨D, 2, none⟩ = some (.int .u8 (dg (dgL zs v') 1)) := hrD.cell 2; have d3 : w'.cell? ⟨D, 3, none⟩ = some (.int .u8 (dg (dgL zs v') 2)) := hrD.cell 3; have d4 : w'.cell? ⟨D, 4, none⟩ = some (.int .u8 (dg (dgL zs v') 3)) := hrD.cell 4; have d5 : w'.cell? ⟨D, 5, none⟩ = some (.int .u8 (dg (dgL zs v') 4)) := hrD.cell 5; have d6 : w'.cell? ⟨D, 6, none⟩ = some (.int .u8 (dg (dgL zs v') 5)) := hrD.cell 6; have d7 : w'.cell? ⟨D, 7, none⟩ = some (.int .u8 (dg (dgL zs v') 6)) := hrD.cell 7; have d8 : w'.cell? ⟨D, 8, none⟩ = some (.int .u8 (dg (dgL zs v') 7)) := hrD.cell 8; clear hrD; clear hw'; go_simp; try with_reducible rfl
      try simp only [Act.put, List.setIfInBounds_toArray, List.set_cons_zero, List.set_cons_succ]
      refine wpAnyH_takeD (some 32) (i := 3) (v := ?_) rfl rfl (by kernel_rfl) (by kernel_rfl) (by kernel_rfl) (fun _ _ _ h => h) (.inl ⟨by kernel_rfl, ?_⟩) hS0 ?_
      rotate_left
      · intro w' hw'; have hrow0 := hw'.1; have e0x0 := Row.cell hrow0 0; have e0x1 := Row.cell hrow0 1; simp only [List.getElem?_cons_zero, List.getElem?_cons_succ] at e0x0 e0x1; clear hrow0; have hrD := hw'.2; have d1 : w'.cell? ⟨D, 1, none⟩ = some (.int .u8 (dg (dgL zs v') 0)) := hrD.cell 1; have d2 : w'.cell? ⟨D, 2, none⟩ = some (.int .u8 (dg (dgL zs v') 1)) := hrD.cell 2; have d3 : w'.cell? ⟨D, 3, none⟩ = some (.int .u8 (dg (dgL zs v') 2)) := hrD.cell 3; have d4 : w'.cell? ⟨D, 4, none⟩ = some (.int .u8 (dg (dgL zs v') 3)) := hrD.cell 4; have d5 : w'.cell? ⟨D, 5, none⟩ = some (.int .u8 (dg (dgL zs v') 4)) := hrD.cell 5; have d6 : w'.cell? ⟨D, 6, none⟩ = some (.int .u8 (dg (dgL zs v') 5)) := hrD.cell 6; have d7 : w'.cell? ⟨D, 7, none⟩ = some (.int .u8 (dg (dgL zs v') 6)) := hrD.cell 7; have d8 : w'.cell? ⟨D, 8, none⟩ = some (.int .u8 (dg (dgL zs v') 7)) := hrD.cell 8; clear hrD; clear hw'; go_simp; try with_reducible rfl
      try simp only [Act.put, List.setIfInBounds_toArray, List.set_cons_zero, List.set_cons_succ]
      refine wpAnyH_takeD (some 33) (i := 4) (v := ?_) rfl rfl (by kernel_rfl) (by kernel_rfl) (by kernel_rfl) (fun _ _ _ h => h) (.inl ⟨by kernel_rfl, ?_⟩) hS0 ?_
      rotate_left
      · intro w' hw'; go_simp; try with_reducible rfl
      try simp only [Act.put, List.setIfInBounds_toArray, List.set_cons_zero, List.set_cons_succ]
      refine wpAnyH_takeD (some 34) (i := 5) (v := ?_) rfl rfl (by kernel_rfl) (by kernel_rfl) (by kernel_rfl) (fun _ _ _ h => h) (.inl ⟨by kernel_rfl, ?_⟩) hS0 ?_
      rotate_left
      · intro w' hw'; go_simp; try with_reducible rfl
      try simp only [Act.put, List.setIfInBounds_toArray, List.set_cons_zero, List.set_cons_succ]
      refine wpAnyH_all (rs := [6]) (by kernel_rfl) (by simp) ?_
      intro i hi; simp only [List.mem_cons, List.not_mem_nil, or_false] at hi
      subst hi
      refine wpOp_step rfl (fun K hK => ?_)
      rw [if_pos (by kernel_rfl)]
      refine wp_store_mid 33 (.tmp 3) (.tmp 29) rfl ((w.heap.size + 1)) 0 ((dvC (.slice (some ⟨B, 0, none⟩) n cap) (dgL zs v') pr' st' tk') : List Value).toArray rfl rfl (rR.thereO 0 12 (by rw [dvZ_len]; omega)) hID (all_oneCell_toArray (dvC_one _ _ _ _ _ _ _)) ?_
      obtain ⟨X1, hX1⟩ : ∃ X, X = World.setCells W0 ((w.heap.size + 1)) 0 ((dvC (.slice (some ⟨B, 0, none⟩) n cap) (dgL zs v') pr' st' tk') : List Value) := ⟨_, rfl⟩
      have n3 : Row X1 (w.heap.size + 1) 33 (dvC (.slice (some ⟨B, 0, none⟩) n cap) (dgL zs v') pr' st' tk') := by rw [hX1]; exact rR.setAll rfl
      have lG : D < w.heap.size := hDl
      replace rA : Row X1 w.heap.size 37 [.int .i8 k, .int .i64 x] := by rw [hX1]; exact rA.setCellsO (by omega) _ _
      replace rN : Row X1 (w.heap.size + 1 + 1) 87 ntZ := by rw [hX1]; exact rN.setCellsO (by omega) _ _
      replace rD : Row X1 D 33 (dvC (.slice (some ⟨B, 0, none⟩) n cap) (dgL zs v') pr' st' tk') := by rw [hX1]; exact rD.setCellsO (by omega) _ _
      have nB : Below D w X1 := by rw [hX1]; exact below_setCellsD _ _ _ (BD.trans ((bW0.trans (bR.mono bW0.size)).mono (by have := BD.size; omega))) (by omega)
      have nK : ∀ q, q < w.heap.size → q ≠ D → X1.heap[q]? = w.heap[q]? := fun q h1 h2 => by rw [hX1, other_setCellsD (by omega)]; exact ((bW0.trans (bR.mono bW0.size)).block q (by have := BD.size; omega)).trans (K7 q h1 h2)
      clear rR
      have hS1 : (fun W' : World => Row W' w.heap.size 37 [.int .i8 k, .int .i64 x] ∧ Row W' D 33 (dvC (.slice (some ⟨B, 0, none⟩) n cap) (dgL zs v') pr' st' tk')) X1 := ⟨rA, rD⟩
      have hXX1 : World.setCells W0 ((w.heap.size + 1)) 0 ((dvC (.slice (some ⟨B, 0, none⟩) n cap) (dgL zs v') pr' st' tk') : List Value).toArray.toList = X1 := hX1.symm
      rw [hXX1]
      refine hK _ _ ⟨hS1, ?_⟩
      try simp only [Act.put, List.setIfInBounds_toArray, List.set_cons_zero, List.set_cons_succ]
      clear hX1 hXX1 hK K hS0
      refine wpAnyH_all (rs := [7]) (by kernel_rfl) (by simp) ?_
      intro i hi; simp only [List.mem_cons, List.not_mem_nil, or_false] at hi
      subst hi
      refine wpOp_step rfl (fun K hK => ?_)
      rw [if_pos (by kernel_rfl)]
      refine wp_store_mid 87 (.tmp 4) (.tmp 34) rfl ((w.heap.size + 1 + 1)) 0 ((ntC k x (dgL zs v') l) : List Value).toArray rfl rfl (rN.thereO 0 11 (by rw [ntZ_len]; omega)) hIN (all_oneCell_toArray (ntC_one _ _ _ _)) ?_
      obtain ⟨X2, hX2⟩ : ∃ X, X = World.setCells X1 ((w.heap.size + 1 + 1)) 0 ((ntC k x (dgL zs v') l) : List Value) := ⟨_, rfl⟩
      have n4 : Row X2 (w.heap.size + 1 + 1) 87 (ntC k x (dgL zs v') l) := by rw [hX2]; exact rN.setAll rfl
      replace n3 : Row X2 (w.heap.size + 1) 33 (dvC (.slice (some ⟨B, 0, none⟩) n cap) (dgL zs v') pr' st' tk') := by rw [hX2]; exact n3.setCellsO (by omega) _ _
      replace rA : Row X2 w.heap.size 37 [.int .i8 k, .int .i64 x] := by rw [hX2]; exact rA.setCellsO (by omega) _ _
      replace rD : Row X2 D 33 (dvC (.slice (some ⟨B, 0, none⟩) n cap) (dgL zs v') pr' st' tk') := by rw [hX2]; exact rD.setCellsO (by omega) _ _
      replace nB : Below D w X2 := by rw [hX2]; exact below_setCellsD _ _ _ nB (by omega)
      replace nK : ∀ q, q < w.heap.size → q ≠ D → X2.heap[q]? = w.heap[q]? := fun q h1 h2 => by rw [hX2, other_setCellsD (by omega)]; exact nK q h1 h2
      clear rN
      have hS2 : (fun W' : World => Row W' w.heap.size 37 [.int .i8 k, .int .i64 x] ∧ Row W' D 33 (dvC (.slice (some ⟨B, 0, none⟩) n cap) (dgL zs v') pr' st' tk')) X2 := ⟨rA, rD⟩
      have hXX2 : World.setCells X1 ((w.heap.size + 1 + 1)) 0 ((ntC k x (dgL zs v') l) : List Value).toArray.toList = X2 := hX2.symm
      rw [hXX2]
      refine hK _ _ ⟨hS2, ?_⟩
      try simp only [Act.put, List.setIfInBounds_toArray, List.set_cons_zero, List.set_cons_succ]
      clear hX2 hXX2 hK K hS1
      refine wpAnyH_takeD (some 5) (i := 8) (v := ?_) rfl rfl (by kernel_rfl) (by kernel_rfl) (by kernel_rfl) (fun _ _ _ h => h) (.inl ⟨by kernel_rfl, ?_⟩) hS2 ?_
      rotate_left
      · intro w' hw'; go_simp; try with_reducible rfl
      try simp only [Act.put, List.setIfInBounds_toArray, List.set_cons_zero, List.set_cons_succ]
      refine wpAnyH_done (by kernel_rfl) ?_ _
      go_wp2_with fail
      exact bodyPost_ret (v := .tuple #[.agg (dvC (.slice (some ⟨B, 0, none⟩) n cap) (dgL zs v') pr' st' tk').toArray, .agg (ntC k x (dgL zs v') l).toArray, .nilIface]) (results_ccs (p := 3) (q := 4) (r := 5) (fn := Tryd.f74) rfl _ _ _ _ _ _ _ _ _ _ _ rfl rfl rfl n3 n4 Tryd.underlying33 rfl hID Tryd.underlying87 rfl hIN) rfl ⟨rfl, rD, nB, nK⟩
  · refine wpOp_step rfl (fun K hK => ?_)
    go_simp
    have r6 := Row.new W0 33 [.slice none 0 0, .int .u8 0, .int .u8 0, .int .u8 0, .int .u8 0, .int .u8 0, .int .u8 0, .int .u8 0, .int .u8 0, .int .i64 0, .bool false, .int .i64 0]
    have hA : Below W0.heap.size W0 (W0.alloc (.cells #[.slice none 0 0, .int .u8 0, .int .u8 0, .int .u8 0, .int .u8 0, .int .u8 0, .int .u8 0, .int .u8 0, .int .u8 0, .int .i64 0, .bool false, .int .i64 0] 33)) := (Below.refl _ _).alloc (Nat.le_refl _) _
    replace rA := rA.below hA rA.lt
    replace rR := rR.below hA rR.lt
    replace rN := rN.below hA rN.lt
    replace rD := rD.below hA rD.lt
    replace sS := sS.below hA sS.1
    replace sN := sN.below hA sN.1
    have l_r6 := bR.size
    replace bR := bR.trans (hA.mono bR.size)
    have hS8 : (fun W' : World => Row W' w.heap.size 37 [.int .i8 k, .int .i64 x] ∧ Row W' D 33 (dvC (.slice (some ⟨B, 0, none⟩) n cap) (dgL zs v) pr st tk)) (W0.alloc (.cells #[.slice none 0 0, .int .u8 0, .int .u8 0, .int .u8 0, .int .u8 0, .int .u8 0, .int .u8 0, .int .u8 0, .int .u8 0, .int .i64 0, .bool false, .int .i64 0] 33)) := ⟨rA, rD⟩
    refine hK _ _ ⟨hS8, ?_⟩
    try simp only [Act.put, List.setIfInBounds_toArray, List.set_cons_zero, List.set_cons_succ]
    obtain ⟨X8, hX8⟩ : ∃ X, X = W0.alloc (.cells #[.slice none 0 0, .int .u8 0, .int .u8 0, .int .u8 0, .int .u8 0, .int .u8 0, .int .u8 0, .int .u8 0, .int .u8 0, .int .i64 0, .bool false, .int .i64 0] 33) := ⟨_, rfl⟩
    obtain ⟨g_r6, hg_r6⟩ : ∃ y, (World.heap W0).size = y := ⟨_, rfl⟩
    rw [← hX8] at rA rR rN rD sS sN r6 bR hS8 ⊢
    rw [hg_r6] at r6 l_r6 ⊢
    have Hg_r6 := hid hg_r6
    clear hX8 hA hK K hg_r6 hS0
    refine wpAnyH_all (rs := [1]) (by kernel_rfl) (by simp) ?_
    intro i hi; simp only [List.mem_cons, List.not_mem_nil, or_false] at hi
    subst hi
    refine wpOp_step rfl (fun K hK => ?_)
    go_simp
    with_reducible refine (HDE.out X8).mono ?_
    rintro e v9 ⟨rfl, hB9⟩
    replace rA := rA.below hB9 rA.lt
    replace rR := rR.below hB9 rR.lt
    replace rN := rN.below hB9 rN.lt
    replace rD := rD.below hB9 rD.lt
    replace sS := sS.below hB9 sS.1
    replace sN := sN.below hB9 sN.1
    replace r6 := r6.below hB9 r6.lt
    replace bR := bR.trans (hB9.mono bR.size)
    have hS9 : (fun W' : World => Row W' w.heap.size 37 [.int .i8 k, .int .i64 x] ∧ Row W' D 33 (dvC (.slice (some ⟨B, 0, none⟩) n cap) (dgL zs v) pr st tk)) v9 := ⟨rA, rD⟩
    refine hK _ _ ⟨hS9, ?_⟩
    try simp only [Act.put, List.setIfInBounds_toArray, List.set_cons_zero, List.set_cons_succ]
    clear hB9 hK K hS8
    refine wpAnyH_all (rs := [3]) (by kernel_rfl) (by simp) ?_
    intro i hi; simp only [List.mem_cons, List.not_mem_nil, or_false] at hi
    subst hi
    refine wpOp_step rfl (fun K hK => ?_)
    go_simp
    with_reducible refine (HCC.out v9 sS sN).mono ?_
    rintro e v10 ⟨rfl, hB10⟩
    replace rA := rA.below hB10 rA.lt
    replace rR := rR.below hB10 rR.lt
    replace rN := rN.below hB10 rN.lt
    replace rD := rD.below hB10 rD.lt
    replace sS := sS.below hB10 sS.1
    replace sN := sN.below hB10 sN.1
    replace r6 := r6.below hB10 r6.lt
    replace bR := bR.trans (hB10.mono bR.size)
    have hS10 : (fun W' : World => Row W' w.heap.size 37 [.int .i8 k, .int .i64 x] ∧ Row W' D 33 (dvC (.slice (some ⟨B, 0, none⟩) n cap) (dgL zs v) pr st tk)) v10 := ⟨rA, rD⟩
    refine hK _ _ ⟨hS10, ?_⟩
    try simp only [Act.put, List.setIfInBounds_toArray, List.set_cons_zero, List.set_cons_succ]
    clear hB10 hK K hS9
    refine wpAnyH_takeD (some 15) (i := 4) (v := ?_) rfl rfl (by kernel_rfl) (by kernel_rfl) (by kernel_rfl) (fun _ _ _ h => h) (.inl ⟨by kernel_rfl, ?_⟩) hS10 ?_
    rotate_left
    · intro w' hw'; go_simp; try with_reducible rfl
    try simp only [Act.put, List.setIfInBounds_toArray, List.set_cons_zero, List.set_cons_succ]
    refine wpAnyH_takeD (some 20) (i := 5) (v := ?_) rfl rfl (by kernel_rfl) (by kernel_rfl) (by kernel_rfl) (fun _ _ _ h => h) (.inl ⟨by kernel_rfl, ?_⟩) hS10 ?_
    rotate_left
    · intro w' hw'; go_simp; try with_reducible rfl
    try simp only [Act.put, List.setIfInBounds_toArray, List.set_cons_zero, List.set_cons_succ]
    refine wpAnyH_takeD (some 21) (i := 6) (v := ?_) rfl rfl (by kernel_rfl) (by kernel_rfl) (by kernel_rfl) (fun _ _ _ h => h) (.inl ⟨by kernel_rfl, ?_⟩) hS10 ?_
    rotate_left
    · intro w' hw'; go_simp; try with_reducible rfl
    try simp only [Act.put, List.setIfInBounds_toArray, List.set_cons_zero, List.set_cons_succ]
    refine wpAnyH_takeD (some 22) (i := 7) (v := ?_) rfl rfl (by kernel_rfl) (by kernel_rfl) (by kernel_rfl) (fun _ _ _ h => h) (.inl ⟨by kernel_rfl, ?_⟩) hS10 ?_
    rotate_left
    · intro w' hw'; go_simp; try with_reducible rfl
    try simp only [Act.put, List.setIfInBounds_toArray, List.set_cons_zero, List.set_cons_succ]
    refine wpAnyH_all (rs := [9]) (by kernel_rfl) (by simp) ?_
    intro i hi; simp only [List.mem_cons, List.not_mem_nil, or_false] at hi
    subst hi
    refine wpOp_step rfl (fun K hK => ?_)
    rw [if_pos (by kernel_rfl)]
    refine wp_store_mid 33 (.tmp 6) (.tmp 20) rfl (g_r6) 0 ((dvC (.slice (some ⟨B, 0, none⟩) n cap) (dgL zs v') pr' st' tk') : List Value).toArray rfl rfl (r6.thereO 0 12 (by rw [show ([.slice none 0 0, .int .u8 0, .int .u8 0, .int .u8 0, .int .u8 0, .int .u8 0, .int .u8 0, .int .u8 0, .int .u8 0, .int .i64 0, .bool false, .int .i64 0] : List Value).length = 12 from rfl]; omega)) hID (all_oneCell_toArray (dvC_one _ _ _ _ _ _ _)) ?_
    obtain ⟨X11, hX11⟩ : ∃ X, X = World.setCells v10 (g_r6) 0 ((dvC (.slice (some ⟨B, 0, none⟩) n cap) (dgL zs v') pr' st' tk') : List Value) := ⟨_, rfl⟩
    have n6 : Row X11 g_r6 33 (dvC (.slice (some ⟨B, 0, none⟩) n cap) (dgL zs v') pr' st' tk') := by rw [hX11]; exact r6.setAll rfl
    have lg6 : (w.heap.size + 1 + 1) < g_r6 := by have := bW0.size; have := HSV.out; have := Hg_r6.out; have := l_r6; have := l_rN; omega
    replace rA : Row X11 w.heap.size 37 [.int .i8 k, .int .i64 x] := by rw [hX11]; exact rA.setCellsO (by omega) _ _
    replace rR : Row X11 (w.heap.size + 1) 33 dvZ := by rw [hX11]; exact rR.setCellsO (by omega) _ _
    replace rN : Row X11 (w.heap.size + 1 + 1) 87 ntZ := by rw [hX11]; exact rN.setCellsO (by omega) _ _
    replace rD : Row X11 D 33 (dvC (.slice (some ⟨B, 0, none⟩) n cap) (dgL zs v) pr st tk) := by rw [hX11]; exact rD.setCellsO (by omega) _ _
    have nB : Below w.heap.size w X11 := by rw [hX11]; exact below_setCellsD _ _ _ (bW0.trans (bR.mono bW0.size)) (by omega)
    have hS11 : (fun W' : World => Row W' w.heap.size 37 [.int .i8 k, .int .i64 x] ∧ Row W' D 33 (dvC (.slice (some ⟨B, 0, none⟩) n cap) (dgL zs v) pr st tk)) X11 := ⟨rA, rD⟩
    have hXX11 : World.setCells v10 (g_r6) 0 ((dvC (.slice (some ⟨B, 0, none⟩) n cap) (dgL zs v') pr' st' tk') : List Value).toArray.toList = X11 := hX11.symm
    rw [hXX11]
    refine hK _ _ ⟨hS11, ?_⟩
    try simp only [Act.put, List.setIfInBounds_toArray, List.set_cons_zero, List.set_cons_succ]
    clear hX11 hXX11 hK K hS10
    refine wpAnyH_takeD (some 7) (i := 10) (v := ?_) rfl rfl (by kernel_rfl) (by kernel_rfl) (by kernel_rfl) (fun _ _ _ h => h) (.inl ⟨by kernel_rfl, ?_⟩) hS11 ?_
    rotate_left
    · intro w' hw'; go_simp; try with_reducible rfl
    try simp only [Act.put, List.setIfInBounds_toArray, List.set_cons_zero, List.set_cons_succ]
    refine wpAnyH_takeD (some 8) (i := 11) (v := ?_) rfl rfl (by kernel_rfl) (by kernel_rfl) (by kernel_rfl) (fun _ _ _ h => h) (.inl ⟨by kernel_rfl, ?_⟩) hS11 ?_
    rotate_left
    · intro w' hw'; go_simp; try with_reducible rfl
    try simp only [Act.put, List.setIfInBounds_toArray, List.set_cons_zero, List.set_cons_succ]
    refine wpAnyH_done (by kernel_rfl) ?_ _
    clear bR bW0 sS sN r6
    have T1 := rD.thereO 0 12 (by rw [dvC_len]; omega)
    go_wp2_with (first | ((with_reducible refine wpList_load_row rfl 33 _ rfl g_r6 ?_ 33 (dvC (.slice (some ⟨B, 0, none⟩) n cap) (dgL zs v') pr' st' tk').toArray (0, 0) _ ?_ Tryd.underlying33 ?_ ?_ ?_); rfl; exact n6; rfl; exact hID) | ((with_reducible refine wpList_store_mid rfl 33 _ _ rfl D 0 (dvC (.slice (some ⟨B, 0, none⟩) n cap) (dgL zs v') pr' st' tk').toArray ?_ ?_ ?_ ?_ (all_oneCell_toArray (dvC_one _ _ _ _ _ _ _)) ?_); rfl; rfl; exact T1; exact hID))
    obtain ⟨Y7, hY7⟩ : ∃ X, X = World.setCells X11 D 0 (dvC (.slice (some ⟨B, 0, none⟩) n cap) (dgL zs v') pr' st' tk') := ⟨_, rfl⟩
    have lG : D < w.heap.size := hDl
    have nB1 := hid nB
    replace rA : Row Y7 w.heap.size 37 [.int .i8 k, .int .i64 x] := by rw [hY7]; exact rA.setCellsO (by omega) _ _
    replace rR : Row Y7 (w.heap.size + 1) 33 dvZ := by rw [hY7]; exact rR.setCellsO (by omega) _ _
    replace rN : Row Y7 (w.heap.size + 1 + 1) 87 ntZ := by rw [hY7]; exact rN.setCellsO (by omega) _ _
    replace rD : Row Y7 D 33 (dvC (.slice (some ⟨B, 0, none⟩) n cap) (dgL zs v') pr' st' tk') := by rw [hY7]; exact rD.setAll rfl
    have BD : Below D w Y7 := by rw [hY7]; exact below_setCellsD _ _ _ (nB1.out.mono (by omega)) (Nat.le_refl _)
    have K7 : ∀ q, q < w.heap.size → q ≠ D → Y7.heap[q]? = w.heap[q]? := fun q h1 h2 => by rw [hY7, other_setCellsD h2]; exact nB1.out.block q h1
    have hY7' : World.setCells X11 D 0 (dvC (.slice (some ⟨B, 0, none⟩) n cap) (dgL zs v') pr' st' tk').toArray.toList = Y7 := hY7.symm
    first | rw [hY7'] | rw [← hY7]
    have bW7 := Below.refl Y7.heap.size Y7
    clear hY7 hY7' n6 nB nB1 T1 lG
    refine wp_region_held (S := fun W' : World => Row W' w.heap.size 37 [.int .i8 k, .int .i64 x] ∧ Row W' D 33 (dvC (.slice (some ⟨B, 0, none⟩) n cap) (dgL zs v') pr' st' tk')) (by kernel_rfl) ?_
    change wpAnyH _ _ _ _ _ _ _ _ (World.drew _)
    obtain ⟨W0, hW0⟩ : ∃ X, X = World.drew (Y7) := ⟨_, rfl⟩
    have hD0 : Below (Y7).heap.size (Y7) W0 := by rw [hW0]; exact (Below.refl _ _).drew
    replace rA := rA.below hD0 rA.lt
    replace rR := rR.below hD0 rR.lt
    replace rN := rN.below hD0 rN.lt
    replace rD := rD.below hD0 rD.lt
    have bW0 := bW7.trans (hD0.mono bW7.size)
    have bR : Below W0.heap.size W0 W0 := Below.refl _ _
    rw [← hW0]
    clear hW0 hD0
    have l_rA := rA.lt
    have l_rR := rR.lt
    have l_rN := rN.lt
    have l_rD := rD.lt
    have hS0 : (fun W' : World => Row W' w.heap.size 37 [.int .i8 k, .int .i64 x] ∧ Row W' D 33 (dvC (.slice (some ⟨B, 0, none⟩) n cap) (dgL zs v') pr' st' tk')) W0 := ⟨rA, rD⟩
    refine wpAnyH_takeD (some 29) (i := 0) (v := .agg ((dvC (.slice (some ⟨B, 0, none⟩) n cap) (dgL zs v') pr' st' tk')).toArray) rfl rfl (by kernel_rfl) (by kernel_rfl) (by kernel_rfl) (fun _ _ _ h => h) (.inl ⟨by kernel_rfl, ?_⟩) hS0 ?_
    · intro w' hw'; exact exec_load_row 33 _ rfl D rfl 33 ((dvC (.slice (some ⟨B, 0, none⟩) n cap) (dgL zs v') pr' st' tk')).toArray _ (hw'.2) Tryd.underlying33 rfl hID
    try simp only [Act.put, List.setIfInBounds_toArray, List.set_cons_zero, List.set_cons_succ]
    refine wpAnyH_takeD (some 30) (i := 1) (v := ?_) rfl rfl (by kernel_rfl) (by kernel_rfl) (by kernel_rfl) (fun _ _ _ h => h) (.inl ⟨by kernel_rfl, ?_⟩) hS0 ?_
    rotate_left
    · intro w' hw'; have hrow0 := hw'.1; have e0x0 := Row.cell hrow0 0; have e0x1 := Row.cell hrow0 1; simp only [List.getElem?_cons_zero, List.getElem?_cons_succ] at e0x0 e0x1; clear hrow0; have hrD := hw'.2; have d1 : w'.cell? ⟨D, 1, none⟩ = some (.int .u8 (dg (dgL zs v') 0)) := hrD.cell 1; have d2 : w'.cell? ⟨D, 2, none⟩ = some (.int .u8 (dg (dgL zs v') 1)) := hrD.cell 2; have d3 : w'.cell? ⟨D, 3, none⟩ = some (.int .u8 (dg (dgL zs v') 2)) := hrD.cell 3; have d4 : w'.cell? ⟨D, 4, none⟩ = some (.int .u8 (dg (dgL zs v') 3)) := hrD.cell 4; have d5 : w'.cell? ⟨D, 5, none⟩ = some (.int .u8 (dg (dgL zs v') 4)) := hrD.cell 5; have d6 : w'.cell? ⟨D, 6, none⟩ = some (.int .u8 (dg (dgL zs v') 5)) := hrD.cell 6; have d7 : w'.cell? ⟨D, 7, none⟩ = some (.int .u8 (dg (dgL zs v') 6)) := hrD.cell 7; have d8 : w'.cell? ⟨D, 8, none⟩ = some (.int .u8 (dg (dgL zs v') 7)) := hrD.cell 8; clear hrD; clear hw'; go_simp; try with_reducible rfl
    try simp only [Act.put, List.setIfInBounds_toArray, List.set_cons_zero, List.set_cons_succ]
    refine wpAnyH_takeD (some 31) (i := 2) (v := ?_) rfl rfl (by kernel_rfl) (by kernel_rfl) (by kernel_rfl) (fun _ _ _ h => h) (.inl ⟨by kernel_rfl, ?_⟩) hS0 ?_
    rotate_left
    · intro w' hw'; have hrow0 := hw'.1; have e0x0 := Row.cell hrow0 0; have e0x1 := Row.cell hrow0 1; simp only [List.getElem?_cons_zero, List.getElem?_cons_succ] at e0x0 e0x1; clear hrow0; have hrD := hw'.2; have d1 : w'.cell? ⟨D, 1, none⟩ = some (.int .u8 (dg (dgL zs v') 0)) := hrD.cell 1; have d2 : w'.cell? ⟨D, 2, none⟩ = some (.int .u8 (dg (dgL zs v') 1)) := hrD.cell 2; have d3 : w'.cell? ⟨D, 3, none⟩ = some (.int .u8 (dg (dgL zs v') 2)) := hrD.cell 3; have d4 : w'.cell? ⟨D, 4, none⟩ = some (.int .u8 (dg (dgL zs v') 3)) := hrD.cell 4; have d5 : w'.cell? ⟨D, 5, none⟩ = some (.int .u8 (dg (dgL zs v') 4)) := hrD.cell 5; have d6 : w'.cell? ⟨D, 6, none⟩ = some (.int .u8 (dg (dgL zs v') 5)) := hrD.cell 6; have d7 : w'.cell? ⟨D, 7, none⟩ = some (.int .u8 (dg (dgL zs v') 6)) := hrD.cell 7; have d8 : w'.cell? ⟨D, 8, none⟩ = some (.int .u8 (dg (dgL zs v') 7)) := hrD.cell 8; clear hrD; clear hw'; go_simp; try with_reducible rfl
    try simp only [Act.put, List.setIfInBounds_toArray, List.set_cons_zero, List.set_cons_succ]
    refine wpAnyH_takeD (some 32) (i := 3) (v := ?_) rfl rfl (by kernel_rfl) (by kernel_rfl) (by kernel_rfl) (fun _ _ _ h => h) (.inl ⟨by kernel_rfl, ?_⟩) hS0 ?_
    rotate_left
    · intro w' hw'; have hrow0 := hw'.1; have e0x0 := Row.cell hrow0 0; have e0x1 := Row.cell hrow0 1; simp only [List.getElem?_cons_zero, List.getElem?_cons_succ] at e0x0 e0x1; clear hrow0; have hrD := hw'.2; have d1 : w'.cell? ⟨D, 1, none⟩ = some (.int .u8 (dg (dgL zs v') 0)) := hrD.cell 1; have d2 : w'.cell? ⟨D, 2, none⟩ = some (.int .u8 (dg (dgL zs v') 1)) := hrD.cell 2; have d3 : w'.cell? ⟨D, 3, none⟩ = some (.int .u8 (dg (dgL zs v') 2)) := hrD.cell 3; have d4 : w'.cell? ⟨D, 4, none⟩ = some (.int .u8 (dg (dgL zs v') 3)) := hrD.cell 4; have d5 : w'.cell? ⟨D, 5, none⟩ = some (.int .u8 (dg (dgL zs v') 4)) := hrD.cell 5; have d6 : w'.cell? ⟨D, 6, none⟩ = some (.int .u8 (dg (dgL zs v') 5)) := hrD.cell 6; have d7 : w'.cell? ⟨D, 7, none⟩ = some (.int .u8 (dg (dgL zs v') 6)) := hrD.cell 7; have d8 : w'.cell? ⟨D, 8, none⟩ = some (.int .u8 (dg (dgL zs v') 7)) := hrD.cell 8; clear hrD; clear hw'; go_simp; try with_reducible rfl
    try simp only [Act.put, List.setIfInBounds_toArray, List.set_cons_zero, List.set_cons_succ]
    refine wpAnyH_takeD (some 33) (i := 4) (v := ?_) rfl rfl (by kernel_rfl) (by kernel_rfl) (by kernel_rfl) (fun _ _ _ h => h) (.inl ⟨by kernel_rfl, ?_⟩) hS0 ?_
    rotate_left
    · intro w' hw'; go_simp; try with_reducible rfl
    try simp only [Act.put, List.setIfInBounds_toArray, List.set_cons_zero, List.set_cons_succ]
    refine wpAnyH_takeD (some 34) (i := 5) (v := ?_) rfl rfl (by kernel_rfl) (by kernel_rfl) (by kernel_rfl) (fun _ _ _ h => h) (.inl ⟨by kernel_rfl, ?_⟩) hS0 ?_
    rotate_left
    · intro w' hw'; go_simp; try with_reducible rfl
    try simp only [Act.put, List.setIfInBounds_toArray, List.set_cons_zero, List.set_cons_succ]
    refine wpAnyH_all (rs := [6]) (by kernel_rfl) (by simp) ?_
    intro i hi; simp only [List.mem_cons, List.not_mem_nil, or_false] at hi
    subst hi
    refine wpOp_step rfl (fun K hK => ?_)
    rw [if_pos (by kernel_rfl)]
    refine wp_store_mid 33 (.tmp 3) (.tmp 29) rfl ((w.heap.size + 1)) 0 ((dvC (.slice (some ⟨B, 0, none⟩) n cap) (dgL zs v') pr' st' tk') : List Value).toArray rfl rfl (rR.thereO 0 12 (by rw [dvZ_len]; omega)) hID (all_oneCell_toArray (dvC_one _ _ _ _ _ _ _)) ?_
    obtain ⟨X1, hX1⟩ : ∃ X, X = World.setCells W0 ((w.heap.size + 1)) 0 ((dvC (.slice (some ⟨B, 0, none⟩) n cap) (dgL zs v') pr' st' tk') : List Value) := ⟨_, rfl⟩
    have n3 : Row X1 (w.heap.size + 1) 33 (dvC (.slice (some ⟨B, 0, none⟩) n cap) (dgL zs v') pr' st' tk') := by rw [hX1]; exact rR.setAll rfl
    have lG : D < w.heap.size := hDl
    replace rA : Row X1 w.heap.size 37 [.int .i8 k, .int .i64 x] := by rw [hX1]; exact rA.setCellsO (by omega) _ _
    replace rN : Row X1 (w.heap.size + 1 + 1) 87 ntZ := by rw [hX1]; exact rN.setCellsO (by omega) _ _
    replace rD : Row X1 D 33 (dvC (.slice (some ⟨B, 0, none⟩) n cap) (dgL zs v') pr' st' tk') := by rw [hX1]; exact rD.setCellsO (by omega) _ _
    have nB : Below D w X1 := by rw [hX1]; exact below_setCellsD _ _ _ (BD.trans ((bW0.trans (bR.mono bW0.size)).mono (by have := BD.size; omega))) (by omega)
    have nK : ∀ q, q < w.heap.size → q ≠ D → X1.heap[q]? = w.heap[q]? := fun q h1 h2 => by rw [hX1, other_setCellsD (by omega)]; exact ((bW0.trans (bR.mono bW0.size)).block q (by have := BD.size; omega)).trans (K7 q h1 h2)
    clear rR
    have hS1 : (fun W' : World => Row W' w.heap.size 37 [.int .i8 k, .int .i64 x] ∧ Row W' D 33 (dvC (.slice (some ⟨B, 0, none⟩) n cap) (dgL zs v') pr' st' tk')) X1 := ⟨rA, rD⟩
    have hXX1 : World.setCells W0 ((w.heap.size + 1)) 0 ((dvC (.slice (some ⟨B, 0, none⟩) n cap) (dgL zs v') pr' st' tk') : List Value).toArray.toList = X1 := hX1.symm
    rw [hXX1]
    refine hK _ _ ⟨hS1, ?_⟩
    try simp only [Act.put, List.setIfInBounds_toArray, List.set_cons_zero, List.set_cons_succ]
    clear hX1 hXX1 hK K hS0
    refine wpAnyH_all (rs := [7]) (by kernel_rfl) (by simp) ?_
    intro i hi; simp only [List.mem_cons, List.not_mem_nil, or_false] at hi
    subst hi
    refine wpOp_step rfl (fun K hK => ?_)
    rw [if_pos (by kernel_rfl)]
    refine wp_store_mid 87 (.tmp 4) (.tmp 34) rfl ((w.heap.size + 1 + 1)) 0 ((ntC k x (dgL zs v') l) : List Value).toArray rfl rfl (rN.thereO 0 11 (by rw [ntZ_len]; omega)) hIN (all_oneCell_toArray (ntC_one _ _ _ _)) ?_
    obtain ⟨X2, hX2⟩ : ∃ X, X = World.setCells X1 ((w.heap.size + 1 + 1)) 0 ((ntC k x (dgL zs v') l) : List Value) := ⟨_, rfl⟩
    have n4 : Row X2 (w.heap.size + 1 + 1) 87 (ntC k x (dgL zs v') l) := by rw [hX2]; exact rN.setAll rfl
    replace n3 : Row X2 (w.heap.size + 1) 33 (dvC (.slice (some ⟨B, 0, none⟩) n cap) (dgL zs v') pr' st' tk') := by rw [hX2]; exact n3.setCellsO (by omega) _ _
    replace rA : Row X2 w.heap.size 37 [.int .i8 k, .int .i64 x] := by rw [hX2]; exact rA.setCellsO (by omega) _ _
    replace rD : Row X2 D 33 (dvC (.slice (some ⟨B, 0, none⟩) n cap) (dgL zs v') pr' st' tk') := by rw [hX2]; exact rD.setCellsO (by omega) _ _
    replace nB : Below D w X2 := by rw [hX2]; exact below_setCellsD _ _ _ nB (by omega)
    replace nK : ∀ q, q < w.heap.size → q ≠ D → X2.heap[q]? = w.heap[q]? := fun q h1 h2 => by rw [hX2, other_setCellsD (by omega)]; exact nK q h1 h2
    clear rN
    have hS2 : (fun W' : World => Row W' w.heap.size 37 [.int .i8 k, .int .i64 x] ∧ Row W' D 33 (dvC (.slice (some ⟨B, 0, none⟩) n cap) (dgL zs v') pr' st' tk')) X2 := ⟨rA, rD⟩
    have hXX2 : World.setCells X1 ((w.heap.size + 1 + 1)) 0 ((ntC k x (dgL zs v') l) : List Value).toArray.toList = X2 := hX2.symm
    rw [hXX2]
    refine hK _ _ ⟨hS2, ?_⟩
    try simp only [Act.put, List.setIfInBounds_toArray, List.set_cons_zero, List.set_cons_succ]
    clear hX2 hXX2 hK K hS1
    refine wpAnyH_takeD (some 5) (i := 8) (v := ?_) rfl rfl (by kernel_rfl) (by kernel_rfl) (by kernel_rfl) (fun _ _ _ h => h) (.inl ⟨by kernel_rfl, ?_⟩) hS2 ?_
    rotate_left
    · intro w' hw'; go_simp; try with_reducible rfl
    try simp only [Act.put, List.setIfInBounds_toArray, List.set_cons_zero, List.set_cons_succ]
    refine wpAnyH_done (by kernel_rfl) ?_ _
    go_wp2_with fail
    exact bodyPost_ret (v := .tuple #[.agg (dvC (.slice (some ⟨B, 0, none⟩) n cap) (dgL zs v') pr' st' tk').toArray, .agg (ntC k x (dgL zs v') l).toArray, .nilIface]) (results_ccs (p := 3) (q := 4) (r := 5) (fn := Tryd.f74) rfl _ _ _ _ _ _ _ _ _ _ _ rfl rfl rfl n3 n4 Tryd.underlying33 rfl hID Tryd.underlying87 rfl hIN) rfl ⟨rfl, rD, nB, nK⟩
end Go.Proofs.YthifegbmpmialaaDoor

namespace Go.Proofs.YthifegbmpmialaaDoor
open Go.RowKit Go.Extern.Stop Go.Stop Go.Extern
set_option linter.unusedVariables false
set_option linter.unusedSimpArgs false
theorem Tryd.isTypeOf (v : Value) (w : World) : (Extern.ReflectliteType.typeOf #[.iface 161 v]).run Tryd.prog w = .ok (.iface 140 (.agg #[.pointer (some ⟨4, 161, none⟩)])) w := by kernel_rfl
def rcF : Array Value → Sem Value := Extern.ReflectliteType.method fun t => do Extern.Rtype.noPackHeld "Comparable" t; pure (.bool (← typeInfo t).comparable)
theorem Tryd.isComparable (w : World) : (rcF #[.agg #[.pointer (some ⟨4, 161, none⟩)]]).run Tryd.prog w = .ok (.bool true) w := by kernel_rfl
theorem Tryd.isMethodComparable (v : Value) (w : World) : (Go.method 300 140 v "Comparable").run Tryd.prog w = .ok (122, v) w := by kernel_rfl
theorem Tryd.isComp : (Tryd.prog.info? 161).map (·.comparable) = some true := by kernel_rfl
theorem Tryd.isSize : (Tryd.prog.info? 189).map (·.size) = some 1 := by kernel_rfl
theorem Tryd.noIsE (v : Value) (xT : TypeId) (w : World) : (Instr.typeAssert (.iface 161 v) xT 142 true).run Tryd.prog w = .ok (.tuple #[.nilIface, .bool false]) w := run_typeAssert_lacksB Tryd.underlying142 (by kernel_rfl) (by kernel_rfl) v xT w
theorem Tryd.noUnwrapE (v : Value) (xT : TypeId) (w : World) : (Instr.typeAssert (.iface 161 v) xT 145 true).run Tryd.prog w = .ok (.tuple #[.nilIface, .bool false]) w := run_typeAssert_lacksB Tryd.underlying145 (by kernel_rfl) (by kernel_rfl) v xT w
theorem Tryd.noUnwrapsE (v : Value) (xT : TypeId) (w : World) : (Instr.typeAssert (.iface 161 v) xT 147 true).run Tryd.prog w = .ok (.tuple #[.nilIface, .bool false]) w := run_typeAssert_lacksB Tryd.underlying147 (by kernel_rfl) (by kernel_rfl) v xT w
theorem is_same (a : Addr) (w : World) : Calls Tryd.prog 69 #[ES a, ES a] w fun e w' => e = .returned (.bool true) ∧ w' = w := by
  unfold ES
  obtain ⟨i, hi, hcmp⟩ := Option.map_eq_some_iff.1 Tryd.isComp
  obtain ⟨j, hj, hjs⟩ := Option.map_eq_some_iff.1 Tryd.isSize
  have h8 := @run_callFunc_extern Tryd.prog 84 _ Extern.ReflectliteType.typeOf Tryd.func84 (by kernel_rfl) (by kernel_rfl) (by kernel_rfl) (by kernel_rfl)
  have h32 := @run_callFunc_extern Tryd.prog 122 _ rcF Tryd.func122 (by kernel_rfl) (by kernel_rfl) (by kernel_rfl) (by kernel_rfl)
  have tT := Tryd.isTypeOf
  have cT := Tryd.isComparable
  have mR := Tryd.isMethodComparable
  have heq := run_eql_iface_ptr_same (P := Tryd.prog) w a Tryd.underlying91 Tryd.underlying161 hi hcmp hj
  go_enter Tryd.func69, Tryd.ntmps69
  go_wp2
  refine wp_loop_rounds 1 ?_
  rw [rounds_succ]
  go_wp2
  go_ret
  exact ⟨rfl, rfl⟩
theorem is_nil (b : Addr) (w : World) : Calls Tryd.prog 69 #[.nilIface, ES b] w fun e w' => e = .returned (.bool false) ∧ w' = w := by
  unfold ES
  have hn := run_eql_iface_nil_left (P := Tryd.prog) w 161 (.pointer (some b)) Tryd.underlying91
  go_enter Tryd.func69, Tryd.ntmps69
  go_wp2
  go_ret
  exact ⟨rfl, rfl⟩
theorem is_other (a b : Addr) (w : World) (hne : a ≠ b) (ha' : ∃ c t, w.heap[a.block]? = some (.cells c t (0, 0))) (hb' : ∃ c t, w.heap[b.block]? = some (.cells c t (0, 0))) : Calls Tryd.prog 69 #[ES a, ES b] w fun e w' => e = .returned (.bool false) ∧ w' = w := by
  unfold ES
  obtain ⟨ca, ta, ha⟩ := ha'
  obtain ⟨cb, tb, hb⟩ := hb'
  obtain ⟨i, hi, hcmp⟩ := Option.map_eq_some_iff.1 Tryd.isComp
  obtain ⟨j, hj, hjs⟩ := Option.map_eq_some_iff.1 Tryd.isSize
  have h8 := @run_callFunc_extern Tryd.prog 84 _ Extern.ReflectliteType.typeOf Tryd.func84 (by kernel_rfl) (by kernel_rfl) (by kernel_rfl) (by kernel_rfl)
  have h32 := @run_callFunc_extern Tryd.prog 122 _ rcF Tryd.func122 (by kernel_rfl) (by kernel_rfl) (by kernel_rfl) (by kernel_rfl)
  have tT := Tryd.isTypeOf
  have cT := Tryd.isComparable
  have mR := Tryd.isMethodComparable
  have nE := Tryd.noIsE
  have uE := Tryd.noUnwrapE
  have vE := Tryd.noUnwrapsE
  have heq := run_eql_iface_ptr_other (P := Tryd.prog) w Tryd.underlying91 Tryd.underlying161 hi hcmp hj (by rw [hjs]; decide) hne ha hb
  go_enter Tryd.func69, Tryd.ntmps69
  go_wp2
  refine wp_loop_rounds 1 ?_
  rw [rounds_succ]
  go_wp2
  go_ret
  exact ⟨rfl, rfl⟩
/-- the error of a code: 0 none, 1 invalid, 2 range, 3 limit, 4 state -/
def errV (c : Int) (a0 a1 a2 a3 : Addr) : Value := if c = 0 then .nilIface else if c = 1 then ES a0 else if c = 2 then ES a2 else if c = 3 then ES a1 else ES a3
set_option maxRecDepth 100000 in
set_option maxHeartbeats 4000000 in
theorem code_0 (a0 a1 a2 a3 : Addr) (w : World) (hSN : SN w a0 a1 a2 a3) : Calls Tryd.prog 53 #[.nilIface] w fun e w' => e = .returned (.int .i64 0) ∧ w = w' := by
  obtain ⟨_, ⟨c0, c1, c2, c3⟩, ⟨d01, d02, d03, d12, d13, d23⟩, b0, b1, b2, b3⟩ := hSN
  have I0 := hid (is_nil a0 w)
  have I1 := hid (is_nil a1 w)
  have I2 := hid (is_nil a2 w)
  have I3 := hid (is_nil a3 w)
  clear b0 b1 b2 b3 d01 d02 d03 d12 d13 d23
  go_enter Tryd.func53, Tryd.ntmps53
  go_wp2_with fail
  refine I0.out.mono ?_
  rintro e w1 ⟨rfl, rfl⟩
  go_wp2_with fail
  refine I1.out.mono ?_
  rintro e w1 ⟨rfl, rfl⟩
  go_wp2_with fail
  refine I2.out.mono ?_
  rintro e w1 ⟨rfl, rfl⟩
  go_wp2_with fail
  refine I3.out.mono ?_
  rintro e w1 ⟨rfl, rfl⟩
  go_wp2_with fail
  go_ret
  exact ⟨rfl, rfl⟩
set_option maxRecDepth 100000 in
set_option maxHeartbeats 4000000 in
theorem code_1 (a0 a1 a2 a3 : Addr) (w : World) (hSN : SN w a0 a1 a2 a3) : Calls Tryd.prog 53 #[(ES a0)] w fun e w' => e = .returned (.int .i64 1) ∧ w = w' := by
  obtain ⟨_, ⟨c0, c1, c2, c3⟩, ⟨d01, d02, d03, d12, d13, d23⟩, b0, b1, b2, b3⟩ := hSN
  have I0 := hid (is_same a0 w)
  clear b0 b1 b2 b3 d01 d02 d03 d12 d13 d23
  go_enter Tryd.func53, Tryd.ntmps53
  go_wp2_with fail
  refine I0.out.mono ?_
  rintro e w1 ⟨rfl, rfl⟩
  go_wp2_with fail
  go_ret
  exact ⟨rfl, rfl⟩
set_option maxRecDepth 100000 in
set_option maxHeartbeats 4000000 in
theorem code_3 (a0 a1 a2 a3 : Addr) (w : World) (hSN : SN w a0 a1 a2 a3) : Calls Tryd.prog 53 #[(ES a1)] w fun e w' => e = .returned (.int .i64 3) ∧ w = w' := by
  obtain ⟨_, ⟨c0, c1, c2, c3⟩, ⟨d01, d02, d03, d12, d13, d23⟩, b0, b1, b2, b3⟩ := hSN
  have I0 := hid (is_other a1 a0 w (Ne.symm d01) b1 b0)
  have I1 := hid (is_same a1 w)
  clear b0 b1 b2 b3 d01 d02 d03 d12 d13 d23
  go_enter Tryd.func53, Tryd.ntmps53
  go_wp2_with fail
  refine I0.out.mono ?_
  rintro e w1 ⟨rfl, rfl⟩
  go_wp2_with fail
  refine I1.out.mono ?_
  rintro e w1 ⟨rfl, rfl⟩
  go_wp2_with fail
  go_ret
  exact ⟨rfl, rfl⟩
set_option maxRecDepth 100000 in
set_option maxHeartbeats 4000000 in
theorem code_2 (a0 a1 a2 a3 : Addr) (w : World) (hSN : SN w a0 a1 a2 a3) : Calls Tryd.prog 53 #[(ES a2)] w fun e w' => e = .returned (.int .i64 2) ∧ w = w' := by
  obtain ⟨_, ⟨c0, c1, c2, c3⟩, ⟨d01, d02, d03, d12, d13, d23⟩, b0, b1, b2, b3⟩ := hSN
  have I0 := hid (is_other a2 a0 w (Ne.symm d02) b2 b0)
  have I1 := hid (is_other a2 a1 w (Ne.symm d12) b2 b1)
  have I2 := hid (is_same a2 w)
  clear b0 b1 b2 b3 d01 d02 d03 d12 d13 d23
  go_enter Tryd.func53, Tryd.ntmps53
  go_wp2_with fail
  refine I0.out.mono ?_
  rintro e w1 ⟨rfl, rfl⟩
  go_wp2_with fail
  refine I1.out.mono ?_
  rintro e w1 ⟨rfl, rfl⟩
  go_wp2_with fail
  refine I2.out.mono ?_
  rintro e w1 ⟨rfl, rfl⟩
  go_wp2_with fail
  go_ret
  exact ⟨rfl, rfl⟩
set_option maxRecDepth 100000 in
set_option maxHeartbeats 4000000 in
theorem code_4 (a0 a1 a2 a3 : Addr) (w : World) (hSN : SN w a0 a1 a2 a3) : Calls Tryd.prog 53 #[(ES a3)] w fun e w' => e = .returned (.int .i64 4) ∧ w = w' := by
  obtain ⟨_, ⟨c0, c1, c2, c3⟩, ⟨d01, d02, d03, d12, d13, d23⟩, b0, b1, b2, b3⟩ := hSN
  have I0 := hid (is_other a3 a0 w (Ne.symm d03) b3 b0)
  have I1 := hid (is_other a3 a1 w (Ne.symm d13) b3 b1)
  have I2 := hid (is_other a3 a2 w (Ne.symm d23) b3 b2)
  have I3 := hid (is_same a3 w)
  clear b0 b1 b2 b3 d01 d02 d03 d12 d13 d23
  go_enter Tryd.func53, Tryd.ntmps53
  go_wp2_with fail
  refine I0.out.mono ?_
  rintro e w1 ⟨rfl, rfl⟩
  go_wp2_with fail
  refine I1.out.mono ?_
  rintro e w1 ⟨rfl, rfl⟩
  go_wp2_with fail
  refine I2.out.mono ?_
  rintro e w1 ⟨rfl, rfl⟩
  go_wp2_with fail
  refine I3.out.mono ?_
  rintro e w1 ⟨rfl, rfl⟩
  go_wp2_with fail
  go_ret
  exact ⟨rfl, rfl⟩
theorem codeBehind_any (c : Int) (hc : c = 0 ∨ c = 1 ∨ c = 2 ∨ c = 3 ∨ c = 4) (a0 a1 a2 a3 : Addr) (w : World) (hSN : SN w a0 a1 a2 a3) : Calls Tryd.prog 53 #[errV c a0 a1 a2 a3] w fun e w' => e = .returned (.int .i64 c) ∧ w = w' := by
  rcases hc with rfl | rfl | rfl | rfl | rfl
  · exact code_0 a0 a1 a2 a3 w hSN
  · exact code_1 a0 a1 a2 a3 w hSN
  · exact code_2 a0 a1 a2 a3 w hSN
  · exact code_3 a0 a1 a2 a3 w hSN
  · exact code_4 a0 a1 a2 a3 w hSN
end Go.Proofs.YthifegbmpmialaaDoor

namespace Go.Proofs.YthifegbmpmialaaDoor
open Go.RowKit
set_option linter.unusedVariables false
set_option linter.unusedSimpArgs false
set_option maxHeartbeats 400000 in
/-- laws.toStack at an argument with elements: a new block holds them. -/
theorem toStackR_some (b off len cap : Nat) (zs : List Int) (hl : len ≤ 1048576) (hz : len ≤ zs.length) (hb : ∀ z ∈ zs, 0 ≤ z ∧ z ≤ 255) (w : World) (hbs : b < w.heap.size) (hc : ∀ j, j < len → w.cell? ⟨b, off + j, none⟩ = some (.int .u8 (zs[j]?.getD 0))) :
    Calls Tryd.prog 45 #[.slice (some ⟨b, off, none⟩) len cap] w fun e w' => e = .returned (.slice (some ⟨w.heap.size, 0, none⟩) len len) ∧ Below w.heap.size w w' ∧ Row w' w.heap.size 5 ((zs.take len).map (Value.int .u8)) ∧ w.heap.size < w'.heap.size := by
  obtain ⟨i0, hi, hz0, hz1, hz2⟩ := info_parts Tryd.infoU8
  go_enter Tryd.func45, Tryd.ntmps45
  go_wp2_with (at_make; refine wpList_make_full _ rfl _ _ 30 rfl w.heap.size 5 i0 (.int .u8 0) 1 Tryd.underlying30 hi hz0 hz1 .i64 .i64 _ _ len rfl rfl rfl rfl (by rw [hz2]; omega) (by unfold maxLen; omega) (Nat.le_refl _) ?_; intro w1 hown hgrow)
  have hrow := Row.of_owns hown rfl
  rw [show (madeCells (Value.int .u8 0).cells (len * 1)).toList = cpy zs len 0 from by rw [cpy_zero, Nat.mul_one]; exact toList_madeCells_one _ _] at hrow
  have hB1 : Below w.heap.size w w1 := (Below.refl _ w).grown hgrow (Nat.le_refl _) (fun k e => by cases e)
  clear hown hgrow
  go_wp2
  go_loopw [4] (fun i wr => ∃ k : Nat, k ≤ len ∧ i = .int .i64 k ∧ Row wr w.heap.size 5 (cpy zs len k) ∧ Below w.heap.size w wr) (fun i _ => len - (intOf i).toNat)
  case atStart => exact ⟨0, Nat.zero_le _, rfl, hrow, hB1⟩
  case round =>
    clear hrow hB1
    obtain ⟨k, hk, rfl, hrow, hB⟩ := hrel
    by_cases hlt : k < len
    · have hcx : wr.cell? ⟨b, off + k, none⟩ = some (.int .u8 (zs[k]?.getD 0)) := (hB.cell (p := ⟨b, off + k, none⟩) hbs).trans (hc k hlt)
      have hfz := hrow.frozen k
      have hlen := cpy_len zs len k hk hz
      obtain ⟨old, hold⟩ : ∃ v, wr.cell? ⟨w.heap.size, k, none⟩ = some v := ⟨_, (hrow.cell k).trans (List.getElem?_eq_getElem (by omega))⟩
      have hR2 := hrow.set k (.int .u8 (zs[k]?.getD 0))
      rw [cpy_set zs len k hlt hz] at hR2
      have hB2 : Below w.heap.size w (wr.setCell ⟨w.heap.size, k, none⟩ (.int .u8 (zs[k]?.getD 0))) := hB.setCell (p := ⟨w.heap.size, k, none⟩) (Nat.le_refl _) _
      clear hlen
      go_wp2
      go_roundw
      case rel => exact ⟨k + 1, by omega, by go_num, hR2, hB2⟩
      case measure => simp [intOf]; omega
    · obtain rfl : k = len := by omega
      rw [cpy_all] at hrow
      go_wp2
      go_ret
      exact ⟨rfl, hB, hrow, hrow.lt⟩
set_option maxHeartbeats 400000 in
/-- .. at an argument without elements: a new block without cells. -/
theorem toStackR_none (a : Option Addr) (cap : Nat) (w : World) :
    Calls Tryd.prog 45 #[.slice a 0 cap] w fun e w' => e = .returned (.slice (some ⟨w.heap.size, 0, none⟩) 0 0) ∧ Below w.heap.size w w' ∧ Row w' w.heap.size 5 (([] : List Int).map (Value.int .u8)) ∧ w.heap.size < w'.heap.size := by
  obtain ⟨i0, hi, hz0, hz1, hz2⟩ := info_parts Tryd.infoU8
  go_enter Tryd.func45, Tryd.ntmps45
  go_wp2_with (at_make; refine wpList_make_full _ rfl _ _ 30 rfl w.heap.size 5 i0 (.int .u8 0) 1 Tryd.underlying30 hi hz0 hz1 .i64 .i64 _ _ 0 rfl rfl rfl rfl (by rw [hz2]; omega) (by unfold maxLen; omega) (Nat.le_refl _) ?_; intro w1 hown hgrow)
  have hrow := Row.of_owns hown rfl
  have hB : Below w.heap.size w w1 := (Below.refl _ w).grown hgrow (Nat.le_refl _) (fun k e => by cases e)
  clear hown hgrow
  go_wp2
  refine wp_loop_rounds 1 ?_
  rw [rounds_succ]
  go_wp2
  go_ret
  exact ⟨rfl, hB, by simpa [madeCells] using hrow, hrow.lt⟩

/-- laws.toStack at whatever argument. -/
theorem toStackR_any (a : Option Addr) (len cap : Nat) (zs : List Int) (w : World) (h : InB w a len zs) (hl : len ≤ 1048576) :
    Calls Tryd.prog 45 #[.slice a len cap] w fun e w' => e = .returned (.slice (some ⟨w.heap.size, 0, none⟩) len len) ∧ Below w.heap.size w w' ∧ Row w' w.heap.size 5 (zs.map (Value.int .u8)) ∧ w.heap.size < w'.heap.size := by
  by_cases h0 : len = 0
  · have hz := h.1
    subst h0
    obtain rfl : zs = [] := List.length_eq_zero_iff.1 hz
    exact toStackR_none a cap w
  · rcases h.2.2 with h0' | ⟨b, off, rfl, hb, hc⟩
    · exact absurd h0' h0
    · have := toStackR_some b off len cap zs hl (by rw [h.1]; exact Nat.le_refl _) h.2.1 w hb hc
      rwa [List.take_of_length_le (by rw [h.1]; exact Nat.le_refl _)] at this

/-- one block alone has been written over -/
def OnlyB (g : Nat) (w w' : World) : Prop := w'.heap.size = w.heap.size ∧ (∀ q, q ≠ g → w'.heap[q]? = w.heap[q]?) ∧ Below g w w'
theorem OnlyB.refl (g : Nat) (w : World) : OnlyB g w w := ⟨rfl, fun _ _ => rfl, Below.refl _ _⟩
theorem OnlyB.set {g : Nat} {w w' : World} (h : OnlyB g w w') (j : Nat) (u : Value) : OnlyB g w (w'.setCell ⟨g, j, none⟩ u) :=
  ⟨by simpa using h.1, fun q hq => (Below.heap_setCell w' ⟨g, j, none⟩ u q (fun e => hq e)).trans (h.2.1 q hq), h.2.2.setCell (p := ⟨g, j, none⟩) (Nat.le_refl _) _⟩
theorem OnlyB.row {g q : Nat} {w w' : World} {e : TypeId} {xs : List Value} (h : OnlyB g w w') (r : Row w q e xs) (hq : q ≠ g) : Row w' q e xs := (h.2.1 q hq).trans r
set_option maxHeartbeats 1000000 in
theorem markStack_any (g n cap : Nat) (xs : List Value) (hx : xs.length = n) (hn : n ≤ 1048576) (w : World) (hR : Row w g 5 xs) :
    Calls Tryd.prog 49 #[.slice (some ⟨g, 0, none⟩) n cap, .int .i64 1] w fun e w' => e = .returned (.int .i64 (1 + (n : Int))) ∧ OnlyB g w w' := by
  go_enter Tryd.func49, Tryd.ntmps49
  go_wp2_with fail
  go_loopw [1, 5] (fun m i wr => ∃ (k : Nat) (ys : List Value), k ≤ n ∧ i = .int .i64 k ∧ m = .int .i64 (1 + (k : Int)) ∧ ys.length = n ∧ Row wr g 5 ys ∧ OnlyB g w wr) (fun _ i _ => n - (intOf i).toNat)
  case atStart => exact ⟨0, xs, Nat.zero_le _, rfl, rfl, hx, hR, OnlyB.refl _ _⟩
  case round =>
    clear hR hx
    obtain ⟨k, ys, hk, rfl, rfl, hy, hrow, hO⟩ := hrel
    by_cases hlt : k < n
    · have hlt' : (k : Int) < (n : Int) := by omega
      have hk0 : (0 : Int) ≤ (k : Int) := by omega
      have hfz := hrow.frozen k
      obtain ⟨old, hold⟩ : ∃ u, wr.cell? ⟨g, k, none⟩ = some u := ⟨_, (hrow.cell k).trans (List.getElem?_eq_getElem (by omega))⟩
      have R3 := hid (fun u => hrow.set k u)
      have O3 := hid (fun u => hO.set k u)
      have HY := hid hy
      clear hrow hO hy
      go_wp2_with fail
      go_roundw
      case rel => exact ⟨k + 1, _, by omega, by go_num, by first | go_num | (congr 1; done) | (congr 1; omega), by rw [List.length_set]; exact HY.out, R3.out _, O3.out _⟩
      case measure => simp [intOf]; omega
    · obtain rfl : k = n := by omega
      have O3 := hid hO
      clear hrow hO hy
      go_wp2_with fail
      go_ret
      exact ⟨rfl, O3.out⟩
/-- a copy of a device, its stack's block whole -/
def DeW (w : World) (zs : List Int) (len : Nat) (d0 d1 d2 d3 d4 d5 d6 d7 : Int) (pr : Int) (st : Bool) (tk : Int) (e : Ending) (w' : World) : Prop :=
  ∃ B, e = .returned (.agg #[.slice (some ⟨B, 0, none⟩) len len, .int .u8 d0, .int .u8 d1, .int .u8 d2, .int .u8 d3, .int .u8 d4, .int .u8 d5, .int .u8 d6, .int .u8 d7, .int .i64 pr, .bool st, .int .i64 tk]) ∧ Below w.heap.size w w' ∧ Row w' B 5 (zs.map (Value.int .u8)) ∧ w.heap.size ≤ B
set_option maxRecDepth 100000 in
set_option maxHeartbeats 4000000 in
theorem toDeviceR_any (a : Option Addr) (len cap : Nat) (zs : List Int) (d0 d1 d2 d3 d4 d5 d6 d7 : Int) (pr : Int) (st : Bool) (tk : Int) (w : World) (h : InB w a len zs) (hl : len ≤ 1048576) :
    Calls Tryd.prog 11 #[.agg #[.slice a len cap, .int .u8 d0, .int .u8 d1, .int .u8 d2, .int .u8 d3, .int .u8 d4, .int .u8 d5, .int .u8 d6, .int .u8 d7, .int .i64 pr, .bool st, .int .i64 tk]] w (DeW w zs len d0 d1 d2 d3 d4 d5 d6 d7 pr st tk) := by
  obtain ⟨U, hU⟩ : ∃ U, U = (((w.alloc (.cells #[.slice a len cap, .int .u8 d0, .int .u8 d1, .int .u8 d2, .int .u8 d3, .int .u8 d4, .int .u8 d5, .int .u8 d6, .int .u8 d7, .int .i64 pr, .bool st, .int .i64 tk] 25)).alloc (.cells #[.slice none 0 0, .int .u8 0, .int .u8 0, .int .u8 0, .int .u8 0, .int .u8 0, .int .u8 0, .int .u8 0, .int .u8 0, .int .i64 0, .bool false, .int .i64 0] 33)).alloc (.cells #[.slice none 0 0, .int .u8 0, .int .u8 0, .int .u8 0, .int .u8 0, .int .u8 0, .int .u8 0, .int .u8 0, .int .u8 0, .int .i64 0, .bool false, .int .i64 0] 33)) := ⟨_, rfl⟩
  have bel : Below w.heap.size w U := by rw [hU]; exact (((Below.refl _ w).alloc (Nat.le_refl _) _).alloc (by simp) _).alloc (by simp; omega) _
  have rA : Row U w.heap.size 25 [.slice a len cap, .int .u8 d0, .int .u8 d1, .int .u8 d2, .int .u8 d3, .int .u8 d4, .int .u8 d5, .int .u8 d6, .int .u8 d7, .int .i64 pr, .bool st, .int .i64 tk] := by rw [hU]; exact ((Row.new w _ _).alloc _).alloc _
  have r1 : Row U (w.heap.size + 1) 33 [.slice none 0 0, .int .u8 0, .int .u8 0, .int .u8 0, .int .u8 0, .int .u8 0, .int .u8 0, .int .u8 0, .int .u8 0, .int .i64 0, .bool false, .int .i64 0] := by
    have h := (Row.new (w.alloc (.cells #[.slice a len cap, .int .u8 d0, .int .u8 d1, .int .u8 d2, .int .u8 d3, .int .u8 d4, .int .u8 d5, .int .u8 d6, .int .u8 d7, .int .i64 pr, .bool st, .int .i64 tk] 25)) 33 [.slice none 0 0, .int .u8 0, .int .u8 0, .int .u8 0, .int .u8 0, .int .u8 0, .int .u8 0, .int .u8 0, .int .u8 0, .int .i64 0, .bool false, .int .i64 0]).alloc (.cells #[.slice none 0 0, .int .u8 0, .int .u8 0, .int .u8 0, .int .u8 0, .int .u8 0, .int .u8 0, .int .u8 0, .int .u8 0, .int .i64 0, .bool false, .int .i64 0] 33)
    simp only [World.size_alloc] at h
    rw [hU]; exact h
  have r2 : Row U (w.heap.size + 1 + 1) 33 [.slice none 0 0, .int .u8 0, .int .u8 0, .int .u8 0, .int .u8 0, .int .u8 0, .int .u8 0, .int .u8 0, .int .u8 0, .int .i64 0, .bool false, .int .i64 0] := by
    have h := Row.new ((w.alloc (.cells #[.slice a len cap, .int .u8 d0, .int .u8 d1, .int .u8 d2, .int .u8 d3, .int .u8 d4, .int .u8 d5, .int .u8 d6, .int .u8 d7, .int .i64 pr, .bool st, .int .i64 tk] 25)).alloc (.cells #[.slice none 0 0, .int .u8 0, .int .u8 0, .int .u8 0, .int .u8 0, .int .u8 0, .int .u8 0, .int .u8 0, .int .u8 0, .int .i64 0, .bool false, .int .i64 0] 33)) 33 [.slice none 0 0, .int .u8 0, .int .u8 0, .int .u8 0, .int .u8 0, .int .u8 0, .int .u8 0, .int .u8 0, .int .u8 0, .int .i64 0, .bool false, .int .i64 0]
    simp only [World.size_alloc] at h
    rw [hU]; exact h
  have sU : U.heap.size = w.heap.size + 1 + 1 + 1 := by rw [hU]; simp
  have HU := hid hU
  have RA := hid rA
  have R1 := hid r1
  have R2 := hid r2
  have SU := hid sU
  have BE := hid bel
  have hI := hid (h.below bel (Nat.le_refl _))
  clear h r1 r2 rA bel sU hU
  go_enter Tryd.func11, Tryd.ntmps11
  go_wp2_with fail
  rw [← HU.out]
  refine (toStackR_any a len cap zs _ hI.out hl).mono ?_
  rintro e w1 ⟨rfl, hB1, hS1, hz1⟩
  rw [SU.out] at hB1 hS1 hz1 ⊢
  have q1 := R1.out.below hB1 (by omega)
  have q2 := R2.out.below hB1 (by omega)
  have qa := RA.out.below hB1 (by omega)
  have hbs : Below w.heap.size w w1 := BE.out.trans (hB1.mono (by omega))
  have HS := hid hS1
  obtain ⟨V0, hV0⟩ : ∃ V, V = w1.setCell ⟨w.heap.size + 1 + 1, 0, none⟩ (.slice (some ⟨w.heap.size + 1 + 1 + 1, 0, none⟩) len len) := ⟨_, rfl⟩
  have ne1 : w.heap.size + 1 + 1 ≠ w.heap.size + 1 := by omega
  have nea : w.heap.size + 1 + 1 ≠ w.heap.size := by omega
  have Q1 := hid (show Row V0 (w.heap.size + 1) 33 [.slice none 0 0, .int .u8 0, .int .u8 0, .int .u8 0, .int .u8 0, .int .u8 0, .int .u8 0, .int .u8 0, .int .u8 0, .int .i64 0, .bool false, .int .i64 0] by rw [hV0]; exact q1.other ne1 _)
  have Q2 := hid (show Row V0 (w.heap.size + 1 + 1) 33 [.slice (some ⟨w.heap.size + 1 + 1 + 1, 0, none⟩) len len, .int .u8 0, .int .u8 0, .int .u8 0, .int .u8 0, .int .u8 0, .int .u8 0, .int .u8 0, .int .u8 0, .int .i64 0, .bool false, .int .i64 0] by rw [hV0]; exact q2.set 0 _)
  have QA0 := (show Row V0 w.heap.size 25 [.slice a len cap, .int .u8 d0, .int .u8 d1, .int .u8 d2, .int .u8 d3, .int .u8 d4, .int .u8 d5, .int .u8 d6, .int .u8 d7, .int .i64 pr, .bool st, .int .i64 tk] by rw [hV0]; exact qa.other nea _)
  have QA := hid QA0
  have B0 := hid (show Below w.heap.size w V0 by rw [hV0]; exact hbs.setCell (p := ⟨w.heap.size + 1 + 1, 0, none⟩) (by show w.heap.size ≤ w.heap.size + 1 + 1; omega) _)
  have S0 := hid (show Row V0 (w.heap.size + 1 + 1 + 1) 5 (zs.map (Value.int .u8)) by rw [hV0]; exact HS.out.other (by show w.heap.size + 1 + 1 ≠ w.heap.size + 1 + 1 + 1; omega) _)
  have Z0 := hid (show V0.heap.size = w1.heap.size by rw [hV0]; simp)
  have HV0 := hid hV0
  have k0 := q2.cell 0
  have f0 := q2.frozen 0
  simp only [List.getElem?_cons_zero] at k0
  have p1 := QA0.cell 1; have p2 := QA0.cell 2; have p3 := QA0.cell 3; have p4 := QA0.cell 4; have p5 := QA0.cell 5; have p6 := QA0.cell 6; have p7 := QA0.cell 7; have p8 := QA0.cell 8
  simp only [List.getElem?_cons_zero, List.getElem?_cons_succ] at p1 p2 p3 p4 p5 p6 p7 p8
  clear q1 q2 qa hB1 hS1 hbs QA0
  go_upto_region 3 with fail
  rw [← HV0.out]
  clear k0 f0 hV0
  go_wp2_with fail
  refine (toDigits_any d0 d1 d2 d3 d4 d5 d6 d7 _).mono ?_
  rintro e w2 ⟨rfl, hB2⟩
  have hz2 := hB2.size
  rw [Z0.out] at hz2
  have q1 := Q1.out.below hB2 (by rw [Z0.out]; omega)
  have q2 := Q2.out.below hB2 (by rw [Z0.out]; omega)
  have qa := QA.out.below hB2 (by rw [Z0.out]; omega)
  have HB := hid (B0.out.trans (hB2.mono (by rw [Z0.out]; omega)))
  have HS2 := hid (S0.out.below hB2 S0.out.lt)
  obtain ⟨V, hV⟩ : ∃ V, V = (((((((((((w2.setCell ⟨w.heap.size + 1 + 1, 1, none⟩ (.int .u8 d0)).setCell ⟨w.heap.size + 1 + 1, 2, none⟩ (.int .u8 d1)).setCell ⟨w.heap.size + 1 + 1, 3, none⟩ (.int .u8 d2)).setCell ⟨w.heap.size + 1 + 1, 4, none⟩ (.int .u8 d3)).setCell ⟨w.heap.size + 1 + 1, 5, none⟩ (.int .u8 d4)).setCell ⟨w.heap.size + 1 + 1, 6, none⟩ (.int .u8 d5)).setCell ⟨w.heap.size + 1 + 1, 7, none⟩ (.int .u8 d6)).setCell ⟨w.heap.size + 1 + 1, 8, none⟩ (.int .u8 d7)).setCell ⟨w.heap.size + 1 + 1, 9, none⟩ (.int .i64 pr)).setCell ⟨w.heap.size + 1 + 1, 10, none⟩ (.bool st)).setCell ⟨w.heap.size + 1 + 1, 11, none⟩ (.int .i64 tk)) := ⟨_, rfl⟩
  have rV : Row V (w.heap.size + 1 + 1) 33 [.slice (some ⟨w.heap.size + 1 + 1 + 1, 0, none⟩) len len, .int .u8 d0, .int .u8 d1, .int .u8 d2, .int .u8 d3, .int .u8 d4, .int .u8 d5, .int .u8 d6, .int .u8 d7, .int .i64 pr, .bool st, .int .i64 tk] := by rw [hV]; exact (((((((((((q2.set 1 _).set 2 _).set 3 _).set 4 _).set 5 _).set 6 _).set 7 _).set 8 _).set 9 _).set 10 _).set 11 _)
  have rV1 : Row V (w.heap.size + 1) 33 [.slice none 0 0, .int .u8 0, .int .u8 0, .int .u8 0, .int .u8 0, .int .u8 0, .int .u8 0, .int .u8 0, .int .u8 0, .int .i64 0, .bool false, .int .i64 0] := by
    rw [hV]
    have ne : w.heap.size + 1 + 1 ≠ w.heap.size + 1 := by omega
    exact (((((((((((q1.other ne _).other ne _).other ne _).other ne _).other ne _).other ne _).other ne _).other ne _).other ne _).other ne _).other ne _)
  have HVV := hid hV
  have RV := hid rV
  have RV1 := hid rV1
  clear p1 p2 p3 p4 p5 p6 p7 p8
  have p9 := qa.cell 9; have p10 := qa.cell 10; have p11 := qa.cell 11
  have k1 := q2.cell 1; have k2 := q2.cell 2; have k3 := q2.cell 3; have k4 := q2.cell 4; have k5 := q2.cell 5; have k6 := q2.cell 6; have k7 := q2.cell 7; have k8 := q2.cell 8; have k9 := q2.cell 9; have k10 := q2.cell 10; have k11 := q2.cell 11
  have f1 := q2.frozen 1; have f2 := q2.frozen 2; have f3 := q2.frozen 3; have f4 := q2.frozen 4; have f5 := q2.frozen 5; have f6 := q2.frozen 6; have f7 := q2.frozen 7; have f8 := q2.frozen 8; have f9 := q2.frozen 9; have f10 := q2.frozen 10; have f11 := q2.frozen 11
  simp only [List.getElem?_cons_zero, List.getElem?_cons_succ] at p9 p10 p11 k1 k2 k3 k4 k5 k6 k7 k8 k9 k10 k11
  clear q1 q2 qa hV rV rV1 hB2
  go_upto_region 7 with fail
  rw [← HVV.out]
  have D0 := RV.out.cell 0; have D1 := RV.out.cell 1; have D2 := RV.out.cell 2; have D3 := RV.out.cell 3; have D4 := RV.out.cell 4; have D5 := RV.out.cell 5; have D6 := RV.out.cell 6; have D7 := RV.out.cell 7; have D8 := RV.out.cell 8; have D9 := RV.out.cell 9; have D10 := RV.out.cell 10; have D11 := RV.out.cell 11
  have E0 := RV1.out.cell 0; have E1 := RV1.out.cell 1; have E2 := RV1.out.cell 2; have E3 := RV1.out.cell 3; have E4 := RV1.out.cell 4; have E5 := RV1.out.cell 5; have E6 := RV1.out.cell 6; have E7 := RV1.out.cell 7; have E8 := RV1.out.cell 8; have E9 := RV1.out.cell 9; have E10 := RV1.out.cell 10; have E11 := RV1.out.cell 11
  have G0 := RV1.out.frozen 0; have G1 := RV1.out.frozen 1; have G2 := RV1.out.frozen 2; have G3 := RV1.out.frozen 3; have G4 := RV1.out.frozen 4; have G5 := RV1.out.frozen 5; have G6 := RV1.out.frozen 6; have G7 := RV1.out.frozen 7; have G8 := RV1.out.frozen 8; have G9 := RV1.out.frozen 9; have G10 := RV1.out.frozen 10; have G11 := RV1.out.frozen 11
  simp only [List.getElem?_cons_zero, List.getElem?_cons_succ] at D0 D1 D2 D3 D4 D5 D6 D7 D8 D9 D10 D11 E0 E1 E2 E3 E4 E5 E6 E7 E8 E9 E10 E11
  clear p9 p10 p11 k1 k2 k3 k4 k5 k6 k7 k8 k9 k10 k11 f1 f2 f3 f4 f5 f6 f7 f8 f9 f10 f11
  go_wp2_with fail
  clear D0 D1 D2 D3 D4 D5 D6 D7 D8 D9 D10 D11 E0 E1 E2 E3 E4 E5 E6 E7 E8 E9 E10 E11 G0 G1 G2 G3 G4 G5 G6 G7 G8 G9 G10 G11
  have le1 : w.heap.size ≤ w.heap.size + 1 := by omega
  have le2 : w.heap.size ≤ w.heap.size + 1 + 1 := by omega
  have bV : Below w.heap.size w V := by
    rw [HVV.out]
    exact (((((((((((HB.out.setCell (p := ⟨w.heap.size + 1 + 1, 1, none⟩) le2 _).setCell (p := ⟨w.heap.size + 1 + 1, 2, none⟩) le2 _).setCell (p := ⟨w.heap.size + 1 + 1, 3, none⟩) le2 _).setCell (p := ⟨w.heap.size + 1 + 1, 4, none⟩) le2 _).setCell (p := ⟨w.heap.size + 1 + 1, 5, none⟩) le2 _).setCell (p := ⟨w.heap.size + 1 + 1, 6, none⟩) le2 _).setCell (p := ⟨w.heap.size + 1 + 1, 7, none⟩) le2 _).setCell (p := ⟨w.heap.size + 1 + 1, 8, none⟩) le2 _).setCell (p := ⟨w.heap.size + 1 + 1, 9, none⟩) le2 _).setCell (p := ⟨w.heap.size + 1 + 1, 10, none⟩) le2 _).setCell (p := ⟨w.heap.size + 1 + 1, 11, none⟩) le2 _)
  obtain ⟨Y, hY⟩ : ∃ Y, Y = ((((((((((((V.setCell ⟨w.heap.size + 1, 0, none⟩ (.slice (some ⟨w.heap.size + 1 + 1 + 1, 0, none⟩) len len)).setCell ⟨w.heap.size + 1, 1, none⟩ (.int .u8 d0)).setCell ⟨w.heap.size + 1, 2, none⟩ (.int .u8 d1)).setCell ⟨w.heap.size + 1, 3, none⟩ (.int .u8 d2)).setCell ⟨w.heap.size + 1, 4, none⟩ (.int .u8 d3)).setCell ⟨w.heap.size + 1, 5, none⟩ (.int .u8 d4)).setCell ⟨w.heap.size + 1, 6, none⟩ (.int .u8 d5)).setCell ⟨w.heap.size + 1, 7, none⟩ (.int .u8 d6)).setCell ⟨w.heap.size + 1, 8, none⟩ (.int .u8 d7)).setCell ⟨w.heap.size + 1, 9, none⟩ (.int .i64 pr)).setCell ⟨w.heap.size + 1, 10, none⟩ (.bool st)).setCell ⟨w.heap.size + 1, 11, none⟩ (.int .i64 tk)) := ⟨_, rfl⟩
  rw [← hY]
  have rY : Row Y (w.heap.size + 1) 33 [.slice (some ⟨w.heap.size + 1 + 1 + 1, 0, none⟩) len len, .int .u8 d0, .int .u8 d1, .int .u8 d2, .int .u8 d3, .int .u8 d4, .int .u8 d5, .int .u8 d6, .int .u8 d7, .int .i64 pr, .bool st, .int .i64 tk] := by rw [hY]; exact ((((((((((((RV1.out.set 0 _).set 1 _).set 2 _).set 3 _).set 4 _).set 5 _).set 6 _).set 7 _).set 8 _).set 9 _).set 10 _).set 11 _)
  have bY : Below w.heap.size w Y := by
    rw [hY]
    exact ((((((((((((bV.setCell (p := ⟨w.heap.size + 1, 0, none⟩) le1 _).setCell (p := ⟨w.heap.size + 1, 1, none⟩) le1 _).setCell (p := ⟨w.heap.size + 1, 2, none⟩) le1 _).setCell (p := ⟨w.heap.size + 1, 3, none⟩) le1 _).setCell (p := ⟨w.heap.size + 1, 4, none⟩) le1 _).setCell (p := ⟨w.heap.size + 1, 5, none⟩) le1 _).setCell (p := ⟨w.heap.size + 1, 6, none⟩) le1 _).setCell (p := ⟨w.heap.size + 1, 7, none⟩) le1 _).setCell (p := ⟨w.heap.size + 1, 8, none⟩) le1 _).setCell (p := ⟨w.heap.size + 1, 9, none⟩) le1 _).setCell (p := ⟨w.heap.size + 1, 10, none⟩) le1 _).setCell (p := ⟨w.heap.size + 1, 11, none⟩) le1 _)
  have zY : Y.heap.size = w2.heap.size := by rw [hY, HVV.out]; simp
  have sY : Row Y (w.heap.size + 1 + 1 + 1) 5 (zs.map (Value.int .u8)) := by
    have n1 : w.heap.size + 1 ≠ w.heap.size + 1 + 1 + 1 := by omega
    have n2 : w.heap.size + 1 + 1 ≠ w.heap.size + 1 + 1 + 1 := by omega
    rw [hY, HVV.out]
    exact (((((((((((((((((((((((HS2.out.other n2 _).other n2 _).other n2 _).other n2 _).other n2 _).other n2 _).other n2 _).other n2 _).other n2 _).other n2 _).other n2 _).other n1 _).other n1 _).other n1 _).other n1 _).other n1 _).other n1 _).other n1 _).other n1 _).other n1 _).other n1 _).other n1 _).other n1 _)
  clear hY
  have g0 := rY.cell 0; have g1 := rY.cell 1; have g2 := rY.cell 2; have g3 := rY.cell 3; have g4 := rY.cell 4; have g5 := rY.cell 5; have g6 := rY.cell 6; have g7 := rY.cell 7; have g8 := rY.cell 8; have g9 := rY.cell 9; have g10 := rY.cell 10; have g11 := rY.cell 11
  simp only [List.getElem?_cons_zero, List.getElem?_cons_succ] at g0 g1 g2 g3 g4 g5 g6 g7 g8 g9 g10 g11
  exact bodyPost_ret (v := .agg #[.slice (some ⟨w.heap.size + 1 + 1 + 1, 0, none⟩) len len, .int .u8 d0, .int .u8 d1, .int .u8 d2, .int .u8 d3, .int .u8 d4, .int .u8 d5, .int .u8 d6, .int .u8 d7, .int .i64 pr, .bool st, .int .i64 tk]) (by simp [results, Tryd.results11, go_sem, g0, g1, g2, g3, g4, g5, g6, g7, g8, g9, g10, g11]) rfl ⟨_, rfl, bY, sY, by omega⟩
theorem markDevice_any (b n cap : Nat) (xs : List Value) (d0 d1 d2 d3 d4 d5 d6 d7 : Int) (pr : Int) (st : Bool) (tk : Int) (hx : xs.length = n) (hn : n ≤ 1048576) (w : World) (hR : Row w b 5 xs) :
    Calls Tryd.prog 15 #[.agg #[.slice (some ⟨b, 0, none⟩) n cap, .int .u8 d0, .int .u8 d1, .int .u8 d2, .int .u8 d3, .int .u8 d4, .int .u8 d5, .int .u8 d6, .int .u8 d7, .int .i64 pr, .bool st, .int .i64 tk], .int .i64 1] w fun e w' => e = .returned (.int .i64 (1 + (n : Int))) ∧ OnlyB b (w.alloc (.cells #[.slice (some ⟨b, 0, none⟩) n cap, .int .u8 d0, .int .u8 d1, .int .u8 d2, .int .u8 d3, .int .u8 d4, .int .u8 d5, .int .u8 d6, .int .u8 d7, .int .i64 pr, .bool st, .int .i64 tk] 33)) w' := by
  have H := hid (markStack_any b n cap xs hx hn _ (hR.alloc (.cells #[.slice (some ⟨b, 0, none⟩) n cap, .int .u8 d0, .int .u8 d1, .int .u8 d2, .int .u8 d3, .int .u8 d4, .int .u8 d5, .int .u8 d6, .int .u8 d7, .int .i64 pr, .bool st, .int .i64 tk] 33)))
  clear hR hx hn
  go_enter Tryd.func15, Tryd.ntmps15
  go_wp2_with fail
  refine H.out.mono ?_
  rintro e w1 ⟨rfl, hO⟩
  go_wp2_with fail
  go_ret
  exact ⟨rfl, hO⟩
end Go.Proofs.YthifegbmpmialaaDoor

namespace Go.Proofs.YthifegbmpmialaaDoor
open Go.RowKit
/-- v is a slice of the numbers zs, in a block of its own from base on -/
def OwnB (w : World) (base : Nat) (v : Value) (zs : List Int) : Prop :=
  ∃ a cap, v = .slice a zs.length cap ∧ zs.length ≤ 1099511627776 ∧ (zs = [] ∨ ∃ g rest, a = some ⟨g, 0, none⟩ ∧ base ≤ g ∧ Row w g 5 (zs.map (Value.int .u8) ++ rest))
theorem OwnB.of_owns {w : World} {base n : Nat} {v : Value} {zs : List Int} (h : w.ownsRow base 5 1 v n (zs.map (Value.int .u8))) (hl : zs.length ≤ 1099511627776) : OwnB w base v zs := by
  have hn : n = zs.length := by have := h.1; simpa using this.symm
  rcases h.2 with ⟨rfl, h0⟩ | ⟨g, cap, cur, rfl, h2, h3, h4, h5, h6, h7⟩
  · have : zs = [] := List.length_eq_zero_iff.1 (by omega)
    subst this
    exact ⟨none, 0, rfl, by simp, .inl rfl⟩
  · refine ⟨some ⟨g, 0, none⟩, cap, by rw [hn], hl, .inr ⟨g, cur.toList.drop (n * 1), rfl, h2, ?_⟩⟩
    unfold Row
    rw [h3, ← h7, List.take_append_drop]
theorem OwnB.nil (w : World) (base : Nat) (a : Option Addr) (cap : Nat) : OwnB w base (.slice a 0 cap) [] := ⟨a, cap, rfl, by simp, .inl rfl⟩
theorem OwnB.keep {w w' : World} {base : Nat} {v : Value} {zs : List Int} (h : OwnB w base v zs) (hb : Below w.heap.size w w') : OwnB w' base v zs := by
  obtain ⟨a, cap, h1, h2, h3⟩ := h
  refine ⟨a, cap, h1, h2, ?_⟩
  rcases h3 with h0 | ⟨g, rest, e, hg, hr⟩
  · exact .inl h0
  · exact .inr ⟨g, rest, e, hg, hr.below hb hr.lt⟩
/-- what is written from another base on leaves it, if its block lies below -/
theorem OwnB.low {w w' : World} {base k : Nat} {v : Value} {zs : List Int} (h : OwnB w base v zs) {w2 : World} (hw : Below w.heap.size w w2) (hk : w.heap.size ≤ k) (hb : Below k w2 w') : OwnB w' base v zs := by
  obtain ⟨a, cap, h1, h2, h3⟩ := h
  refine ⟨a, cap, h1, h2, ?_⟩
  rcases h3 with h0 | ⟨g, rest, e, hg, hr⟩
  · exact .inl h0
  · exact .inr ⟨g, rest, e, hg, (hr.below hw hr.lt).below hb (Nat.lt_of_lt_of_le hr.lt hk)⟩
theorem OwnB.cell {w : World} {g : Nat} {zs : List Int} {rest : List Value} (h : Row w g 5 (zs.map (Value.int .u8) ++ rest)) (j : Nat) (hj : j < zs.length) : w.cell? ⟨g, j, none⟩ = some (.int .u8 (zs[j]?.getD 0)) := by
  rw [h.cell, List.getElem?_append_left (by simpa using hj)]
  simp [hj]
set_option maxHeartbeats 1000000 in
theorem eqB_own (b1 b2 : Nat) (v1 v2 : Value) (zs : List Int) (w : World) (h1 : OwnB w b1 v1 zs) (h2 : OwnB w b2 v2 zs) :
    Calls Tryd.prog 47 #[v1, v2] w fun e w' => e = .returned (.bool true) ∧ ∃ d, w' = w.drewN d := by
  obtain ⟨a1, c1, rfl, hl, k1⟩ := h1
  obtain ⟨a2, c2, rfl, _, k2⟩ := h2
  have hne : ((zs.length : Int) != (zs.length : Int)) = false := by simp
  rcases k1 with hz | ⟨g1, r1, rfl, _, R1⟩
  · subst hz
    simp only [List.length_nil] at *
    clear k2 hne
    go_enter Tryd.func47, Tryd.ntmps47
    go_wp2_with fail
    refine wp_loop_rounds 1 ?_
    rw [rounds_succ]
    go_wp2_with fail
    go_ret
    exact ⟨rfl, 0, rfl⟩
  · rcases k2 with hz | ⟨g2, r2, rfl, _, R2⟩
    · subst hz
      simp only [List.length_nil] at *
      clear R1 hne
      go_enter Tryd.func47, Tryd.ntmps47
      go_wp2_with fail
      refine wp_loop_rounds 1 ?_
      rw [rounds_succ]
      go_wp2_with fail
      go_ret
      exact ⟨rfl, 0, rfl⟩
    · have C1 := hid (fun j (hj : j < zs.length) => OwnB.cell R1 j hj)
      have C2 := hid (fun j (hj : j < zs.length) => OwnB.cell R2 j hj)
      obtain ⟨n, hn⟩ : ∃ n, zs.length = n := ⟨_, rfl⟩
      rw [hn] at C1 C2 hl hne ⊢
      clear R1 R2 hn
      go_enter Tryd.func47, Tryd.ntmps47
      go_wp2_with fail
      go_loopw [5] (fun i wr => ∃ k : Nat, k ≤ n ∧ i = .int .i64 k ∧ ∃ d, wr = w.drewN d) (fun i _ => n - (intOf i).toNat)
      case atStart => exact ⟨0, Nat.zero_le _, rfl, 0, rfl⟩
      case round =>
        obtain ⟨k, hk, rfl, d, rfl⟩ := hrel
        by_cases hlt : k < n
        · have hx1 := C1.out k hlt
          have hx2 := C2.out k hlt
          have hlt' : (k : Int) < (n : Int) := by omega
          have hk0 : (0 : Int) ≤ (k : Int) := by omega
          obtain ⟨x, hx⟩ : ∃ x, zs[k]?.getD 0 = x := ⟨_, rfl⟩
          rw [hx] at hx1 hx2
          have hb : (x != x) = false := by simp
          clear hx
          go_wp2_with fail
          go_quiet (fail)
          go_wp2_with fail
          go_roundw
          case rel => exact ⟨k + 1, by omega, by go_num, _, rfl⟩
          case measure => simp [intOf]; omega
        · obtain rfl : k = n := by omega
          go_wp2_with fail
          go_ret
          exact ⟨rfl, d, rfl⟩
def m8 (i : Int) : Int := IntKind.u8.wrap i
/-- the marks that are written -/
def marksB (k0 : Int) (n : Nat) : List Int := (List.range n).map fun (i : Nat) => m8 (k0 + (i : Int))
theorem marksB_len (k0 : Int) (n : Nat) : (marksB k0 n).length = n := by simp [marksB]
theorem marksB_get (k0 : Int) (n j : Nat) (h : j < n) : (marksB k0 n)[j]?.getD 0 = m8 (k0 + (j : Int)) := by simp [marksB, h]
/-- k of n cells are marked -/
def halfB (k0 : Int) (zs : List Int) (k : Nat) : List Int := (marksB k0 k) ++ zs.drop k
theorem halfB_len (k0 : Int) (zs : List Int) (k : Nat) (h : k ≤ zs.length) : (halfB k0 zs k).length = zs.length := by simp [halfB, marksB]; omega
theorem halfB_set (k0 : Int) (zs : List Int) (rest : List Value) (k : Nat) (h : k < zs.length) : (((halfB k0 zs k).map (Value.int .u8)) ++ rest).set k (.int .u8 (m8 (k0 + (k : Int)))) = ((halfB k0 zs (k + 1)).map (Value.int .u8)) ++ rest := by
  have hl := halfB_len k0 zs k (by omega)
  rw [List.set_append_left _ _ (by rw [List.length_map, hl]; exact h)]
  congr 1
  apply List.ext_getElem?
  intro j
  simp only [halfB, marksB, List.getElem?_set, List.getElem?_map, List.length_map, List.length_append, List.length_range, List.length_drop, List.getElem?_append, List.getElem?_drop]
  by_cases hj : k = j
  · subst hj
    simp [h]
    omega
  · rw [if_neg hj]
    by_cases h2 : j < k
    · simp [h2, show j < k + 1 from by omega]
    · simp only [h2, show ¬ j < k + 1 from by omega, if_false]
      rw [show k + (j - k) = k + 1 + (j - (k + 1)) from by omega]
theorem halfB_all (k0 : Int) (zs : List Int) : halfB k0 zs zs.length = marksB k0 zs.length := by simp [halfB]
set_option maxHeartbeats 1000000 in
theorem markB_own (base : Nat) (v : Value) (zs : List Int) (w : World) (h : OwnB w base v zs) (hbase : base ≤ w.heap.size) :
    Calls Tryd.prog 49 #[v, .int .i64 1] w fun e w' => e = .returned (.int .i64 (1 + (zs.length : Int))) ∧ OwnB w' base v (marksB 1 zs.length) ∧ Below base w w' ∧ w'.heap.size = w.heap.size := by
  obtain ⟨a, c, rfl, hl, k1⟩ := h
  rcases k1 with hz | ⟨g, rest, rfl, hg, R⟩
  · subst hz
    simp only [List.length_nil]
    go_enter Tryd.func49, Tryd.ntmps49
    go_wp2_with fail
    refine wp_loop_rounds 1 ?_
    rw [rounds_succ]
    go_wp2_with fail
    go_ret
    exact ⟨rfl, OwnB.nil _ _ _ _, Below.refl _ _, rfl⟩
  · obtain ⟨n, hn⟩ : ∃ n, zs.length = n := ⟨_, rfl⟩
    rw [hn] at hl ⊢
    have HN := hid hn
    have R0 : Row w g 5 ((halfB 1 zs 0).map (Value.int .u8) ++ rest) := by simpa [halfB, marksB] using R
    clear hn R
    go_enter Tryd.func49, Tryd.ntmps49
    go_wp2_with fail
    go_loopw [1, 5] (fun m i wr => ∃ k : Nat, k ≤ n ∧ i = .int .i64 k ∧ m = .int .i64 (1 + (k : Int)) ∧ Row wr g 5 ((halfB 1 zs k).map (Value.int .u8) ++ rest) ∧ Below base w wr ∧ wr.heap.size = w.heap.size) (fun _ i _ => n - (intOf i).toNat)
    case atStart => exact ⟨0, Nat.zero_le _, rfl, rfl, R0, Below.refl _ _, rfl⟩
    case round =>
      clear R0
      obtain ⟨k, hk, rfl, rfl, hrow, hB, hsz⟩ := hrel
      have HSZ := hid hsz
      clear hsz
      by_cases hlt : k < n
      · have hlt' : (k : Int) < (n : Int) := by omega
        have hk0 : (0 : Int) ≤ (k : Int) := by omega
        have HS := hid (halfB_set 1 zs rest k (by rw [HN.out]; exact hlt))
        have hfz := hrow.frozen k
        obtain ⟨old, hold⟩ : ∃ u, wr.cell? ⟨g, k, none⟩ = some u := ⟨_, (hrow.cell k).trans (List.getElem?_eq_getElem (by simp only [List.length_append, List.length_map]; rw [halfB_len _ _ _ (by rw [HN.out]; exact hk), HN.out]; omega))⟩
        have R2 := hrow.set k (.int .u8 (m8 (1 + (k : Int))))
        rw [HS.out] at R2
        have R3 := hid R2
        have B2 := hid (hB.setCell (p := ⟨g, k, none⟩) hg (.int .u8 (m8 (1 + (k : Int)))))
        have t1 : IntKind.u8.wrap (1 + (k : Int)) = m8 (1 + (k : Int)) := rfl
        clear R2 hrow hB
        go_wp2_with fail
        go_roundw
        case rel => exact ⟨k + 1, by omega, by go_num, by first | go_num | (congr 1; done) | (congr 1; omega), R3.out, B2.out, by simpa using HSZ.out⟩
        case measure => simp [intOf]; omega
      · obtain rfl : k = n := by omega
        have R3 := hid hrow
        clear hrow
        go_wp2_with fail
        go_ret
        refine ⟨rfl, ⟨some ⟨g, 0, none⟩, c, by rw [marksB_len], by rw [marksB_len]; exact hl, .inr ⟨g, rest, rfl, hg, ?_⟩⟩, hB, HSZ.out⟩
        have := R3.out
        rw [← HN.out, halfB_all] at this
        rw [← HN.out]
        exact this
theorem row_type {w : World} {g : Nat} {T U : TypeId} {xs ys : List Value} (h : Row w g T xs) (k : Row w g U ys) : T = U := by
  unfold Row at h k
  rw [h] at k
  simp only [Option.some.injEq, Obj.cells.injEq] at k
  exact k.2.1
set_option maxHeartbeats 1000000 in
theorem markB_only (base : Nat) (v : Value) (zs : List Int) (w : World) (h : OwnB w base v zs) (hbase : base ≤ w.heap.size) :
    Calls Tryd.prog 49 #[v, .int .i64 1] w fun e w' => e = .returned (.int .i64 (1 + (zs.length : Int))) ∧ OwnB w' base v (marksB 1 zs.length) ∧ Below base w w' ∧ w'.heap.size = w.heap.size ∧ (∀ q T xs, T ≠ 5 → Row w q T xs → Row w' q T xs) := by
  obtain ⟨a, c, rfl, hl, k1⟩ := h
  rcases k1 with hz | ⟨g, rest, rfl, hg, R⟩
  · subst hz
    simp only [List.length_nil]
    go_enter Tryd.func49, Tryd.ntmps49
    go_wp2_with fail
    refine wp_loop_rounds 1 ?_
    rw [rounds_succ]
    go_wp2_with fail
    go_ret
    exact ⟨rfl, OwnB.nil _ _ _ _, Below.refl _ _, rfl, fun _ _ _ _ h => h⟩
  · obtain ⟨n, hn⟩ : ∃ n, zs.length = n := ⟨_, rfl⟩
    rw [hn] at hl ⊢
    have HN := hid hn
    have NEQ := hid (fun q T xs (hT : T ≠ 5) (hr : Row w q T xs) => show q ≠ g from fun e => by subst e; exact hT (row_type hr R))
    have R0 : Row w g 5 ((halfB 1 zs 0).map (Value.int .u8) ++ rest) := by simpa [halfB, marksB] using R
    clear hn R
    go_enter Tryd.func49, Tryd.ntmps49
    go_wp2_with fail
    go_loopw [1, 5] (fun m i wr => ∃ k : Nat, k ≤ n ∧ i = .int .i64 k ∧ m = .int .i64 (1 + (k : Int)) ∧ Row wr g 5 ((halfB 1 zs k).map (Value.int .u8) ++ rest) ∧ Below base w wr ∧ wr.heap.size = w.heap.size ∧ (∀ q, q ≠ g → wr.heap[q]? = w.heap[q]?)) (fun _ i _ => n - (intOf i).toNat)
    case atStart => exact ⟨0, Nat.zero_le _, rfl, rfl, R0, Below.refl _ _, rfl, fun _ _ => rfl⟩
    case round =>
      clear R0
      obtain ⟨k, hk, rfl, rfl, hrow, hB, hsz, hkk⟩ := hrel
      have HSZ := hid hsz
      have HKK := hid hkk
      clear hsz hkk
      by_cases hlt : k < n
      · have hlt' : (k : Int) < (n : Int) := by omega
        have hk0 : (0 : Int) ≤ (k : Int) := by omega
        have HS := hid (halfB_set 1 zs rest k (by rw [HN.out]; exact hlt))
        have hfz := hrow.frozen k
        obtain ⟨old, hold⟩ : ∃ u, wr.cell? ⟨g, k, none⟩ = some u := ⟨_, (hrow.cell k).trans (List.getElem?_eq_getElem (by simp only [List.length_append, List.length_map]; rw [halfB_len _ _ _ (by rw [HN.out]; exact hk), HN.out]; omega))⟩
        have R2 := hrow.set k (.int .u8 (m8 (1 + (k : Int))))
        rw [HS.out] at R2
        have R3 := hid R2
        have B2 := hid (hB.setCell (p := ⟨g, k, none⟩) hg (.int .u8 (m8 (1 + (k : Int)))))
        have t1 : IntKind.u8.wrap (1 + (k : Int)) = m8 (1 + (k : Int)) := rfl
        clear R2 hrow hB
        go_wp2_with fail
        go_roundw
        case rel => exact ⟨k + 1, by omega, by go_num, by first | go_num | (congr 1; done) | (congr 1; omega), R3.out, B2.out, by simpa using HSZ.out, fun q hq => (Below.heap_setCell wr ⟨g, k, none⟩ _ q (fun e => hq e)).trans (HKK.out q hq)⟩
        case measure => simp [intOf]; omega
      · obtain rfl : k = n := by omega
        have R3 := hid hrow
        clear hrow
        go_wp2_with fail
        go_ret
        refine ⟨rfl, ⟨some ⟨g, 0, none⟩, c, by rw [marksB_len], by rw [marksB_len]; exact hl, .inr ⟨g, rest, rfl, hg, ?_⟩⟩, hB, HSZ.out, fun q T xs hT hr => (HKK.out q (NEQ.out q T xs hT hr)).trans hr⟩
        have := R3.out
        rw [← HN.out, halfB_all] at this
        rw [← HN.out]
        exact this
set_option maxHeartbeats 1000000 in
theorem heldB_own (base : Nat) (v : Value) (n : Nat) (w : World) (h : OwnB w base v (marksB 1 n)) :
    Calls Tryd.prog 50 #[v, .int .i64 1] w fun e w' => e = .returned (.int .i64 (1 + (n : Int))) ∧ ∃ d, w' = w.drewN d := by
  obtain ⟨a, c, rfl, hl, k1⟩ := h
  rw [marksB_len] at hl ⊢
  rcases k1 with hz | ⟨g, rest, rfl, hg, R⟩
  · have h0 : n = 0 := by have := congrArg List.length hz; simpa [marksB_len] using this
    subst h0
    go_enter Tryd.func50, Tryd.ntmps50
    go_wp2_with fail
    refine wp_loop_rounds 1 ?_
    rw [rounds_succ]
    go_wp2_with fail
    go_ret
    exact ⟨rfl, 0, rfl⟩
  · have C := hid (fun j (hj : j < n) => (OwnB.cell R j (by rw [marksB_len]; exact hj)).trans (by rw [marksB_get _ _ _ hj]))
    clear R
    go_enter Tryd.func50, Tryd.ntmps50
    go_wp2_with fail
    go_loopw [1, 5] (fun m i wr => ∃ k : Nat, k ≤ n ∧ i = .int .i64 k ∧ m = .int .i64 (1 + (k : Int)) ∧ ∃ d, wr = w.drewN d) (fun _ i _ => n - (intOf i).toNat)
    case atStart => exact ⟨0, Nat.zero_le _, rfl, rfl, 0, rfl⟩
    case round =>
      obtain ⟨k, hk, rfl, rfl, d, rfl⟩ := hrel
      by_cases hlt : k < n
      · have hlt' : (k : Int) < (n : Int) := by omega
        have hk0 : (0 : Int) ≤ (k : Int) := by omega
        have cc := C.out k hlt
        have hb : (m8 (1 + (k : Int)) != m8 (1 + (k : Int))) = false := by simp
        have t1 : IntKind.u8.wrap (1 + (k : Int)) = m8 (1 + (k : Int)) := rfl
        go_wp2_with fail
        all_goals (try (go_quiet (fail); go_wp2_with fail))
        go_roundw
        case rel => exact ⟨k + 1, by omega, by go_num, by first | go_num | (congr 1; done) | (congr 1; omega), _, rfl⟩
        case measure => simp [intOf]; omega
      · obtain rfl : k = n := by omega
        go_wp2_with fail
        go_ret
        exact ⟨rfl, d, rfl⟩
end Go.Proofs.YthifegbmpmialaaDoor

namespace Go.Proofs.YthifegbmpmialaaDoor
open Go.RowKit
set_option linter.unusedVariables false
set_option linter.unusedSimpArgs false
set_option maxRecDepth 100000 in
set_option maxHeartbeats 2000000 in
theorem eqDev_own (b1 b2 : Nat) (s1 s2 : Value) (zs : List Int) (d0 d1 d2 d3 d4 d5 d6 d7 : Int) (pr : Int) (st : Bool) (tk : Int) (w : World) (h1 : OwnB w b1 s1 zs) (h2 : OwnB w b2 s2 zs) :
    Calls Tryd.prog 14 #[.agg #[s1, .int .u8 d0, .int .u8 d1, .int .u8 d2, .int .u8 d3, .int .u8 d4, .int .u8 d5, .int .u8 d6, .int .u8 d7, .int .i64 pr, .bool st, .int .i64 tk], .agg #[s2, .int .u8 d0, .int .u8 d1, .int .u8 d2, .int .u8 d3, .int .u8 d4, .int .u8 d5, .int .u8 d6, .int .u8 d7, .int .i64 pr, .bool st, .int .i64 tk]] w fun e w' => e = .returned (.bool true) ∧ Below w.heap.size w w' := by
  obtain ⟨W, hW⟩ : ∃ W, W = (w.alloc (.cells #[s1, .int .u8 d0, .int .u8 d1, .int .u8 d2, .int .u8 d3, .int .u8 d4, .int .u8 d5, .int .u8 d6, .int .u8 d7, .int .i64 pr, .bool st, .int .i64 tk] 33)).alloc (.cells #[s2, .int .u8 d0, .int .u8 d1, .int .u8 d2, .int .u8 d3, .int .u8 d4, .int .u8 d5, .int .u8 d6, .int .u8 d7, .int .i64 pr, .bool st, .int .i64 tk] 33) := ⟨_, rfl⟩
  have bel : Below w.heap.size w W := by rw [hW]; exact (boxD_bel w _ _).alloc (by simp) _
  have r1 : Row W w.heap.size 33 [s1, .int .u8 d0, .int .u8 d1, .int .u8 d2, .int .u8 d3, .int .u8 d4, .int .u8 d5, .int .u8 d6, .int .u8 d7, .int .i64 pr, .bool st, .int .i64 tk] := by rw [hW]; exact (Row.new w _ _).alloc _
  have r2 : Row W (w.heap.size + 1) 33 [s2, .int .u8 d0, .int .u8 d1, .int .u8 d2, .int .u8 d3, .int .u8 d4, .int .u8 d5, .int .u8 d6, .int .u8 d7, .int .i64 pr, .bool st, .int .i64 tk] := by
    have h := Row.new (w.alloc (.cells #[s1, .int .u8 d0, .int .u8 d1, .int .u8 d2, .int .u8 d3, .int .u8 d4, .int .u8 d5, .int .u8 d6, .int .u8 d7, .int .i64 pr, .bool st, .int .i64 tk] 33)) 33 [s2, .int .u8 d0, .int .u8 d1, .int .u8 d2, .int .u8 d3, .int .u8 d4, .int .u8 d5, .int .u8 d6, .int .u8 d7, .int .i64 pr, .bool st, .int .i64 tk]
    simp only [World.size_alloc] at h
    rw [hW]; exact h
  have R1 := hid r1
  have R2 := hid r2
  have HE := hid (eqB_own b1 b2 s1 s2 zs W (h1.keep bel) (h2.keep bel))
  have l1 := r1.lt
  have l2 := r2.lt
  have BE := hid bel
  have HW := hid hW
  have n1 : (pr != pr) = false := by simp
  have n2 : (st != st) = false := by simp
  have n3 : (tk != tk) = false := by simp
  clear h1 h2 r1 r2 bel hW
  go_enter Tryd.func14, Tryd.ntmps14
  go_wp2_with fail
  rw [← HW.out]
  refine HE.out.mono ?_
  rintro e w1 ⟨rfl, dd, hd⟩
  have hB1 : Below W.heap.size W w1 := by rw [hd]; exact below_drewN (Below.refl _ _) _
  have s1' := R1.out.below hB1 l1
  have s2' := R2.out.below hB1 l2
  have S1 := hid s1'
  have S2 := hid s2'
  have p1 := s1'.cell 1; have p2 := s1'.cell 2; have p3 := s1'.cell 3; have p4 := s1'.cell 4; have p5 := s1'.cell 5; have p6 := s1'.cell 6; have p7 := s1'.cell 7; have p8 := s1'.cell 8; have q1 := s2'.cell 1; have q2 := s2'.cell 2; have q3 := s2'.cell 3; have q4 := s2'.cell 4; have q5 := s2'.cell 5; have q6 := s2'.cell 6; have q7 := s2'.cell 7; have q8 := s2'.cell 8
  simp only [List.getElem?_cons_zero, List.getElem?_cons_succ] at p1 p2 p3 p4 p5 p6 p7 p8 q1 q2 q3 q4 q5 q6 q7 q8
  clear s1' s2' hd
  go_wp2_with fail
  refine (eqDigits_same _ _ _ _ _ _ _ _ _).mono ?_
  rintro e w2 ⟨rfl, hB2⟩
  have hz1 := hB1.size
  have s1' := S1.out.below hB2 (by omega)
  have s2' := S2.out.below hB2 (by omega)
  clear p1 p2 p3 p4 p5 p6 p7 p8 q1 q2 q3 q4 q5 q6 q7 q8
  have p9 := s1'.cell 9; have p10 := s1'.cell 10; have p11 := s1'.cell 11; have q9 := s2'.cell 9; have q10 := s2'.cell 10; have q11 := s2'.cell 11
  simp only [List.getElem?_cons_zero, List.getElem?_cons_succ] at p9 p10 p11 q9 q10 q11
  clear s1' s2'
  go_wp2_with fail
  go_ret
  exact ⟨rfl, BE.out.trans ((hB1.mono BE.out.size).trans (hB2.mono (by have := BE.out.size; omega)))⟩
theorem markDev_own (base : Nat) (sl : Value) (zs : List Int) (d0 d1 d2 d3 d4 d5 d6 d7 : Int) (pr : Int) (st : Bool) (tk : Int) (w : World) (h : OwnB w base sl zs) (hb : base ≤ w.heap.size) :
    Calls Tryd.prog 15 #[.agg #[sl, .int .u8 d0, .int .u8 d1, .int .u8 d2, .int .u8 d3, .int .u8 d4, .int .u8 d5, .int .u8 d6, .int .u8 d7, .int .i64 pr, .bool st, .int .i64 tk], .int .i64 1] w fun e w' => e = .returned (.int .i64 (1 + (zs.length : Int))) ∧ OwnB w' base sl (marksB 1 zs.length) ∧ Below base w w' := by
  have bel := boxD_bel w 33 #[sl, .int .u8 d0, .int .u8 d1, .int .u8 d2, .int .u8 d3, .int .u8 d4, .int .u8 d5, .int .u8 d6, .int .u8 d7, .int .i64 pr, .bool st, .int .i64 tk]
  have H := hid (markB_own base sl zs _ (h.keep bel) (Nat.le_trans hb bel.size))
  have BE := hid bel
  clear h bel
  go_enter Tryd.func15, Tryd.ntmps15
  go_wp2_with fail
  refine H.out.mono ?_
  rintro e w1 ⟨rfl, hO, hB, _⟩
  go_wp2_with fail
  go_ret
  exact ⟨rfl, hO, (BE.out.mono hb).trans hB⟩
theorem markDev_only (base : Nat) (sl : Value) (zs : List Int) (d0 d1 d2 d3 d4 d5 d6 d7 : Int) (pr : Int) (st : Bool) (tk : Int) (w : World) (h : OwnB w base sl zs) (hb : base ≤ w.heap.size) :
    Calls Tryd.prog 15 #[.agg #[sl, .int .u8 d0, .int .u8 d1, .int .u8 d2, .int .u8 d3, .int .u8 d4, .int .u8 d5, .int .u8 d6, .int .u8 d7, .int .i64 pr, .bool st, .int .i64 tk], .int .i64 1] w fun e w' => e = .returned (.int .i64 (1 + (zs.length : Int))) ∧ OwnB w' base sl (marksB 1 zs.length) ∧ Below base w w' ∧ (∀ q xs, Row w q 33 xs → Row w' q 33 xs) := by
  have bel := boxD_bel w 33 #[sl, .int .u8 d0, .int .u8 d1, .int .u8 d2, .int .u8 d3, .int .u8 d4, .int .u8 d5, .int .u8 d6, .int .u8 d7, .int .i64 pr, .bool st, .int .i64 tk]
  have H := hid (markB_only base sl zs _ (h.keep bel) (Nat.le_trans hb bel.size))
  have BE := hid bel
  clear h bel
  go_enter Tryd.func15, Tryd.ntmps15
  go_wp2_with fail
  refine H.out.mono ?_
  rintro e w1 ⟨rfl, hO, hB, _, hK⟩
  go_wp2_with fail
  go_ret
  exact ⟨rfl, hO, (BE.out.mono hb).trans hB, fun q xs hr => hK q _ xs (by decide) (hr.alloc _)⟩
theorem heldDev_own (base : Nat) (sl : Value) (n : Nat) (d0 d1 d2 d3 d4 d5 d6 d7 : Int) (pr : Int) (st : Bool) (tk : Int) (w : World) (h : OwnB w base sl (marksB 1 n)) :
    Calls Tryd.prog 16 #[.agg #[sl, .int .u8 d0, .int .u8 d1, .int .u8 d2, .int .u8 d3, .int .u8 d4, .int .u8 d5, .int .u8 d6, .int .u8 d7, .int .i64 pr, .bool st, .int .i64 tk], .int .i64 1] w fun e w' => e = .returned (.int .i64 (1 + (n : Int))) ∧ Below w.heap.size w w' := by
  have bel := boxD_bel w 33 #[sl, .int .u8 d0, .int .u8 d1, .int .u8 d2, .int .u8 d3, .int .u8 d4, .int .u8 d5, .int .u8 d6, .int .u8 d7, .int .i64 pr, .bool st, .int .i64 tk]
  have H := hid (heldB_own base sl n _ (h.keep bel))
  have BE := hid bel
  have hz : (0 : Int) ≤ 1 + (n : Int) := by omega
  clear h bel
  go_enter Tryd.func16, Tryd.ntmps16
  go_wp2_with fail
  refine H.out.mono ?_
  rintro e w1 ⟨rfl, d, rfl⟩
  go_wp2_with fail
  go_ret
  exact ⟨rfl, below_drewN BE.out _⟩
/-- a new device's stack and preset, with a code -/
def ndR (zs : List Int) : List Int × Int × Int := if okL zs then (zs, -1, 0) else ([], 0, 1)
theorem ndR_no {zs : List Int} (h : okL zs = false) : ndR zs = ([], 0, 1) := by simp [ndR, h]
theorem ndR_yes {zs : List Int} (h : okL zs = true) : ndR zs = (zs, -1, 0) := by simp [ndR, h]
def NewR (w : World) (R : List Int × Int × Int) (e : Ending) (w' : World) : Prop :=
  ∃ sl, e = .returned (.tuple #[.agg #[sl, .int .u8 0, .int .u8 0, .int .u8 0, .int .u8 0, .int .u8 0, .int .u8 0, .int .u8 0, .int .u8 0, .int .i64 R.2.1, .bool false, .int .i64 0], .int .i64 R.2.2]) ∧ OwnB w' w.heap.size sl R.1 ∧ Below w.heap.size w w'
theorem map_cells {w : World} {b : Nat} {zs : List Int} (h : Stk w b zs) : ∀ j u, (zs.map (Value.int .u8))[j]? = some u → w.cell? ((⟨b, 0, none⟩ : Addr).add j) = some u := by
  intro j u hj
  have hlt : j < zs.length := by
    rcases Nat.lt_or_ge j zs.length with h' | h'
    · exact h'
    · rw [List.getElem?_eq_none (by simpa using h')] at hj; cases hj
  have e : (⟨b, 0, none⟩ : Addr).add j = ⟨b, j, none⟩ := by
    by_cases h0 : j = 0
    · subst h0; simp [Addr.add]
    · simp [Addr.add, h0]
  rw [e, h.2.1 j hlt]
  simp [hlt] at hj
  simp [hlt, hj]
theorem Tryd.infoU8n : (Tryd.prog.info? 5).map (fun i => (i.zero, i.size, i.bytes)) = some (some (.int .u8 0), 1, 1) := by kernel_rfl
/-- a stack is appended to an empty one of the call's own -/
def CloR (w : World) (base : Nat) (zs : List Int) (v : Value) (w' : World) : Prop := OwnB w' base v zs ∧ Below base w w'
set_option maxRecDepth 100000 in
set_option maxHeartbeats 1000000 in
theorem clone_any (b n cap : Nat) (zs : List Int) (w : World) (hS : Stk w b zs) (hn : n = zs.length) (h8 : n ≤ 8) :
    Calls Tryd.prog 68 #[.slice (some ⟨b, 0, none⟩) n cap] w fun e w' => ∃ v, e = .returned v ∧ CloR w w.heap.size zs v w' := by
  obtain ⟨i0, hi, iz0, iz1, iz2⟩ := info_parts Tryd.infoU8n
  obtain ⟨base, hbase⟩ : ∃ z, w.heap.size = z := ⟨_, rfl⟩
  have HN := hid hn
  have B1 := hid ((Below.refl base w).alloc (by omega) (.cells #[] 5))
  have O1 := hid (World.ownsRow_lit (base := base) (e := 5) (size := 1) w #[] 0 (by omega) (by unfold maxLen; omega) rfl)
  have MC := hid (map_cells (hS.below ((Below.refl w.heap.size w).alloc (Nat.le_refl _) (.cells #[] 5)) hS.1))
  clear hS hn
  rw [hbase]
  have HB := hid hbase
  clear hbase
  have HE : ∀ w, Sem.run Tryd.prog (binOp .eql 30 (.slice (some ⟨b, 0, none⟩) n cap) (.slice none 0 0)) w = .ok (.bool false) w := fun _ => by first | kernel_rfl | rfl | simp [binOp, go_sem]
  go_enter Tryd.func68, Tryd.ntmps68
  go_upto_region 4 with (at_builtin; refine wpList_append_own _ rfl _ _ 30 rfl base 5 i0 (.int .u8 0) 1 1 Tryd.underlying30 hi iz0 iz1 iz2 rfl (by decide) _ _ _ rfl O1.out ⟨b, 0, none⟩ n cap (zs.map (Value.int .u8)) rfl (by simp [HN.out]) MC.out (by intro u hu; simp at hu; obtain ⟨z, _, rfl⟩ := hu; rfl) (by unfold maxLen; omega) (by omega) (by have := HB.out; simp; omega) ?_; intro v' w2 hown' hgrow _)
  have hB2 := (B1.out.grown hgrow (by have := HB.out; simp; omega) (fun k e => by have := (O1.out.lt k e).1; omega))
  have HO := hid (OwnB.of_owns (zs := zs) (by simpa using hown') (by have := HN.out; omega))
  have HB2 := hid hB2
  clear hown' hgrow hB2
  go_ret
  exact ⟨_, rfl, HO.out, HB2.out⟩
theorem OwnB.lowb {w : World} {base b' : Nat} {v : Value} {zs : List Int} (h : OwnB w base v zs) (hb : b' ≤ base) : OwnB w b' v zs := by
  obtain ⟨a, cap, h1, h2, h3⟩ := h
  refine ⟨a, cap, h1, h2, ?_⟩
  rcases h3 with h0 | ⟨g, rest, e, hg, hr⟩
  · exact .inl h0
  · exact .inr ⟨g, rest, e, Nat.le_trans hb hg, hr⟩
theorem own_sets {w : World} {b k : Nat} {v : Value} {zs : List Int} (_ : OwnB w b v zs) (h : OwnB w k v zs) (hk : b < k) {u0 u1 u2 u3 u4 u5 u6 u7 u8 u9 u10 u11 : Value} : OwnB ((((((((((((w.setCell ⟨b, 0, none⟩ (u0)).setCell ⟨b, 1, none⟩ (u1)).setCell ⟨b, 2, none⟩ (u2)).setCell ⟨b, 3, none⟩ (u3)).setCell ⟨b, 4, none⟩ (u4)).setCell ⟨b, 5, none⟩ (u5)).setCell ⟨b, 6, none⟩ (u6)).setCell ⟨b, 7, none⟩ (u7)).setCell ⟨b, 8, none⟩ (u8)).setCell ⟨b, 9, none⟩ (u9)).setCell ⟨b, 10, none⟩ (u10)).setCell ⟨b, 11, none⟩ (u11)) b v zs := by
  obtain ⟨a, cap, h1, h2, h3⟩ := h
  refine ⟨a, cap, h1, h2, ?_⟩
  rcases h3 with h0 | ⟨g, rest, e, hg, hr⟩
  · exact .inl h0
  · have ne : b ≠ g := by omega
    exact .inr ⟨g, rest, e, by omega, ((((((((((((hr.other ne _).other ne _).other ne _).other ne _).other ne _).other ne _).other ne _).other ne _).other ne _).other ne _).other ne _).other ne _)⟩
end Go.Proofs.YthifegbmpmialaaDoor

namespace Go.Proofs.YthifegbmpmialaaDoor
open Go.RowKit
set_option linter.unusedVariables false
set_option linter.unusedSimpArgs false
def stF (z : Int) (S : DS) (js : List (Int × Int)) : Nat → DS
  | 0 => S
  | k + 1 => (actF z (stF z S js k) (ak js k) (an js k)).2.1
def cdF (z : Int) (S : DS) (js : List (Int × Int)) (k : Nat) : Int := (actF z (stF z S js k) (ak js k) (an js k)).1
def loF (z : Int) (S : DS) (js : List (Int × Int)) (k : Nat) : Int := (actF z (stF z S js k) (ak js k) (an js k)).2.2
def suF (z : Int) (S : DS) (js : List (Int × Int)) : Nat → Int
  | 0 => 0
  | k + 1 => suF z S js k + loF z S js k
def okRp (z : Int) (S : DS) (js : List (Int × Int)) (k : Nat) : Prop := ∀ j, j < k → cdF z S js j = 0
def ntP (z : Int) (zs : List Int) (S : DS) (js : List (Int × Int)) (j : Nat) : List Value := ntC (ak js j) (an js j) (dgL zs (stF z S js (j + 1)).1) (loF z S js j)
def ntL (z : Int) (zs : List Int) (S : DS) (js : List (Int × Int)) (k : Nat) : List Value := ((List.range k).map (ntP z zs S js)).flatten
theorem ntL_zero (z : Int) (zs : List Int) (S : DS) (js : List (Int × Int)) : ntL z zs S js 0 = [] := rfl
theorem ntL_succ (z : Int) (zs : List Int) (S : DS) (js : List (Int × Int)) (k : Nat) : ntL z zs S js (k + 1) = ntL z zs S js k ++ ntP z zs S js k := by simp [ntL, List.range_succ]
theorem okRp_zero (z : Int) (S : DS) (js : List (Int × Int)) : okRp z S js 0 := fun j h => by omega
theorem okRp_succ {z : Int} {S : DS} {js : List (Int × Int)} {k : Nat} (h : okRp z S js k) (e : cdF z S js k = 0) : okRp z S js (k + 1) := fun j hj => by
  by_cases he : j = k
  · subst he; exact e
  · exact h j (by omega)
theorem stF_ok {z : Int} {S : DS} {js : List (Int × Int)} (hz : 1 ≤ z) (h : okS z S) (ha : okATo js js.length) : ∀ k, k ≤ js.length → okS z (stF z S js k)
  | 0, _ => h
  | k + 1, hk => actF_ok hz (stF_ok hz h ha k (by omega)) _ _ (ha k (by omega))
theorem pulF_lost {z : Int} {S : DS} (hz : 1 ≤ z) (h : okS z S) (x s : Int) (hx : 0 ≤ x) (hs : s = 1 ∨ s = -1) : 0 ≤ (pulF z S x s).2 ∧ (pulF z S x s).2 ≤ x := by
  unfold pulF
  split
  · exact ⟨hx, Int.le_refl _⟩
  · split
    · next c =>
      have := (untX_val hs ⟨c.1, h.2.1.2⟩ h.1).2.1
      constructor <;> simp <;> omega
    · exact ⟨Int.le_refl _, hx⟩
theorem actF_lost {z : Int} {S : DS} (hz : 1 ≤ z) (h : okS z S) (k x : Int) (ha : okAct k x = true) : 0 ≤ (actF z S k x).2.2 ∧ (actF z S k x).2.2 ≤ 1000000000000 := by
  have hb := okAct_bd ha
  unfold actF
  split
  · have := pulF_lost hz h x 1 (by omega) (.inl rfl)
    simp; omega
  · split
    · have := pulF_lost hz h x (-1) (by omega) (.inr rfl)
      simp; omega
    · split
      · split <;> simp
      · split
        · simp
        · split <;> simp
theorem actF_code {z : Int} {S : DS} (k x : Int) : (actF z S k x).1 = 0 ∨ (actF z S k x).1 = 2 ∨ (actF z S k x).1 = 4 := by
  unfold actF
  split
  · exact .inl rfl
  · split
    · exact .inl rfl
    · split
      · split
        · exact .inr (.inl rfl)
        · exact .inl rfl
      · split
        · exact .inl rfl
        · split
          · exact .inr (.inr rfl)
          · exact .inl rfl
theorem suF_bd {z : Int} {S : DS} {js : List (Int × Int)} (hz : 1 ≤ z) (h : okS z S) (ha : okATo js js.length) : ∀ k, k ≤ js.length → 0 ≤ suF z S js k ∧ suF z S js k ≤ 1000000000000 * k
  | 0, _ => ⟨Int.le_refl _, by show (0 : Int) ≤ _; omega⟩
  | k + 1, hk => by
    have a := suF_bd hz h ha k (by omega)
    have b := actF_lost hz (stF_ok hz h ha k (by omega)) (ak js k) (an js k) (ha k (by omega))
    show 0 ≤ suF z S js k + loF z S js k ∧ suF z S js k + loF z S js k ≤ _
    unfold loF
    omega
theorem erV_errV {c : Int} (a0 a1 a2 a3 : Addr) (h : c = 0 ∨ c = 2 ∨ c = 4) : erV c a2 a3 = errV c a0 a1 a2 a3 := by
  rcases h with rfl | rfl | rfl <;> rfl
/-- a replay's cells: a device, notes, the sum of what is lost -/
def rpC (dv : List Value) (nv : Value) (l : Int) : List Value := dv ++ [nv, .int .i64 l]
def rpZ : List Value := [.slice none 0 0, .int .u8 0, .int .u8 0, .int .u8 0, .int .u8 0, .int .u8 0, .int .u8 0, .int .u8 0, .int .u8 0, .int .i64 0, .bool false, .int .i64 0, .slice none 0 0, .int .i64 0]
theorem rpZ_len : rpZ.length = 14 := rfl
theorem rpZ_eq : rpZ = rpC dvZ (.slice none 0 0) 0 := rfl
theorem rpC_len (v0 : Value) (ds : List Int) (pr : Int) (st : Bool) (tk : Int) (nv : Value) (l : Int) : (rpC (dvC v0 ds pr st tk) nv l).length = 14 := rfl
theorem rpZ_one : ∀ v ∈ rpZ, v.oneCell' = true := by
  intro v hv
  simp only [rpZ, List.mem_cons, List.not_mem_nil, or_false] at hv
  rcases hv with rfl | rfl | rfl | rfl | rfl | rfl | rfl | rfl | rfl | rfl | rfl | rfl | rfl | rfl <;> rfl
theorem rpC_one (a : Option Addr) (n cap : Nat) (ds : List Int) (pr : Int) (st : Bool) (tk : Int) (nv : Value) (hn : nv.oneCell' = true) (l : Int) : ∀ v ∈ rpC (dvC (.slice a n cap) ds pr st tk) nv l, v.oneCell' = true := by
  intro v hv
  simp only [rpC, List.mem_append, List.mem_cons, List.not_mem_nil, or_false] at hv
  rcases hv with hv | rfl | rfl
  · exact dvC_one _ _ _ _ _ _ _ v hv
  · exact hn
  · rfl
theorem Tryd.infoRep : (Tryd.prog.info? 89).map (·.size) = some 14 := by kernel_rfl
theorem Tryd.infoNt : (Tryd.prog.info? 87).map (fun i => (i.zero, i.size, i.bytes)) = some (some (.agg #[.int .i8 0, .int .i64 0, .int .u8 0, .int .u8 0, .int .u8 0, .int .u8 0, .int .u8 0, .int .u8 0, .int .u8 0, .int .u8 0, .int .i64 0]), 11, 32) := by kernel_rfl
theorem owns_one {w : World} {base size n : Nat} {e : TypeId} {v : Value} {xs : List Value} (h : w.ownsRow base e size v n xs) : v.oneCell' = true := by
  rcases h.2 with ⟨rfl, _⟩ | ⟨g, cap, cur, rfl, _⟩ <;> rfl
theorem owns_keepD {w w' : World} {base size n D : Nat} {e : TypeId} {v : Value} {xs : List Value} (h : w.ownsRow base e size v n xs) (hD : D < base) (hk : ∀ q, q < w.heap.size → q ≠ D → w'.heap[q]? = w.heap[q]?) : w'.ownsRow base e size v n xs := by
  refine ⟨h.1, ?_⟩
  rcases h.2 with h0 | ⟨g, cap, cur, h1, h2, h3, h4⟩
  · exact .inl h0
  · exact .inr ⟨g, cap, cur, h1, h2, (hk g (lt_of_block h3) (by omega)).trans h3, h4⟩
theorem owns_setCells {w : World} {base size n D : Nat} {e : TypeId} {v : Value} {xs : List Value} (h : w.ownsRow base e size v n xs) (hD : D < base) (ys : List Value) (o : Nat) : (w.setCells D o ys).ownsRow base e size v n xs := owns_keepD h hD (fun q _ hq => other_setCellsD hq ys o w)
theorem rowB_stk {w : World} {g : Nat} {zs : List Int} {rest : List Value} (h : Row w g 5 (zs.map (Value.int .u8) ++ rest)) (hz : ∀ z ∈ zs, 0 ≤ z ∧ z ≤ 255) (hl : zs.length ≤ 1048576) : Stk w g zs := ⟨h.lt, fun j hj => OwnB.cell h j hj, hz, hl⟩
theorem Row.keepD {w w' : World} {g D : Nat} {e : TypeId} {xs : List Value} (h : Row w g e xs) (hne : g ≠ D) (hk : ∀ q, q < w.heap.size → q ≠ D → w'.heap[q]? = w.heap[q]?) : Row w' g e xs := (hk g h.lt hne).trans h
theorem journalOf_any (dv : List Value) (w : World) : Calls Tryd.prog 59 #[.agg dv.toArray] w fun e w' => e = .returned (.func (.func 74) #[] #[.pointer (some ⟨w.heap.size, 0, none⟩)]) ∧ w' = w.alloc (.cells dv.toArray 33) := by
  go_enter Tryd.func59, Tryd.ntmps59
  go_wp2
  go_ret
  exact ⟨rfl, rfl⟩
theorem journalOf_row (dv : List Value) (w : World) : Calls Tryd.prog 59 #[.agg dv.toArray] w fun e w' => e = .returned (.func (.func 74) #[] #[.pointer (some ⟨w.heap.size, 0, none⟩)]) ∧ Below w.heap.size w w' ∧ Row w' w.heap.size 33 dv :=
  (journalOf_any dv w).mono (by
    rintro e w' ⟨rfl, rfl⟩
    exact ⟨rfl, (Below.refl _ _).alloc (Nat.le_refl _) _, Row.new _ _ _⟩)
end Go.Proofs.YthifegbmpmialaaDoor

namespace Go.Proofs.YthifegbmpmialaaDoor
open Go.RowKit
set_option linter.unusedVariables false
set_option linter.unusedSimpArgs false
theorem validDev (B n cap : Nat) (zs ds : List Int) (pr : Int) (st : Bool) (tk : Int) (w : World) (hS : Stk w B zs) (hn : n = zs.length) (hd8 : ds.length = 8) (ho : Oct (dg ds 0) (dg ds 1) (dg ds 2) (dg ds 3) (dg ds 4) (dg ds 5) (dg ds 6) (dg ds 7)) :
    Calls Tryd.prog 58 #[.agg (dvC (.slice (some ⟨B, 0, none⟩) n cap) ds pr st tk).toArray] w (GivesB w (.bool (okDev zs ds pr st tk))) := by
  have h := implValidDevice_any B n cap zs (dg ds 0) (dg ds 1) (dg ds 2) (dg ds 3) (dg ds 4) (dg ds 5) (dg ds 6) (dg ds 7) pr st tk w hS hn ho
  rw [dg8 ds hd8] at h
  exact h
set_option maxRecDepth 100000 in
set_option maxHeartbeats 8000000 in
theorem replay_dev (B n cap : Nat) (zs ds : List Int) (pr : Int) (st : Bool) (tk : Int) (b N acap : Nat) (js : List (Int × Int)) (w : World) (hS : Stk w B zs) (hn : n = zs.length) (hd8 : ds.length = 8) (ho : Oct (dg ds 0) (dg ds 1) (dg ds 2) (dg ds 3) (dg ds 4) (dg ds 5) (dg ds 6) (dg ds 7)) (hA : Ast w b js) (hN : N = js.length) (a0 a1 a2 a3 : Addr) (hSN : SN w a0 a1 a2 a3) (hv : okDev zs ds pr st tk = false) :
    Calls Tryd.prog 52 #[.agg (dvC (.slice (some ⟨B, 0, none⟩) n cap) ds pr st tk).toArray, .slice (some ⟨b, 0, none⟩) N acap] w fun e w' => e = .returned (.tuple #[.agg rpZ.toArray, errV 1 a0 a1 a2 a3]) ∧ Below w.heap.size w w' := by
  have hID : (Tryd.prog.info? 33).map (·.size) = some 12 := Tryd.infoDev
  have hIR : (Tryd.prog.info? 89).map (·.size) = some 14 := Tryd.infoRep
  obtain ⟨V, hV⟩ : ∃ V, V = (w.alloc (.cells (dvC (.slice (some ⟨B, 0, none⟩) n cap) ds pr st tk).toArray 33)).alloc (.cells #[.slice none 0 0, .int .u8 0, .int .u8 0, .int .u8 0, .int .u8 0, .int .u8 0, .int .u8 0, .int .u8 0, .int .u8 0, .int .i64 0, .bool false, .int .i64 0, .slice none 0 0, .int .i64 0] 89) := ⟨_, rfl⟩
  have bV : Below w.heap.size w V := by rw [hV]; exact ((Below.refl _ _).alloc (Nat.le_refl _) _).alloc (by simp) _
  have sV : V.heap.size = w.heap.size + 1 + 1 := by rw [hV]; simp
  have rP : Row V w.heap.size 33 (dvC (.slice (some ⟨B, 0, none⟩) n cap) ds pr st tk) := by rw [hV]; exact (Row.new w _ _).alloc _
  have rZ : Row V (w.heap.size + 1) 89 rpZ := by
    have h := Row.new (w.alloc (.cells (dvC (.slice (some ⟨B, 0, none⟩) n cap) ds pr st tk).toArray 33)) 89 rpZ
    simp only [World.size_alloc] at h
    rw [hV]; exact h
  have sS := hS.below bV hS.1
  have sN := hSN.below bV trivial
  have sA := hA.below bV hA.1
  have HVD := hid (validDev B n cap zs ds pr st tk V sS hn hd8 ho)
  have HV := hid hV; have HSN := hid hSN; have HSV := hid sV
  rw [hv] at HVD
  clear hS hn hd8 ho hA hN hSN hV hv sS sA
  go_enter Tryd.func52, Tryd.ntmps52
  go_wp2_with ((with_reducible refine wpList_load_row rfl 33 _ rfl w.heap.size ?_ 33 (dvC (.slice (some ⟨B, 0, none⟩) n cap) ds pr st tk).toArray (0, 0) _ ?_ Tryd.underlying33 ?_ ?_ ?_); rfl; (rw [← HV.out]; exact rP); rfl; exact hID)
  rw [← HV.out]
  refine HVD.out.mono ?_
  rintro e w1 ⟨rfl, hB1⟩
  have bW1 := bV.trans (hB1.mono (by omega))
  replace rZ := rZ.below hB1 rZ.lt; replace sN := sN.below hB1 trivial
  clear rP hB1
  go_wp2_with fail
  refine wp_region_held (S := fun W' : World => SN W' a0 a1 a2 a3) (by kernel_rfl) ?_
  change wpAnyH _ _ _ _ _ _ _ _ (World.drew _)
  obtain ⟨W0, hW0⟩ : ∃ X, X = World.drew (w1) := ⟨_, rfl⟩
  have hD0 : Below (w1).heap.size (w1) W0 := by rw [hW0]; exact (Below.refl _ _).drew
  replace rZ := rZ.below hD0 rZ.lt
  replace sN := sN.below hD0 sN.1
  have bW0 := bW1.trans (hD0.mono bW1.size)
  have bR : Below W0.heap.size W0 W0 := Below.refl _ _
  rw [← hW0]
  clear hW0 hD0
  have l_rZ := rZ.lt
  have l_sN := sN.1
  have hS0 : (fun W' : World => SN W' a0 a1 a2 a3) W0 := sN
  refine wpAnyH_takeD (some 17) (i := 0) (v := ?_) rfl rfl (by kernel_rfl) (by kernel_rfl) (by kernel_rfl) (fun _ _ _ h => h) (.inl ⟨by kernel_rfl, ?_⟩) hS0 ?_
  rotate_left
  · intro w' hw'; go_simp; try with_reducible rfl
  try simp only [Act.put, List.setIfInBounds_toArray, List.set_cons_zero, List.set_cons_succ]
  refine wpAnyH_takeD (some 18) (i := 1) (v := ?_) rfl rfl (by kernel_rfl) (by kernel_rfl) (by kernel_rfl) (fun _ _ _ h => h) (.inl ⟨by kernel_rfl, ?_⟩) hS0 ?_
  rotate_left
  · intro w' hw'; have eG := hw'.2.1.1; clear hw'; go_simp; try with_reducible rfl
  try simp only [Act.put, List.setIfInBounds_toArray, List.set_cons_zero, List.set_cons_succ]
  refine wpAnyH_all (rs := [2]) (by kernel_rfl) (by simp) ?_
  intro i hi; simp only [List.mem_cons, List.not_mem_nil, or_false] at hi
  subst hi
  refine wpOp_step rfl (fun K hK => ?_)
  rw [if_pos (by kernel_rfl)]
  refine wp_store_mid 89 (.tmp 4) (.tmp 17) rfl ((w.heap.size + 1)) 0 (rpZ : List Value).toArray rfl rfl (rZ.thereO 0 14 (by rw [rpZ_len]; omega)) hIR (all_oneCell_toArray rpZ_one) ?_
  obtain ⟨X1, hX1⟩ : ∃ X, X = World.setCells W0 ((w.heap.size + 1)) 0 (rpZ : List Value) := ⟨_, rfl⟩
  have nZ : Row X1 (w.heap.size + 1) 89 rpZ := by rw [hX1]; exact rZ.setAll rfl
  have nB : Below w.heap.size w X1 := by rw [hX1]; exact below_setCellsD _ _ _ (bW0.trans (bR.mono bW0.size)) (by omega)
  replace sN : SN X1 a0 a1 a2 a3 := HSN.out.below nB trivial
  have hS1 : (fun W' : World => SN W' a0 a1 a2 a3) X1 := sN
  have hXX1 : World.setCells W0 ((w.heap.size + 1)) 0 (rpZ : List Value).toArray.toList = X1 := hX1.symm
  rw [hXX1]
  refine hK _ _ ⟨hS1, ?_⟩
  try simp only [Act.put, List.setIfInBounds_toArray, List.set_cons_zero, List.set_cons_succ]
  clear hX1 hXX1 hK K hS0
  refine wpAnyH_takeD (some 5) (i := 3) (v := ?_) rfl rfl (by kernel_rfl) (by kernel_rfl) (by kernel_rfl) (fun _ _ _ h => h) (.inl ⟨by kernel_rfl, ?_⟩) hS1 ?_
  rotate_left
  · intro w' hw'; go_simp; try with_reducible rfl
  try simp only [Act.put, List.setIfInBounds_toArray, List.set_cons_zero, List.set_cons_succ]
  refine wpAnyH_done (by kernel_rfl) ?_ _
  go_wp2_with fail
  exact bodyPost_ret (v := .tuple #[.agg rpZ.toArray, ES a0]) (results_cs (p := 4) (q := 5) (fn := Tryd.f52) rfl _ _ _ _ _ _ _ rfl rfl nZ Tryd.underlying89 rfl hIR) rfl ⟨rfl, nB⟩
set_option maxRecDepth 100000 in
set_option maxHeartbeats 8000000 in
theorem replay_bad (B n cap : Nat) (zs ds : List Int) (pr : Int) (st : Bool) (tk : Int) (b N acap : Nat) (js : List (Int × Int)) (w : World) (hS : Stk w B zs) (hn : n = zs.length) (hd8 : ds.length = 8) (ho : Oct (dg ds 0) (dg ds 1) (dg ds 2) (dg ds 3) (dg ds 4) (dg ds 5) (dg ds 6) (dg ds 7)) (hA : Ast w b js) (hN : N = js.length) (a0 a1 a2 a3 : Addr) (hSN : SN w a0 a1 a2 a3) (hv : okDev zs ds pr st tk = true) (hb : okAs js = false) :
    Calls Tryd.prog 52 #[.agg (dvC (.slice (some ⟨B, 0, none⟩) n cap) ds pr st tk).toArray, .slice (some ⟨b, 0, none⟩) N acap] w fun e w' => e = .returned (.tuple #[.agg rpZ.toArray, errV 1 a0 a1 a2 a3]) ∧ Below w.heap.size w w' := by
  have hID : (Tryd.prog.info? 33).map (·.size) = some 12 := Tryd.infoDev
  have hIR : (Tryd.prog.info? 89).map (·.size) = some 14 := Tryd.infoRep
  obtain ⟨V, hV⟩ : ∃ V, V = (w.alloc (.cells (dvC (.slice (some ⟨B, 0, none⟩) n cap) ds pr st tk).toArray 33)).alloc (.cells #[.slice none 0 0, .int .u8 0, .int .u8 0, .int .u8 0, .int .u8 0, .int .u8 0, .int .u8 0, .int .u8 0, .int .u8 0, .int .i64 0, .bool false, .int .i64 0, .slice none 0 0, .int .i64 0] 89) := ⟨_, rfl⟩
  have bV : Below w.heap.size w V := by rw [hV]; exact ((Below.refl _ _).alloc (Nat.le_refl _) _).alloc (by simp) _
  have sV : V.heap.size = w.heap.size + 1 + 1 := by rw [hV]; simp
  have rP : Row V w.heap.size 33 (dvC (.slice (some ⟨B, 0, none⟩) n cap) ds pr st tk) := by rw [hV]; exact (Row.new w _ _).alloc _
  have rZ : Row V (w.heap.size + 1) 89 rpZ := by
    have h := Row.new (w.alloc (.cells (dvC (.slice (some ⟨B, 0, none⟩) n cap) ds pr st tk).toArray 33)) 89 rpZ
    simp only [World.size_alloc] at h
    rw [hV]; exact h
  have sS := hS.below bV hS.1
  have sN := hSN.below bV trivial
  have sA := hA.below bV hA.1
  have HVD := hid (validDev B n cap zs ds pr st tk V sS hn hd8 ho)
  have HV := hid hV; have HSN := hid hSN; have HSV := hid sV
  rw [hv] at HVD
  have HAE0 := fun (W : World) (h : Ast W b js) (s : SN W a0 a1 a2 a3) => actsErr_bad b N acap js W h hN hb (ES a0) s.2.1.1 (cell_ltE s.2.1.1)
  unfold ES at HAE0
  have HAE := hid HAE0
  clear hS hn hd8 ho hA hN hSN hV hv sS hb HAE0
  go_enter Tryd.func52, Tryd.ntmps52
  go_wp2_with ((with_reducible refine wpList_load_row rfl 33 _ rfl w.heap.size ?_ 33 (dvC (.slice (some ⟨B, 0, none⟩) n cap) ds pr st tk).toArray (0, 0) _ ?_ Tryd.underlying33 ?_ ?_ ?_); rfl; (rw [← HV.out]; exact rP); rfl; exact hID)
  rw [← HV.out]
  refine HVD.out.mono ?_
  rintro e w1 ⟨rfl, hB1⟩
  have bW1 := bV.trans (hB1.mono (by omega))
  replace rZ := rZ.below hB1 rZ.lt; replace sN := sN.below hB1 trivial; replace sA := sA.below hB1 sA.1
  clear rP hB1
  go_wp2_with fail
  refine (HAE.out w1 sA sN).mono ?_
  rintro e w2 ⟨rfl, hB2⟩
  have bW2 := bW1.trans (hB2.mono bW1.size)
  replace rZ := rZ.below hB2 rZ.lt
  have T4 := rZ.thereO 0 14 (by rw [rpZ_len]; omega)
  clear sA sN hB2
  go_wp2_with ((with_reducible refine wpList_store_mid rfl 89 _ _ rfl (w.heap.size + 1) 0 rpZ.toArray ?_ ?_ ?_ ?_ (all_oneCell_toArray rpZ_one) ?_); rfl; rfl; exact T4; exact hIR)
  have nZ := rZ.setAll (ys := rpZ) rfl
  exact bodyPost_ret (v := .tuple #[.agg rpZ.toArray, ES a0]) (results_cs (p := 4) (q := 5) (fn := Tryd.f52) rfl _ _ _ _ _ _ _ rfl rfl nZ Tryd.underlying89 rfl hIR) rfl ⟨rfl, below_setCellsD _ _ _ bW2 (by omega)⟩
set_option maxRecDepth 100000 in
set_option maxHeartbeats 8000000 in
theorem replay_long (B n cap : Nat) (zs ds : List Int) (pr : Int) (st : Bool) (tk : Int) (b N acap : Nat) (js : List (Int × Int)) (w : World) (hS : Stk w B zs) (hn : n = zs.length) (hd8 : ds.length = 8) (ho : Oct (dg ds 0) (dg ds 1) (dg ds 2) (dg ds 3) (dg ds 4) (dg ds 5) (dg ds 6) (dg ds 7)) (hA : Ast w b js) (hN : N = js.length) (a0 a1 a2 a3 : Addr) (hSN : SN w a0 a1 a2 a3) (hv : okDev zs ds pr st tk = true) (hb : okAs js = true) (h60 : 60 < N) :
    Calls Tryd.prog 52 #[.agg (dvC (.slice (some ⟨B, 0, none⟩) n cap) ds pr st tk).toArray, .slice (some ⟨b, 0, none⟩) N acap] w fun e w' => e = .returned (.tuple #[.agg rpZ.toArray, errV 3 a0 a1 a2 a3]) ∧ Below w.heap.size w w' := by
  have hID : (Tryd.prog.info? 33).map (·.size) = some 12 := Tryd.infoDev
  have hIR : (Tryd.prog.info? 89).map (·.size) = some 14 := Tryd.infoRep
  obtain ⟨V, hV⟩ : ∃ V, V = (w.alloc (.cells (dvC (.slice (some ⟨B, 0, none⟩) n cap) ds pr st tk).toArray 33)).alloc (.cells #[.slice none 0 0, .int .u8 0, .int .u8 0, .int .u8 0, .int .u8 0, .int .u8 0, .int .u8 0, .int .u8 0, .int .u8 0, .int .i64 0, .bool false, .int .i64 0, .slice none 0 0, .int .i64 0] 89) := ⟨_, rfl⟩
  have bV : Below w.heap.size w V := by rw [hV]; exact ((Below.refl _ _).alloc (Nat.le_refl _) _).alloc (by simp) _
  have sV : V.heap.size = w.heap.size + 1 + 1 := by rw [hV]; simp
  have rP : Row V w.heap.size 33 (dvC (.slice (some ⟨B, 0, none⟩) n cap) ds pr st tk) := by rw [hV]; exact (Row.new w _ _).alloc _
  have rZ : Row V (w.heap.size + 1) 89 rpZ := by
    have h := Row.new (w.alloc (.cells (dvC (.slice (some ⟨B, 0, none⟩) n cap) ds pr st tk).toArray 33)) 89 rpZ
    simp only [World.size_alloc] at h
    rw [hV]; exact h
  have sS := hS.below bV hS.1
  have sN := hSN.below bV trivial
  have sA := hA.below bV hA.1
  have HVD := hid (validDev B n cap zs ds pr st tk V sS hn hd8 ho)
  have HV := hid hV; have HSN := hid hSN; have HSV := hid sV
  rw [hv] at HVD
  have HAE0 := fun (W : World) (h : Ast W b js) (s : SN W a0 a1 a2 a3) => actsErr_long b N acap js W h hN hb h60 (ES a1) s.2.1.2.1 (cell_ltE s.2.1.2.1)
  unfold ES at HAE0
  have HAE := hid HAE0
  clear hS hn hd8 ho hA hN hSN hV hv sS hb HAE0 h60
  go_enter Tryd.func52, Tryd.ntmps52
  go_wp2_with ((with_reducible refine wpList_load_row rfl 33 _ rfl w.heap.size ?_ 33 (dvC (.slice (some ⟨B, 0, none⟩) n cap) ds pr st tk).toArray (0, 0) _ ?_ Tryd.underlying33 ?_ ?_ ?_); rfl; (rw [← HV.out]; exact rP); rfl; exact hID)
  rw [← HV.out]
  refine HVD.out.mono ?_
  rintro e w1 ⟨rfl, hB1⟩
  have bW1 := bV.trans (hB1.mono (by omega))
  replace rZ := rZ.below hB1 rZ.lt; replace sN := sN.below hB1 trivial; replace sA := sA.below hB1 sA.1
  clear rP hB1
  go_wp2_with fail
  refine (HAE.out w1 sA sN).mono ?_
  rintro e w2 ⟨rfl, hB2⟩
  have bW2 := bW1.trans (hB2.mono bW1.size)
  replace rZ := rZ.below hB2 rZ.lt
  have T4 := rZ.thereO 0 14 (by rw [rpZ_len]; omega)
  clear sA sN hB2
  go_wp2_with ((with_reducible refine wpList_store_mid rfl 89 _ _ rfl (w.heap.size + 1) 0 rpZ.toArray ?_ ?_ ?_ ?_ (all_oneCell_toArray rpZ_one) ?_); rfl; rfl; exact T4; exact hIR)
  have nZ := rZ.setAll (ys := rpZ) rfl
  exact bodyPost_ret (v := .tuple #[.agg rpZ.toArray, ES a1]) (results_cs (p := 4) (q := 5) (fn := Tryd.f52) rfl _ _ _ _ _ _ _ rfl rfl nZ Tryd.underlying89 rfl hIR) rfl ⟨rfl, below_setCellsD _ _ _ bW2 (by omega)⟩
end Go.Proofs.YthifegbmpmialaaDoor

namespace Go.Proofs.YthifegbmpmialaaDoor
open Go.RowKit
set_option linter.unusedVariables false
set_option linter.unusedSimpArgs false
def rpF (z : Int) (S : DS) (js : List (Int × Int)) : Nat → Int
  | 0 => 0
  | k + 1 => if rpF z S js k ≠ 0 then rpF z S js k else cdF z S js k
def rpE (z : Int) (S : DS) (js : List (Int × Int)) (N : Nat) : Int := if rpF z S js N ≠ 0 then rpF z S js N else if 1000000000000 < suF z S js N then 2 else 0
theorem rpF_ok {z : Int} {S : DS} {js : List (Int × Int)} : ∀ k, okRp z S js k → rpF z S js k = 0
  | 0, _ => rfl
  | k + 1, h => by
    have a := rpF_ok k (fun j hj => h j (by omega))
    rw [rpF, if_neg (by omega)]
    exact h k (by omega)
theorem rpF_err {z : Int} {S : DS} {js : List (Int × Int)} {k : Nat} (h : okRp z S js k) (hc : cdF z S js k ≠ 0) : ∀ N, k < N → rpF z S js N = cdF z S js k
  | 0, hk => by omega
  | N + 1, hk => by
    by_cases e : k = N
    · subst e
      rw [rpF, if_neg (by rw [rpF_ok k h]; omega)]
    · have a := rpF_err h hc N (by omega)
      rw [rpF, if_pos (by rw [a]; exact hc), a]
theorem rpE_err {z : Int} {S : DS} {js : List (Int × Int)} {k N : Nat} (h : okRp z S js k) (hc : cdF z S js k ≠ 0) (hk : k < N) : rpE z S js N = cdF z S js k := by
  have a := rpF_err h hc N hk
  rw [rpE, if_pos (by rw [a]; exact hc), a]
theorem rpE_sum {z : Int} {S : DS} {js : List (Int × Int)} {N : Nat} (h : okRp z S js N) (hs : 1000000000000 < suF z S js N) : rpE z S js N = 2 := by
  rw [rpE, if_neg (by rw [rpF_ok N h]; omega), if_pos hs]
theorem rpE_ok {z : Int} {S : DS} {js : List (Int × Int)} {N : Nat} (h : okRp z S js N) (hs : ¬ 1000000000000 < suF z S js N) : rpE z S js N = 0 := by
  rw [rpE, if_neg (by rw [rpF_ok N h]; omega), if_neg hs]
/-- what a replay is -/
def RepOk (w : World) (zs : List Int) (S : DS) (js : List (Int × Int)) (N : Nat) (a0 a1 a2 a3 : Addr) (e : Ending) (w' : World) : Prop :=
  ((rpE (szL zs) S js N = 0 ∧ ∃ g cp rest nv base, e = .returned (.tuple #[.agg (rpC (dvC (.slice (some ⟨g, 0, none⟩) zs.length cp) (dgL zs (stF (szL zs) S js N).1) (stF (szL zs) S js N).2.1 (stF (szL zs) S js N).2.2.1 (stF (szL zs) S js N).2.2.2) nv (suF (szL zs) S js N)).toArray, .nilIface]) ∧ Row w' g 5 (zs.map (Value.int .u8) ++ rest) ∧ w.heap.size ≤ g ∧ g < base ∧ base ≤ w'.heap.size ∧ w'.ownsRow base 87 11 nv N (ntL (szL zs) zs S js N)) ∨
   (rpE (szL zs) S js N ≠ 0 ∧ e = .returned (.tuple #[.agg rpZ.toArray, errV (rpE (szL zs) S js N) a0 a1 a2 a3]))) ∧ Below w.heap.size w w'
theorem Row.setDev {w : World} {g : Nat} {e : TypeId} {v0 v1 : Value} {ds es : List Int} {pr pr' : Int} {st st' : Bool} {tk tk' : Int} {nv : Value} {l : Int} (h : Row w g e (rpC (dvC v0 ds pr st tk) nv l)) : Row (w.setCells g 0 (dvC v1 es pr' st' tk')) g e (rpC (dvC v1 es pr' st' tk') nv l) :=
  Row.setCells_mid (dvC v1 es pr' st' tk') _ 0 h (by rw [rpC_len, dvC_len]; omega)
theorem foldSet (xs : List Value) : ∀ (ys : List Value) (k : Nat), ys.length = k + xs.length → List.foldl (fun (cs : Array Value) (x : Value × Nat) => cs.setIfInBounds x.snd x.fst) ys.toArray (xs.zipIdx k) = (ys.take k ++ xs).toArray := by
  induction xs with
  | nil => intro ys k h; simp at h; simp [← h]
  | cons x xs ih =>
    intro ys k h
    simp only [List.zipIdx_cons, List.foldl_cons]
    rw [List.setIfInBounds_toArray, ih _ _ (by simp at h ⊢; omega)]
    congr 1
    simp at h
    have : k < ys.length := by omega
    rw [List.take_add_one]
    have e : List.take k (ys.set k x) = List.take k ys := by
      apply List.ext_getElem?
      intro i
      by_cases hi : i < k
      · simp [List.getElem?_take, List.getElem?_set, hi]; omega
      · simp [List.getElem?_take, hi]
    rw [e]
    simp [this]
theorem ntFold (p q : Int) (ds : List Int) (l : Int) : List.foldl (fun (cs : Array Value) (x : Value × Nat) => cs.setIfInBounds x.snd x.fst) #[.int .i8 0, .int .i64 0, .int .u8 0, .int .u8 0, .int .u8 0, .int .u8 0, .int .u8 0, .int .u8 0, .int .u8 0, .int .u8 0, .int .i64 0] (ntC p q ds l).zipIdx = (ntC p q ds l).toArray := foldSet (ntC p q ds l) ntZ 0 (by rw [ntC_len]; rfl)
theorem cellsAt {w : World} {g : Nat} {e : TypeId} {xs : List Value} (h : Row w g e xs) : ∀ j u, xs[j]? = some u → w.cell? ((⟨g, 0, none⟩ : Addr).add j) = some u := fun j u hj => by
  rw [show (⟨g, 0, none⟩ : Addr).add j = ⟨g, j, none⟩ from by unfold Addr.add; split <;> simp_all, h.cell j]
  exact hj
set_option maxRecDepth 100000 in
set_option maxHeartbeats 8000000 in
theorem replay_go (B n cap : Nat) (zs : List Int) (v pr : Int) (st : Bool) (tk : Int) (b N acap : Nat) (js : List (Int × Int)) (w : World) (hS : Stk w B zs) (hn : n = zs.length) (hz255 : ∀ z ∈ zs, 0 ≤ z ∧ z ≤ 255) (hv : okDev zs (dgL zs v) pr st tk = true) (hok : okS (szL zs) (v, pr, st, tk)) (hA : Ast w b js) (hN : N = js.length) (hb : okAs js = true) (h60 : N ≤ 60) (a0 a1 a2 a3 : Addr) (hSN : SN w a0 a1 a2 a3) :
    Calls Tryd.prog 52 #[.agg (dvC (.slice (some ⟨B, 0, none⟩) n cap) (dgL zs v) pr st tk).toArray, .slice (some ⟨b, 0, none⟩) N acap] w (RepOk w zs (v, pr, st, tk) js N a0 a1 a2 a3) := by
  have hzL : okL zs = true := (okV_out (okDev_out hv).1).1
  obtain ⟨hz1, h8, hin, z1, z2⟩ := okL_out hzL
  have hID : (Tryd.prog.info? 33).map (·.size) = some 12 := Tryd.infoDev
  have hIR : (Tryd.prog.info? 89).map (·.size) = some 14 := Tryd.infoRep
  obtain ⟨V, hV⟩ : ∃ V, V = (w.alloc (.cells (dvC (.slice (some ⟨B, 0, none⟩) n cap) (dgL zs v) pr st tk).toArray 33)).alloc (.cells #[.slice none 0 0, .int .u8 0, .int .u8 0, .int .u8 0, .int .u8 0, .int .u8 0, .int .u8 0, .int .u8 0, .int .u8 0, .int .i64 0, .bool false, .int .i64 0, .slice none 0 0, .int .i64 0] 89) := ⟨_, rfl⟩
  have bV : Below w.heap.size w V := by rw [hV]; exact ((Below.refl _ _).alloc (Nat.le_refl _) _).alloc (by simp) _
  have sV : V.heap.size = w.heap.size + 1 + 1 := by rw [hV]; simp
  have rP : Row V w.heap.size 33 (dvC (.slice (some ⟨B, 0, none⟩) n cap) (dgL zs v) pr st tk) := by rw [hV]; exact (Row.new w _ _).alloc _
  have rZ : Row V (w.heap.size + 1) 89 rpZ := by
    have h := Row.new (w.alloc (.cells (dvC (.slice (some ⟨B, 0, none⟩) n cap) (dgL zs v) pr st tk).toArray 33)) 89 rpZ
    simp only [World.size_alloc] at h
    rw [hV]; exact h
  have sS := hS.below bV hS.1
  have sN := hSN.below bV trivial
  have sA := hA.below bV hA.1
  have HVD := hid (validDev B n cap zs (dgL zs v) pr st tk V sS hn (dgL_len zs v) (dgL_octD zs v hzL))
  have HV := hid hV; have HSN := hid hSN; have HSV := hid sV
  rw [hv] at HVD
  obtain ⟨i0, hi, iz0, iz1, iz2⟩ := info_parts Tryd.infoNt
  have HAE := hid (fun (W : World) (h : Ast W b js) => actsErr_ok b N acap js W h hN hb h60)
  have HCL := hid (fun (W : World) (h : Stk W B zs) => clone_any B n cap zs W h hn (by omega))
  have HTO := hid (okAs_out hb)
  have HOK := hid hok; have HNN := hid hN; have HZ := hid (show 1 ≤ szL zs ∧ szL zs ≤ 1000000000000 from ⟨z1, z2⟩); have HZL := hid hzL; have HZ2 := hid hz255; have HL := hid (show 1 ≤ zs.length ∧ zs.length ≤ 8 from ⟨hz1, h8⟩); have HA := hid hA
  have HBV := hid bV
  clear hS hn hA hN hSN hV hv hb hok hzL hin z1 z2 hz1 h8 hz255
  go_enter Tryd.func52, Tryd.ntmps52
  go_wp2_with ((with_reducible refine wpList_load_row rfl 33 _ rfl w.heap.size ?_ 33 (dvC (.slice (some ⟨B, 0, none⟩) n cap) (dgL zs v) pr st tk).toArray (0, 0) _ ?_ Tryd.underlying33 ?_ ?_ ?_); rfl; (rw [← HV.out]; exact rP); rfl; exact hID)
  rw [← HV.out]
  refine HVD.out.mono ?_
  rintro e w1 ⟨rfl, hB1⟩
  have bW1 := bV.trans (hB1.mono (by omega))
  replace rP := rP.below hB1 rP.lt; replace rZ := rZ.below hB1 rZ.lt; replace sA := sA.below hB1 sA.1; replace sS := sS.below hB1 sS.1
  have hz1 := hB1.size
  clear hB1 sN
  go_wp2_with fail
  refine (HAE.out w1 sA).mono ?_
  rintro e w2 ⟨rfl, hB2⟩
  have bW2 := bW1.trans (hB2.mono bW1.size)
  replace rP := rP.below hB2 rP.lt; replace rZ := rZ.below hB2 rZ.lt; replace sS := sS.below hB2 sS.1
  have hz2 := hB2.size
  have c0 : w2.cell? ⟨w.heap.size, 0, none⟩ = some (.slice (some ⟨B, 0, none⟩) n cap) := rP.cell 0
  clear hB2 sA bW1
  go_wp2_with fail
  refine (HCL.out w2 sS).mono ?_
  rintro e w3 ⟨vv, rfl, ⟨a, cp, rfl, _, hO⟩, hB3⟩
  obtain ⟨g, rest, rfl, hge, rB⟩ : ∃ g rest, a = some ⟨g, 0, none⟩ ∧ w2.heap.size ≤ g ∧ Row w3 g 5 (zs.map (Value.int .u8) ++ rest) := by
    rcases hO with h0 | h0
    · exact absurd HL.out.1 (by rw [h0]; simp)
    · exact h0
  have bW3 := bW2.trans (hB3.mono bW2.size)
  replace rP := rP.below hB3 rP.lt; replace rZ := rZ.below hB3 rZ.lt
  have c0 : w3.cell? ⟨w.heap.size, 0, none⟩ = some (.slice (some ⟨B, 0, none⟩) n cap) := rP.cell 0
  have f0 := rP.frozen 0
  have lgB : w.heap.size + 1 < g := by have := HSV.out; omega
  have hz3 := hB3.size
  clear hB3 bW2 sS hge hO
  go_wp2_with fail
  obtain ⟨W6, hW6⟩ : ∃ X, X = w3.setCell ⟨w.heap.size, 0, none⟩ (.slice (some ⟨g, 0, none⟩) zs.length cp) := ⟨_, rfl⟩
  have r6 : Row W6 w.heap.size 33 (dvC (.slice (some ⟨g, 0, none⟩) zs.length cp) (dgL zs v) pr st tk) := by rw [hW6]; exact rP.set 0 _
  have z6 : Row W6 (w.heap.size + 1) 89 rpZ := by rw [hW6]; exact rZ.other (by show w.heap.size ≠ w.heap.size + 1; omega) _
  have b6 : Below w.heap.size w W6 := by rw [hW6]; exact bW3.setCell (p := ⟨w.heap.size, 0, none⟩) (Nat.le_refl _) _
  have g6 : Row W6 g 5 (zs.map (Value.int .u8) ++ rest) := by rw [hW6]; exact rB.other (by show w.heap.size ≠ g; omega) _
  have s6 : w.heap.size + 1 + 1 ≤ W6.heap.size := by rw [hW6]; simp; have := HSV.out; omega
  rw [← hW6]
  have hgl := g6.lt
  have HS6 := hid s6; have HGL := hid hgl; have HLG := hid lgB
  clear hW6 c0 f0 rP rZ rB bW3 hz1 hz2 hz3 s6 hgl lgB bV sV
  refine wp_region_held (S := fun W' : World => Row W' w.heap.size 33 (dvC (.slice (some ⟨g, 0, none⟩) zs.length cp) (dgL zs v) pr st tk)) (by kernel_rfl) ?_
  change wpAnyH _ _ _ _ _ _ _ _ (World.drew _)
  obtain ⟨W0, hW0⟩ : ∃ X, X = World.drew (W6) := ⟨_, rfl⟩
  have hD0 : Below (W6).heap.size (W6) W0 := by rw [hW0]; exact (Below.refl _ _).drew
  replace r6 := r6.below hD0 r6.lt
  replace z6 := z6.below hD0 z6.lt
  replace g6 := g6.below hD0 g6.lt
  have bW0 := b6.trans (hD0.mono b6.size)
  have bR : Below W0.heap.size W0 W0 := Below.refl _ _
  rw [← hW0]
  clear hW0 hD0
  have l_r6 := r6.lt
  have l_z6 := z6.lt
  have l_g6 := g6.lt
  have hS0 : (fun W' : World => Row W' w.heap.size 33 (dvC (.slice (some ⟨g, 0, none⟩) zs.length cp) (dgL zs v) pr st tk)) W0 := r6
  refine wpAnyH_takeD (some 29) (i := 0) (v := .agg ((dvC (.slice (some ⟨g, 0, none⟩) zs.length cp) (dgL zs v) pr st tk)).toArray) rfl rfl (by kernel_rfl) (by kernel_rfl) (by kernel_rfl) (fun _ _ _ h => h) (.inl ⟨by kernel_rfl, ?_⟩) hS0 ?_
  · intro w' hw'; exact exec_load_row 33 _ rfl w.heap.size rfl 33 ((dvC (.slice (some ⟨g, 0, none⟩) zs.length cp) (dgL zs v) pr st tk)).toArray _ (hw') Tryd.underlying33 rfl hID
  try simp only [Act.put, List.setIfInBounds_toArray, List.set_cons_zero, List.set_cons_succ]
  refine wpAnyH_takeD (some 30) (i := 1) (v := .agg (rpC (dvC (.slice (some ⟨g, 0, none⟩) zs.length cp) (dgL zs v) pr st tk) (.slice none 0 0) 0).toArray) rfl rfl (by kernel_rfl) (by kernel_rfl) (by kernel_rfl) (fun _ _ _ h => h) (.inl ⟨by kernel_rfl, ?_⟩) hS0 ?_
  · intro w' _; kernel_rfl
  try simp only [Act.put, List.setIfInBounds_toArray, List.set_cons_zero, List.set_cons_succ]
  refine wpAnyH_takeD (some 31) (i := 2) (v := .agg ((dvC (.slice (some ⟨g, 0, none⟩) zs.length cp) (dgL zs v) pr st tk)).toArray) rfl rfl (by kernel_rfl) (by kernel_rfl) (by kernel_rfl) (fun _ _ _ h => h) (.inl ⟨by kernel_rfl, ?_⟩) hS0 ?_
  · intro w' hw'; exact exec_load_row 33 _ rfl w.heap.size rfl 33 ((dvC (.slice (some ⟨g, 0, none⟩) zs.length cp) (dgL zs v) pr st tk)).toArray _ (hw') Tryd.underlying33 rfl hID
  try simp only [Act.put, List.setIfInBounds_toArray, List.set_cons_zero, List.set_cons_succ]
  refine wpAnyH_all (rs := [3, 4]) (by kernel_rfl) (by simp) ?_
  intro i hi; simp only [List.mem_cons, List.not_mem_nil, or_false] at hi
  rcases hi with rfl | rfl
  · refine wpOp_step rfl (fun K hK => ?_)
    go_simp
    with_reducible refine (journalOf_row (dvC (.slice (some ⟨g, 0, none⟩) zs.length cp) (dgL zs v) pr st tk) W0).mono ?_
    rintro e v1 ⟨rfl, hB1, rJ⟩
    obtain ⟨gJ, hgJ⟩ : ∃ y, (World.heap W0).size = y := ⟨_, rfl⟩
    have lJ0 : W0.heap.size ≤ gJ := by rw [← hgJ]; exact bR.size
    rw [hgJ] at rJ ⊢
    clear hgJ
    replace r6 := r6.below hB1 r6.lt
    replace z6 := z6.below hB1 z6.lt
    replace g6 := g6.below hB1 g6.lt
    replace bR := bR.trans (hB1.mono bR.size)
    have hS1 : (fun W' : World => Row W' w.heap.size 33 (dvC (.slice (some ⟨g, 0, none⟩) zs.length cp) (dgL zs v) pr st tk)) v1 := r6
    refine hK _ _ ⟨hS1, ?_⟩
    try simp only [Act.put, List.setIfInBounds_toArray, List.set_cons_zero, List.set_cons_succ]
    clear hB1 hK K hS0
    refine wpAnyH_all (rs := [4]) (by kernel_rfl) (by simp) ?_
    intro i hi; simp only [List.mem_cons, List.not_mem_nil, or_false] at hi
    subst hi
    refine wpOp_step rfl (fun K hK => ?_)
    go_simp
    have r7 := Row.new v1 89 [.slice none 0 0, .int .u8 0, .int .u8 0, .int .u8 0, .int .u8 0, .int .u8 0, .int .u8 0, .int .u8 0, .int .u8 0, .int .i64 0, .bool false, .int .i64 0, .slice none 0 0, .int .i64 0]
    have hA : Below v1.heap.size v1 (v1.alloc (.cells #[.slice none 0 0, .int .u8 0, .int .u8 0, .int .u8 0, .int .u8 0, .int .u8 0, .int .u8 0, .int .u8 0, .int .u8 0, .int .i64 0, .bool false, .int .i64 0, .slice none 0 0, .int .i64 0] 89)) := (Below.refl _ _).alloc (Nat.le_refl _) _
    replace r6 := r6.below hA r6.lt
    replace z6 := z6.below hA z6.lt
    replace g6 := g6.below hA g6.lt
    replace rJ := rJ.below hA rJ.lt
    have l_r7 := bR.size
    replace bR := bR.trans (hA.mono bR.size)
    have hS2 : (fun W' : World => Row W' w.heap.size 33 (dvC (.slice (some ⟨g, 0, none⟩) zs.length cp) (dgL zs v) pr st tk)) (v1.alloc (.cells #[.slice none 0 0, .int .u8 0, .int .u8 0, .int .u8 0, .int .u8 0, .int .u8 0, .int .u8 0, .int .u8 0, .int .u8 0, .int .i64 0, .bool false, .int .i64 0, .slice none 0 0, .int .i64 0] 89)) := r6
    refine hK _ _ ⟨hS2, ?_⟩
    try simp only [Act.put, List.setIfInBounds_toArray, List.set_cons_zero, List.set_cons_succ]
    obtain ⟨X2, hX2⟩ : ∃ X, X = v1.alloc (.cells #[.slice none 0 0, .int .u8 0, .int .u8 0, .int .u8 0, .int .u8 0, .int .u8 0, .int .u8 0, .int .u8 0, .int .u8 0, .int .i64 0, .bool false, .int .i64 0, .slice none 0 0, .int .i64 0] 89) := ⟨_, rfl⟩
    obtain ⟨g_r7, hg_r7⟩ : ∃ y, (World.heap v1).size = y := ⟨_, rfl⟩
    rw [← hX2] at r6 z6 g6 rJ r7 bR hS2 ⊢
    rw [hg_r7] at r7 l_r7 ⊢
    have Hg_r7 := hid hg_r7
    clear hX2 hA hK K hg_r7 hS1
    refine wpAnyH_all (rs := [5]) (by kernel_rfl) (by simp) ?_
    intro i hi; simp only [List.mem_cons, List.not_mem_nil, or_false] at hi
    subst hi
    refine wpOp_step rfl (fun K hK => ?_)
    rw [if_pos (by kernel_rfl)]
    refine wp_store_mid 89 (.tmp 7) (.tmp 30) rfl (g_r7) 0 ((rpC (dvC (.slice (some ⟨g, 0, none⟩) zs.length cp) (dgL zs v) pr st tk) (.slice none 0 0) 0) : List Value).toArray rfl rfl (r7.thereO 0 14 (by rw [show ([.slice none 0 0, .int .u8 0, .int .u8 0, .int .u8 0, .int .u8 0, .int .u8 0, .int .u8 0, .int .u8 0, .int .u8 0, .int .i64 0, .bool false, .int .i64 0, .slice none 0 0, .int .i64 0] : List Value).length = 14 from rfl]; omega)) hIR (all_oneCell_toArray (rpC_one _ _ _ _ _ _ _ _ rfl _)) ?_
    obtain ⟨X3, hX3⟩ : ∃ X, X = World.setCells X2 (g_r7) 0 ((rpC (dvC (.slice (some ⟨g, 0, none⟩) zs.length cp) (dgL zs v) pr st tk) (.slice none 0 0) 0) : List Value) := ⟨_, rfl⟩
    have n7 : Row X3 g_r7 89 (rpC (dvC (.slice (some ⟨g, 0, none⟩) zs.length cp) (dgL zs v) pr st tk) (.slice none 0 0) 0) := by rw [hX3]; exact r7.setAll rfl
    have nJ : Row X3 gJ 33 (dvC (.slice (some ⟨g, 0, none⟩) zs.length cp) (dgL zs v) pr st tk) := by rw [hX3]; exact rJ.setCellsO (show gJ ≠ g_r7 from fun e => by rw [e] at rJ; exact absurd (row_type rJ r7) (by decide)) _ _
    replace r6 : Row X3 w.heap.size 33 (dvC (.slice (some ⟨g, 0, none⟩) zs.length cp) (dgL zs v) pr st tk) := by rw [hX3]; exact r6.setCellsO (by have := Hg_r7.out; have := l_r7; have := l_g6; have := HLG.out; omega) _ _
    have nZ : Row X3 (w.heap.size + 1) 89 rpZ := by rw [hX3]; exact z6.setCellsO (by have := Hg_r7.out; have := l_r7; have := l_g6; have := HLG.out; omega) _ _
    have nG : Row X3 g 5 (zs.map (Value.int .u8) ++ rest) := by rw [hX3]; exact g6.setCellsO (by have := Hg_r7.out; have := l_r7; have := l_g6; have := HLG.out; omega) _ _
    have nB : Below w.heap.size w X3 := by rw [hX3]; exact below_setCellsD _ _ _ (bW0.trans (bR.mono bW0.size)) (by have := Hg_r7.out; have := l_r7; have := l_g6; have := HLG.out; omega)
    have hS3 : (fun W' : World => Row W' w.heap.size 33 (dvC (.slice (some ⟨g, 0, none⟩) zs.length cp) (dgL zs v) pr st tk)) X3 := r6
    have hXX3 : World.setCells X2 (g_r7) 0 ((rpC (dvC (.slice (some ⟨g, 0, none⟩) zs.length cp) (dgL zs v) pr st tk) (.slice none 0 0) 0) : List Value).toArray.toList = X3 := hX3.symm
    rw [hXX3]
    refine hK _ _ ⟨hS3, ?_⟩
    try simp only [Act.put, List.setIfInBounds_toArray, List.set_cons_zero, List.set_cons_succ]
    clear hX3 hXX3 hK K hS2
    refine wpAnyH_takeD (some 8) (i := 6) (v := ?_) rfl rfl (by kernel_rfl) (by kernel_rfl) (by kernel_rfl) (fun _ _ _ h => h) (.inl ⟨by kernel_rfl, ?_⟩) hS3 ?_
    rotate_left
    · intro w' hw'; go_simp; try with_reducible rfl
    try simp only [Act.put, List.setIfInBounds_toArray, List.set_cons_zero, List.set_cons_succ]
    refine wpAnyH_done (by kernel_rfl) ?_ _
    have hJ7 : gJ ≠ g_r7 := fun e => by rw [e] at nJ; exact absurd (row_type nJ n7) (by decide)
    have HJ := hid (show (w.heap.size + 1 < g ∧ g < gJ ∧ g < g_r7 ∧ gJ ≠ g_r7) ∧ gJ < (World.heap X3).size ∧ g_r7 < (World.heap X3).size from ⟨⟨by have := HLG.out; omega, by have := l_g6; omega, by have := Hg_r7.out; have := l_r7; have := l_g6; omega, hJ7⟩, nJ.lt, n7.lt⟩)
    clear hJ7 bR bW0 rJ g6 z6 r6
    go_wp2_with fail
    go_loopw [35] (fun i wr => ∃ (k : Nat) (nv : Value), k ≤ N ∧ i = .int .i64 k ∧ okRp (szL zs) (v, pr, st, tk) js k ∧ Row wr gJ 33 (dvC (.slice (some ⟨g, 0, none⟩) zs.length cp) (dgL zs (stF (szL zs) (v, pr, st, tk) js k).1) (stF (szL zs) (v, pr, st, tk) js k).2.1 (stF (szL zs) (v, pr, st, tk) js k).2.2.1 (stF (szL zs) (v, pr, st, tk) js k).2.2.2) ∧ Row wr g_r7 89 (rpC (dvC (.slice (some ⟨g, 0, none⟩) zs.length cp) (dgL zs (stF (szL zs) (v, pr, st, tk) js k).1) (stF (szL zs) (v, pr, st, tk) js k).2.1 (stF (szL zs) (v, pr, st, tk) js k).2.2.1 (stF (szL zs) (v, pr, st, tk) js k).2.2.2) nv (suF (szL zs) (v, pr, st, tk) js k)) ∧ Row wr (w.heap.size + 1) 89 rpZ ∧ Row wr g 5 (zs.map (Value.int .u8) ++ rest) ∧ wr.ownsRow (World.heap X3).size 87 11 nv k (ntL (szL zs) zs (v, pr, st, tk) js k) ∧ (World.heap X3).size ≤ wr.heap.size ∧ Below w.heap.size w wr) (fun i _ => N - (intOf i).toNat)
    case atStart => exact ⟨0, .slice none 0 0, Nat.zero_le _, rfl, okRp_zero _ _ _, nJ, n7, nZ, nG, ⟨rfl, .inl ⟨rfl, rfl⟩⟩, Nat.le_refl _, nB⟩
    case round =>
      clear nJ n7 nZ nG nB
      obtain ⟨k, nv, hk, rfl, hokR, rJ, r7, rZ, rG, hown, hbs, hB⟩ := hrel
      have hzr := hB.size
      obtain ⟨bs, hbs0⟩ : ∃ y, (World.heap X3).size = y := ⟨_, rfl⟩
      rw [hbs0] at hown hbs
      have HJ' := HJ.out
      rw [hbs0] at HJ'
      have HJJ := hid HJ'
      have HBS := hid hbs0
      clear HJ' hbs0
      have hzz := HZ.out
      by_cases hkn : k < N
      · have hkl : k < js.length := by have := HNN.out; omega
        obtain ⟨x0, x1⟩ := (HA.out.below hB HA.out.1).2.1 k hkl
        have hst := stF_ok HZ.out.1 HOK.out HTO.out k (by omega)
        have hsb := suF_bd HZ.out.1 HOK.out HTO.out k (by omega)
        have hsc := suF_bd HZ.out.1 HOK.out HTO.out (k + 1) (by omega)
        have ha := HTO.out k hkl
        have eN := ntL_succ (szL zs) zs (v, pr, st, tk) js k
        have eS : suF (szL zs) (v, pr, st, tk) js (k + 1) = suF (szL zs) (v, pr, st, tk) js k + loF (szL zs) (v, pr, st, tk) js k := rfl
        have HST := hid (fun h => okRp_succ (k := k) hokR h)
        have HER := hid (fun h => rpE_err (N := N) hokR h hkn)
        have e1 : cdF (szL zs) (v, pr, st, tk) js k = (actF (szL zs) (stF (szL zs) (v, pr, st, tk) js k) (ak js k) (an js k)).1 := rfl
        have e2 : stF (szL zs) (v, pr, st, tk) js (k + 1) = (actF (szL zs) (stF (szL zs) (v, pr, st, tk) js k) (ak js k) (an js k)).2.1 := rfl
        have e3 : loF (szL zs) (v, pr, st, tk) js k = (actF (szL zs) (stF (szL zs) (v, pr, st, tk) js k) (ak js k) (an js k)).2.2 := rfl
        unfold ntP at eN
        obtain ⟨⟨sv, spr, sst, stk⟩, hS⟩ : ∃ T : DS, stF (szL zs) (v, pr, st, tk) js k = T := ⟨_, rfl⟩
        obtain ⟨p, hp⟩ : ∃ y, ak js k = y := ⟨_, rfl⟩
        obtain ⟨q, hq⟩ : ∃ y, an js k = y := ⟨_, rfl⟩
        rw [hS] at rJ r7 hst e1 e2 e3
        rw [hp] at x0 ha e1 e2 e3 eN
        rw [hq] at x1 ha e1 e2 e3 eN
        have hcd := actF_code (z := (szL zs)) (S := (sv, spr, sst, stk)) p q
        obtain ⟨⟨c, ⟨tv, tpr, tst, ttk⟩, l⟩, hAct⟩ : ∃ T : Int × DS × Int, actF (szL zs) (sv, spr, sst, stk) p q = T := ⟨_, rfl⟩
        rw [hAct] at e1 e2 e3 hcd
        simp only at e1 e2 e3 hcd
        rw [e2, e3] at eN
        rw [e3] at eS
        rw [eS] at hsc
        obtain ⟨sm, hsm⟩ : ∃ y, suF (szL zs) (v, pr, st, tk) js k = y := ⟨_, rfl⟩
        rw [hsm] at hsb hsc eS r7
        simp only at rJ r7
        have k0 : (0 : Int) ≤ (k : Int) := by omega
        have k1 : (k : Int) < (N : Int) := by omega
        have w1' : IntKind.i64.wrap ((k : Int) + 1) = (k : Int) + 1 := IntWalk.i64_in _ (by omega)
        have wl : IntKind.i64.wrap (sm + l) = sm + l := IntWalk.i64_in _ (by omega)
        obtain ⟨V2, hV2⟩ : ∃ X, X = wr.alloc (.cells #[.int .i8 p, .int .i64 q] 37) := ⟨_, rfl⟩
        have aV2 : Below wr.heap.size wr V2 := by rw [hV2]; exact (Below.refl _ _).alloc (Nat.le_refl _) _
        have sV2 : V2.heap.size = wr.heap.size + 1 := by rw [hV2]; simp
        replace rJ := rJ.below aV2 rJ.lt; replace r7 := r7.below aV2 r7.lt; replace rZ := rZ.below aV2 rZ.lt; replace rG := rG.below aV2 rG.lt
        have hown2 := owns_belowP hown aV2
        have bV2 : Below w.heap.size w V2 := hB.trans (aV2.mono hzr)
        have sN2 := HSN.out.below bV2 trivial
        have sS2 := rowB_stk rG HZ2.out (by have := HL.out; omega)
        by_cases hc : c = 0
        · subst hc
          have HNX := hid (journal_ok gJ g zs.length cp zs sv spr sst stk p q tv tpr tst ttk l V2 rJ sS2 (by have := HJJ.out; omega) rfl HZL.out hst ha a0 a1 a2 a3 sN2 hAct)
          have HE2 := hid e2; have HEN := hid eN; have HES := hid eS; have HC := hid (HST.out e1); have HSM := hid hsm
          have HV2 := hid hV2; have HSV2 := hid sV2
          have R7 := hid r7; have RZ7 := hid rZ; have RG7 := hid rG; have HOW := hid hown2; have HBV2 := hid bV2; have HBS2 := hid hbs
          clear hS hp hq hAct e1 e2 e3 eN eS hsb hsc hst ha rJ r7 rZ rG hown hown2 hokR hcd sN2 sS2 aV2 bV2 hV2 sV2 HST HER hB hbs hsm
          go_wp2_with fail
          clear x0 x1
          rw [← HV2.out]
          refine HNX.out.mono ?_
          rintro e w3 ⟨rfl, rJ, hBD, hK⟩
          have hsz := hBD.size
          have hjn := HJJ.out
          have r7 := R7.out.keepD (by omega) hK
          have rZ := RZ7.out.keepD (by omega) hK
          have rG := RG7.out.keepD (by omega) hK
          have hown := owns_keepD HOW.out (by omega : gJ < bs) hK
          have hB3 : Below w.heap.size w w3 := HBV2.out.trans (hBD.mono (by omega))
          obtain ⟨V4, hV4⟩ : ∃ X, X = ((World.alloc w3 (.cells #[.slice none 0 0, .int .u8 0, .int .u8 0, .int .u8 0, .int .u8 0, .int .u8 0, .int .u8 0, .int .u8 0, .int .u8 0, .int .i64 0, .bool false, .int .i64 0] 33)).alloc (.cells #[.int .i8 0, .int .i64 0, .int .u8 0, .int .u8 0, .int .u8 0, .int .u8 0, .int .u8 0, .int .u8 0, .int .u8 0, .int .u8 0, .int .i64 0] 87)) := ⟨_, rfl⟩
          have bV4 : Below w3.heap.size w3 V4 := by rw [hV4]; exact ((Below.refl _ _).alloc (Nat.le_refl _) _).alloc (by simp) _
          have t11 : Row V4 w3.heap.size 33 dvZ := by rw [hV4]; exact (Row.new _ _ _).alloc _
          have t12 : Row V4 (w3.heap.size + 1) 87 ntZ := by
            have h := Row.new (w3.alloc (.cells #[.slice none 0 0, .int .u8 0, .int .u8 0, .int .u8 0, .int .u8 0, .int .u8 0, .int .u8 0, .int .u8 0, .int .u8 0, .int .i64 0, .bool false, .int .i64 0] 33)) 87 ntZ
            simp only [World.size_alloc] at h
            rw [hV4]; exact h
          have sV4 : V4.heap.size = w3.heap.size + 1 + 1 := by rw [hV4]; simp
          have hb3 := HBS2.out
          have hs2 := HSV2.out
          have T11 := t11.thereO 0 12 (by rw [dvZ_len]; omega)
          have T12 : ∀ ys : List Value, (World.setCells V4 w3.heap.size 0 ys).there (w3.heap.size + 1) 0 11 := fun ys => (t12.setCellsO (by omega) ys 0).thereO 0 11 (by rw [ntZ_len]; omega)
          rw [hV4] at T11 T12
          have hIN : (Tryd.prog.info? 87).map (·.size) = some 11 := Tryd.infoNote
          go_upto_region 12 with (first | ((with_reducible refine wpList_store_mid rfl 33 _ _ rfl w3.heap.size 0 (dvC (.slice (some ⟨g, 0, none⟩) zs.length cp) (dgL zs tv) tpr tst ttk).toArray ?_ ?_ ?_ ?_ (all_oneCell_toArray (dvC_one _ _ _ _ _ _ _)) ?_); rfl; rfl; exact T11; exact hID) | ((with_reducible refine wpList_store_mid rfl 87 _ _ rfl (w3.heap.size + 1) 0 (ntC p q (dgL zs tv) l).toArray ?_ ?_ ?_ ?_ (all_oneCell_toArray (ntC_one _ _ _ _)) ?_); rfl; rfl; exact T12 _; exact hIN))
          rw [← hV4]
          obtain ⟨W4, hW4⟩ : ∃ X, X = World.setCells (World.setCells V4 w3.heap.size 0 (dvC (.slice (some ⟨g, 0, none⟩) zs.length cp) (dgL zs tv) tpr tst ttk)) (w3.heap.size + 1) 0 (ntC p q (dgL zs tv) l) := ⟨_, rfl⟩
          have r11 : Row W4 w3.heap.size 33 (dvC (.slice (some ⟨g, 0, none⟩) zs.length cp) (dgL zs tv) tpr tst ttk) := by rw [hW4]; exact (t11.setAll (ys := (dvC (.slice (some ⟨g, 0, none⟩) zs.length cp) (dgL zs tv) tpr tst ttk)) rfl).setCellsO (g := w3.heap.size + 1) (by omega) (ntC p q (dgL zs tv) l) 0
          have r12 : Row W4 (w3.heap.size + 1) 87 (ntC p q (dgL zs tv) l) := by rw [hW4]; exact (t12.setCellsO (g := w3.heap.size) (by omega) (dvC (.slice (some ⟨g, 0, none⟩) zs.length cp) (dgL zs tv) tpr tst ttk) 0).setAll (ys := (ntC p q (dgL zs tv) l)) rfl
          have bW4 : Below w3.heap.size w3 W4 := by rw [hW4]; exact below_setCellsD (g := w3.heap.size + 1) (ntC p q (dgL zs tv) l) 0 _ (below_setCellsD (g := w3.heap.size) (dvC (.slice (some ⟨g, 0, none⟩) zs.length cp) (dgL zs tv) tpr tst ttk) 0 _ bV4 (Nat.le_refl _)) (by omega)
          have hW4' : World.setCells (World.setCells V4 w3.heap.size 0 (dvC (.slice (some ⟨g, 0, none⟩) zs.length cp) (dgL zs tv) tpr tst ttk).toArray.toList) (w3.heap.size + 1) 0 (ntC p q (dgL zs tv) l).toArray.toList = W4 := hW4.symm
          first | rw [hW4'] | rw [← hW4]
          have hltO := fun (kk : Nat) (e : nv.ownBlock = some kk) => (hown.lt kk e)
          replace rJ := rJ.below bW4 rJ.lt; replace r7 := r7.below bW4 r7.lt; replace rZ := rZ.below bW4 rZ.lt; replace rG := rG.below bW4 rG.lt
          replace hown := owns_belowP hown bW4
          have hB4 : Below w.heap.size w W4 := hB3.trans (bW4.mono hB3.size)
          have hs4 := bW4.size
          clear hW4 hW4' T11 T12 bV4 t11 t12 hV4 hK hBD
          have T7 := r7.thereO 0 12 (by rw [rpC_len]; omega)
          go_upto_region 15 with (first | ((with_reducible refine wpList_load_row rfl 33 _ rfl w3.heap.size ?_ 33 (dvC (.slice (some ⟨g, 0, none⟩) zs.length cp) (dgL zs tv) tpr tst ttk).toArray (0, 0) _ ?_ Tryd.underlying33 ?_ ?_ ?_); rfl; exact r11; rfl; exact hID) | ((with_reducible refine wpList_store_mid rfl 33 _ _ rfl g_r7 0 (dvC (.slice (some ⟨g, 0, none⟩) zs.length cp) (dgL zs tv) tpr tst ttk).toArray ?_ ?_ ?_ ?_ (all_oneCell_toArray (dvC_one _ _ _ _ _ _ _)) ?_); rfl; rfl; exact T7; exact hID))
          obtain ⟨W5, hW5⟩ : ∃ X, X = World.setCells W4 g_r7 0 (dvC (.slice (some ⟨g, 0, none⟩) zs.length cp) (dgL zs tv) tpr tst ttk) := ⟨_, rfl⟩
          have q7 : Row W5 g_r7 89 (rpC (dvC (.slice (some ⟨g, 0, none⟩) zs.length cp) (dgL zs tv) tpr tst ttk) nv sm) := by rw [hW5]; exact r7.setDev
          have q12 : Row W5 (w3.heap.size + 1) 87 (ntC p q (dgL zs tv) l) := by rw [hW5]; exact r12.setCellsO (by omega) _ _
          have qJ : Row W5 gJ 33 (dvC (.slice (some ⟨g, 0, none⟩) zs.length cp) (dgL zs tv) tpr tst ttk) := by rw [hW5]; exact rJ.setCellsO (by omega) _ _
          have qZ : Row W5 (w.heap.size + 1) 89 rpZ := by rw [hW5]; exact rZ.setCellsO (by omega) _ _
          have qG : Row W5 g 5 (zs.map (Value.int .u8) ++ rest) := by rw [hW5]; exact rG.setCellsO (by omega) _ _
          have qO : W5.ownsRow bs 87 11 nv k (ntL (szL zs) zs (v, pr, st, tk) js k) := by rw [hW5]; exact owns_setCells hown (by omega) _ _
          have hB5 : Below w.heap.size w W5 := by rw [hW5]; exact below_setCellsD _ _ _ hB4 (by omega)
          have hs5 : W5.heap.size = W4.heap.size := by rw [hW5]; exact size_setCellsD _ _ _
          have hW5' : World.setCells W4 g_r7 0 (dvC (.slice (some ⟨g, 0, none⟩) zs.length cp) (dgL zs tv) tpr tst ttk).toArray.toList = W5 := hW5.symm
          first | rw [hW5'] | rw [← hW5]
          clear hW5 hW5' T7 r7 r12 r11 rJ rZ rG hown hB4 hB3
          have c12 : W5.cell? ⟨g_r7, 12, none⟩ = some nv := q7.cell 12
          have HO4 := hid (qO.alloc (.cells (ntC p q (dgL zs tv) l).toArray 87))
          have nc := hid (cellsAt (Row.new W5 87 (ntC p q (dgL zs tv) l)))
          have HB6 := hid (show Below w.heap.size w (W5.alloc (.cells (ntC p q (dgL zs tv) l).toArray 87)) from hB5.alloc hB5.size _)
          have Q7 := hid q7; have Q12 := hid q12; have QJ := hid qJ; have QZ := hid qZ; have QG := hid qG; have HLT := hid hltO
          have HS5 := hid hs5
          have hnl : (ntC p q (dgL zs tv) l).length = 11 := ntC_len _ _ _ _
          have HBW := hid (show bs ≤ (W5.alloc (.cells (ntC p q (dgL zs tv) l).toArray 87)).heap.size by simp; omega)
          clear q7 qJ qZ qG qO hB5 hltO hs5
          go_upto_region 16 with (first | ((with_reducible refine wpList_load_row rfl 87 _ rfl (w3.heap.size + 1) ?_ 87 (ntC p q (dgL zs tv) l).toArray (0, 0) _ ?_ Tryd.underlying87 ?_ ?_ ?_); rfl; exact q12; rfl; exact hIN) | (at_builtin; rw [ntFold]; refine wpList_append_own _ rfl _ _ 62 rfl bs 87 i0 (.agg #[.int .i8 0, .int .i64 0, .int .u8 0, .int .u8 0, .int .u8 0, .int .u8 0, .int .u8 0, .int .u8 0, .int .u8 0, .int .u8 0, .int .i64 0]) 11 32 Tryd.underlying62 hi iz0 iz1 iz2 rfl (by decide) _ _ _ rfl HO4.out ⟨W5.heap.size, 0, none⟩ 1 1 (ntC p q (dgL zs tv) l) rfl rfl nc.out (ntC_one _ _ _ _) (by unfold maxLen; omega) (by omega) HBW.out ?_; rintro v' w6 hown' hgrow -; have x7 := (Q7.out.alloc (.cells (ntC p q (dgL zs tv) l).toArray 87)).grown' hgrow (owns_lt HO4.out (by omega)); have c12 : w6.cell? ⟨g_r7, 12, none⟩ = some nv := x7.cell 12; have f12 := x7.frozen 12; have OWN := hid hown'; obtain ⟨ga, na, ca, hva⟩ : ∃ a n c, v' = .slice a n c := (by rcases hown'.2 with ⟨h0, _⟩ | ⟨g9, c9, u9, h0, _⟩ <;> exact ⟨_, _, _, h0⟩); have GRW := hid hgrow; clear hown' hgrow; subst hva))
          have hgrow := GRW.out
          have hs5 := HS5.out
          have y7 := (Q7.out.alloc (.cells (ntC p q (dgL zs tv) l).toArray 87)).grown' hgrow (owns_lt HO4.out (by omega))
          have yJ := (QJ.out.alloc (.cells (ntC p q (dgL zs tv) l).toArray 87)).grown' hgrow (owns_lt HO4.out (by omega))
          have yZ := (QZ.out.alloc (.cells (ntC p q (dgL zs tv) l).toArray 87)).grown' hgrow (owns_lt HO4.out (by omega))
          have yG := (QG.out.alloc (.cells (ntC p q (dgL zs tv) l).toArray 87)).grown' hgrow (owns_lt HO4.out (by omega))
          have y12 := (Q12.out.alloc (.cells (ntC p q (dgL zs tv) l).toArray 87)).grown' hgrow (fun e => by have := (HLT.out _ e.symm).2; omega)
          have bel6 : Below w.heap.size w w6 := HB6.out.grown hgrow (by simp; omega) (fun k e => by have := (HO4.out.lt k e).1; omega)
          have hs6 : W5.heap.size ≤ w6.heap.size := by have := hgrow.size; simp at this; omega
          obtain ⟨W7, hW7⟩ : ∃ X, X = w6.setCell ⟨g_r7, 12, none⟩ (.slice ga na ca) := ⟨_, rfl⟩
          have z7 : Row W7 g_r7 89 (rpC (dvC (.slice (some ⟨g, 0, none⟩) zs.length cp) (dgL zs tv) tpr tst ttk) (.slice ga na ca) sm) := by rw [hW7]; exact y7.set 12 _
          have zJ : Row W7 gJ 33 (dvC (.slice (some ⟨g, 0, none⟩) zs.length cp) (dgL zs tv) tpr tst ttk) := by rw [hW7]; exact yJ.other (by show g_r7 ≠ gJ; omega) _
          have zZ : Row W7 (w.heap.size + 1) 89 rpZ := by rw [hW7]; exact yZ.other (by show g_r7 ≠ w.heap.size + 1; omega) _
          have zG : Row W7 g 5 (zs.map (Value.int .u8) ++ rest) := by rw [hW7]; exact yG.other (by show g_r7 ≠ g; omega) _
          have z12 : Row W7 (w3.heap.size + 1) 87 (ntC p q (dgL zs tv) l) := by rw [hW7]; exact y12.other (by show g_r7 ≠ w3.heap.size + 1; omega) _
          have zO : W7.ownsRow bs 87 11 (.slice ga na ca) (k + 1) (ntL (szL zs) zs (v, pr, st, tk) js k ++ (ntC p q (dgL zs tv) l)) := by rw [hW7]; exact owns_set OWN.out (by show g_r7 < bs; omega) _
          have bel7 : Below w.heap.size w W7 := by rw [hW7]; exact bel6.setCell (p := ⟨g_r7, 12, none⟩) (by show w.heap.size ≤ g_r7; omega) _
          have hs7 : W7.heap.size = w6.heap.size := by rw [hW7]; simp
          rw [← hW7]
          clear hW7 y7 yJ yZ yG y12 bel6 c12 f12 x7 q12 hgrow
          have c13 : W7.cell? ⟨g_r7, 13, none⟩ = some (.int .i64 sm) := z7.cell 13
          have f13 := z7.frozen 13
          have cN : W7.cell? ⟨w3.heap.size + 1, 10, none⟩ = some (.int .i64 l) := z12.cell 10
          go_upto_region 17 with fail
          obtain ⟨W8, hW8⟩ : ∃ X, X = W7.setCell ⟨g_r7, 13, none⟩ (.int .i64 (sm + l)) := ⟨_, rfl⟩
          have u7 := hid (show Row W8 g_r7 89 (rpC (dvC (.slice (some ⟨g, 0, none⟩) zs.length cp) (dgL zs tv) tpr tst ttk) (.slice ga na ca) (sm + l)) by rw [hW8]; exact z7.set 13 _)
          have uJ := hid (show Row W8 gJ 33 (dvC (.slice (some ⟨g, 0, none⟩) zs.length cp) (dgL zs tv) tpr tst ttk) by rw [hW8]; exact zJ.other (by show g_r7 ≠ gJ; omega) _)
          have uZ := hid (show Row W8 (w.heap.size + 1) 89 rpZ by rw [hW8]; exact zZ.other (by show g_r7 ≠ w.heap.size + 1; omega) _)
          have uG := hid (show Row W8 g 5 (zs.map (Value.int .u8) ++ rest) by rw [hW8]; exact zG.other (by show g_r7 ≠ g; omega) _)
          have uO := hid (show W8.ownsRow bs 87 11 (.slice ga na ca) (k + 1) (ntL (szL zs) zs (v, pr, st, tk) js k ++ (ntC p q (dgL zs tv) l)) by rw [hW8]; exact owns_set zO (by show g_r7 < bs; omega) _)
          have bel8 := hid (show Below w.heap.size w W8 by rw [hW8]; exact bel7.setCell (p := ⟨g_r7, 13, none⟩) (by show w.heap.size ≤ g_r7; omega) _)
          have hs8 := hid (show bs ≤ W8.heap.size by rw [hW8]; simp; omega)
          rw [← hW8]
          clear hW8 z7 zJ zZ zG z12 zO bel7 c13 f13 cN hs7 hs6 hs5 hs4 hsz hb3 hs2 sV4
          go_wp2_with fail
          go_roundw
          case rel =>
            refine ⟨k + 1, .slice ga na ca, by omega, by go_num, HC.out, ?_, ?_, uZ.out, uG.out, ?_, ?_, bel8.out⟩
            · rw [HE2.out]; exact uJ.out
            · rw [HE2.out, HES.out]; exact u7.out
            · rw [HEN.out, HBS.out]; exact uO.out
            · rw [HBS.out]; exact hs8.out
          case measure => simp [intOf]; omega
        · obtain ⟨ea, hea⟩ : ∃ a, erV c a2 a3 = .iface 161 (.pointer (some a)) := by
            unfold erV
            rw [if_neg hc]
            split
            · exact ⟨a2, rfl⟩
            · exact ⟨a3, rfl⟩
          have HNX0 := journal_err gJ g zs.length cp zs sv spr sst stk p q c l (tv, tpr, tst, ttk) V2 rJ sS2 (by have := HJJ.out; omega) rfl HZL.out hst ha a0 a1 a2 a3 sN2 hAct hc
          rw [hea] at HNX0
          have HNX := hid HNX0
          have HFIN := hid (show rpE (szL zs) (v, pr, st, tk) js N ≠ 0 ∧ Ending.returned (.tuple #[.agg rpZ.toArray, .iface 161 (.pointer (some ea))]) = .returned (.tuple #[.agg rpZ.toArray, errV (rpE (szL zs) (v, pr, st, tk) js N) a0 a1 a2 a3]) by
            rw [HER.out (by rw [e1]; exact hc), e1]
            exact ⟨hc, by rw [← hea, erV_errV a0 a1 a2 a3 hcd]⟩)
          have HV2 := hid hV2; have RZ7 := hid rZ; have HBV2 := hid bV2
          clear hS hp hq hAct e1 e2 e3 eN eS hsb hsc hst ha rJ r7 rZ rG hown hown2 hokR hcd sN2 sS2 aV2 bV2 hV2 sV2 HST HER hB hbs hsm HNX0 hea hc
          go_wp2_with fail
          clear x0 x1
          rw [← HV2.out]
          refine HNX.out.mono ?_
          rintro e w3 ⟨rfl, hBD⟩
          have rZ := RZ7.out.below hBD RZ7.out.lt
          have hB3 : Below w.heap.size w w3 := HBV2.out.trans (hBD.mono HBV2.out.size)
          obtain ⟨V4, hV4⟩ : ∃ X, X = ((World.alloc w3 (.cells #[.slice none 0 0, .int .u8 0, .int .u8 0, .int .u8 0, .int .u8 0, .int .u8 0, .int .u8 0, .int .u8 0, .int .u8 0, .int .i64 0, .bool false, .int .i64 0] 33)).alloc (.cells #[.int .i8 0, .int .i64 0, .int .u8 0, .int .u8 0, .int .u8 0, .int .u8 0, .int .u8 0, .int .u8 0, .int .u8 0, .int .u8 0, .int .i64 0] 87)) := ⟨_, rfl⟩
          have bV4 : Below w3.heap.size w3 V4 := by rw [hV4]; exact ((Below.refl _ _).alloc (Nat.le_refl _) _).alloc (by simp) _
          have t11 : Row V4 w3.heap.size 33 dvZ := by rw [hV4]; exact (Row.new _ _ _).alloc _
          have t12 : Row V4 (w3.heap.size + 1) 87 ntZ := by
            have h := Row.new (w3.alloc (.cells #[.slice none 0 0, .int .u8 0, .int .u8 0, .int .u8 0, .int .u8 0, .int .u8 0, .int .u8 0, .int .u8 0, .int .u8 0, .int .i64 0, .bool false, .int .i64 0] 33)) 87 ntZ
            simp only [World.size_alloc] at h
            rw [hV4]; exact h
          have lZ := rZ.lt
          replace rZ := rZ.below bV4 lZ
          have hB4 := hB3.trans (bV4.mono hB3.size)
          have hw3 := hB3.size
          have T11 := t11.thereO 0 12 (by rw [dvZ_len]; omega)
          have T12 : ∀ ys : List Value, (World.setCells V4 w3.heap.size 0 ys).there (w3.heap.size + 1) 0 11 := fun ys => (t12.setCellsO (by omega) ys 0).thereO 0 11 (by rw [ntZ_len]; omega)
          have T4 : ∀ ys xs : List Value, (World.setCells (World.setCells V4 w3.heap.size 0 ys) (w3.heap.size + 1) 0 xs).there (w.heap.size + 1) 0 14 := fun ys xs => ((rZ.setCellsO (by omega) ys 0).setCellsO (by omega) xs 0).thereO 0 14 (by rw [rpZ_len]; omega)
          have nZ := ((rZ.setCellsO (g := w3.heap.size) (by omega) dvZ 0).setCellsO (g := w3.heap.size + 1) (by omega) ntZ 0).setAll (ys := rpZ) rfl
          have nB := below_setCellsD (g := (w.heap.size + 1)) rpZ 0 _ (below_setCellsD (g := w3.heap.size + 1) ntZ 0 _ (below_setCellsD (g := w3.heap.size) dvZ 0 _ hB4 (by omega)) (by omega)) (by omega)
          rw [hV4] at T11 T12 T4 nZ nB
          have hIN : (Tryd.prog.info? 87).map (·.size) = some 11 := Tryd.infoNote
          clear hV4
          go_wp2_with (first | ((with_reducible refine wpList_store_mid rfl 33 _ _ rfl w3.heap.size 0 dvZ.toArray ?_ ?_ ?_ ?_ dvZ_oneT ?_); rfl; rfl; exact T11; exact hID) | ((with_reducible refine wpList_store_mid rfl 87 _ _ rfl (w3.heap.size + 1) 0 ntZ.toArray ?_ ?_ ?_ ?_ (all_oneCell_toArray ntZ_one) ?_); rfl; rfl; exact T12 _; exact hIN) | ((with_reducible refine wpList_store_mid rfl 89 _ _ rfl (w.heap.size + 1) 0 rpZ.toArray ?_ ?_ ?_ ?_ (all_oneCell_toArray rpZ_one) ?_); rfl; rfl; exact T4 _ _; exact hIR))
          exact bodyPost_ret (v := .tuple #[.agg rpZ.toArray, .iface 161 (.pointer (some ea))]) (results_cs (p := 4) (q := 5) (fn := Tryd.f52) rfl _ _ _ _ _ _ _ rfl rfl nZ Tryd.underlying89 rfl hIR) rfl ⟨.inr HFIN.out, nB⟩
      · obtain rfl : k = N := by omega
        have k1 : ¬ (k : Int) < (k : Int) := by omega
        have c13 : wr.cell? ⟨g_r7, 13, none⟩ = some (.int .i64 (suF (szL zs) (v, pr, st, tk) js k)) := r7.cell 13
        by_cases hs : 1000000000000 < suF (szL zs) (v, pr, st, tk) js k
        · have HE := hid (rpE_sum hokR hs)
          have bW1 := hB
          have sN := HSN.out.below hB trivial
          obtain ⟨sm, hsm⟩ : ∃ y, suF (szL zs) (v, pr, st, tk) js k = y := ⟨_, rfl⟩
          rw [hsm] at c13 hs
          clear r7 rJ rG hown hokR hbs
          go_wp2_with fail
          refine wp_region_held (S := fun W' : World => SN W' a0 a1 a2 a3) (by kernel_rfl) ?_
          change wpAnyH _ _ _ _ _ _ _ _ (World.drew _)
          obtain ⟨W0, hW0⟩ : ∃ X, X = World.drew (wr) := ⟨_, rfl⟩
          have hD0 : Below (wr).heap.size (wr) W0 := by rw [hW0]; exact (Below.refl _ _).drew
          replace rZ := rZ.below hD0 rZ.lt
          replace sN := sN.below hD0 sN.1
          have bW0 := bW1.trans (hD0.mono bW1.size)
          have bR : Below W0.heap.size W0 W0 := Below.refl _ _
          rw [← hW0]
          clear hW0 hD0
          have l_rZ := rZ.lt
          have l_sN := sN.1
          have hS0 : (fun W' : World => SN W' a0 a1 a2 a3) W0 := sN
          refine wpAnyH_takeD (some 68) (i := 0) (v := ?_) rfl rfl (by kernel_rfl) (by kernel_rfl) (by kernel_rfl) (fun _ _ _ h => h) (.inl ⟨by kernel_rfl, ?_⟩) hS0 ?_
          rotate_left
          · intro w' hw'; go_simp; try with_reducible rfl
          try simp only [Act.put, List.setIfInBounds_toArray, List.set_cons_zero, List.set_cons_succ]
          refine wpAnyH_takeD (some 69) (i := 1) (v := ?_) rfl rfl (by kernel_rfl) (by kernel_rfl) (by kernel_rfl) (fun _ _ _ h => h) (.inl ⟨by kernel_rfl, ?_⟩) hS0 ?_
          rotate_left
          · intro w' hw'; have eG := hw'.2.1.2.2.1; clear hw'; go_simp; try with_reducible rfl
          try simp only [Act.put, List.setIfInBounds_toArray, List.set_cons_zero, List.set_cons_succ]
          refine wpAnyH_all (rs := [2]) (by kernel_rfl) (by simp) ?_
          intro i hi; simp only [List.mem_cons, List.not_mem_nil, or_false] at hi
          subst hi
          refine wpOp_step rfl (fun K hK => ?_)
          rw [if_pos (by kernel_rfl)]
          refine wp_store_mid 89 (.tmp 4) (.tmp 68) rfl ((w.heap.size + 1)) 0 (rpZ : List Value).toArray rfl rfl (rZ.thereO 0 14 (by rw [rpZ_len]; omega)) hIR (all_oneCell_toArray rpZ_one) ?_
          obtain ⟨X1, hX1⟩ : ∃ X, X = World.setCells W0 ((w.heap.size + 1)) 0 (rpZ : List Value) := ⟨_, rfl⟩
          have nZ : Row X1 (w.heap.size + 1) 89 rpZ := by rw [hX1]; exact rZ.setAll rfl
          have nB : Below w.heap.size w X1 := by rw [hX1]; exact below_setCellsD _ _ _ (bW0.trans (bR.mono bW0.size)) (by omega)
          replace sN : SN X1 a0 a1 a2 a3 := HSN.out.below nB trivial
          have hS1 : (fun W' : World => SN W' a0 a1 a2 a3) X1 := sN
          have hXX1 : World.setCells W0 ((w.heap.size + 1)) 0 (rpZ : List Value).toArray.toList = X1 := hX1.symm
          rw [hXX1]
          refine hK _ _ ⟨hS1, ?_⟩
          try simp only [Act.put, List.setIfInBounds_toArray, List.set_cons_zero, List.set_cons_succ]
          clear hX1 hXX1 hK K hS0
          refine wpAnyH_takeD (some 5) (i := 3) (v := ?_) rfl rfl (by kernel_rfl) (by kernel_rfl) (by kernel_rfl) (fun _ _ _ h => h) (.inl ⟨by kernel_rfl, ?_⟩) hS1 ?_
          rotate_left
          · intro w' hw'; go_simp; try with_reducible rfl
          try simp only [Act.put, List.setIfInBounds_toArray, List.set_cons_zero, List.set_cons_succ]
          refine wpAnyH_done (by kernel_rfl) ?_ _
          go_wp2_with fail
          exact bodyPost_ret (v := .tuple #[.agg rpZ.toArray, ES a2]) (results_cs (p := 4) (q := 5) (fn := Tryd.f52) rfl _ _ _ _ _ _ _ rfl rfl nZ Tryd.underlying89 rfl hIR) rfl ⟨.inr ⟨by rw [HE.out]; omega, by rw [HE.out]; rfl⟩, nB⟩
        · have HE := hid (rpE_ok hokR hs)
          have T4 := rZ.thereO 0 14 (by rw [rpZ_len]; omega)
          obtain ⟨sm, hsm⟩ : ∃ y, suF (szL zs) (v, pr, st, tk) js k = y := ⟨_, rfl⟩
          have HSM := hid hsm
          rw [hsm] at c13 hs r7
          have hnv := owns_one hown
          have hjn := HJJ.out
          have HR7 := hid r7
          clear rJ hokR hsm
          go_wp2_with (first | ((with_reducible refine wpList_load_row rfl 89 _ rfl g_r7 ?_ 89 (rpC (dvC (.slice (some ⟨g, 0, none⟩) zs.length cp) (dgL zs (stF (szL zs) (v, pr, st, tk) js k).1) (stF (szL zs) (v, pr, st, tk) js k).2.1 (stF (szL zs) (v, pr, st, tk) js k).2.2.1 (stF (szL zs) (v, pr, st, tk) js k).2.2.2) nv sm).toArray (0, 0) _ ?_ Tryd.underlying89 ?_ ?_ ?_); rfl; exact HR7.out; rfl; exact hIR) | ((with_reducible refine wpList_store_mid rfl 89 _ _ rfl (w.heap.size + 1) 0 (rpC (dvC (.slice (some ⟨g, 0, none⟩) zs.length cp) (dgL zs (stF (szL zs) (v, pr, st, tk) js k).1) (stF (szL zs) (v, pr, st, tk) js k).2.1 (stF (szL zs) (v, pr, st, tk) js k).2.2.1 (stF (szL zs) (v, pr, st, tk) js k).2.2.2) nv sm).toArray ?_ ?_ ?_ ?_ (all_oneCell_toArray (rpC_one _ _ _ _ _ _ _ _ hnv _)) ?_); rfl; rfl; exact T4; exact hIR))
          have nZ := rZ.setAll (ys := rpC (dvC (.slice (some ⟨g, 0, none⟩) zs.length cp) (dgL zs (stF (szL zs) (v, pr, st, tk) js k).1) (stF (szL zs) (v, pr, st, tk) js k).2.1 (stF (szL zs) (v, pr, st, tk) js k).2.2.1 (stF (szL zs) (v, pr, st, tk) js k).2.2.2) nv sm) rfl
          have nG := rG.setCellsO (g := (w.heap.size + 1)) (by omega) (rpC (dvC (.slice (some ⟨g, 0, none⟩) zs.length cp) (dgL zs (stF (szL zs) (v, pr, st, tk) js k).1) (stF (szL zs) (v, pr, st, tk) js k).2.1 (stF (szL zs) (v, pr, st, tk) js k).2.2.1 (stF (szL zs) (v, pr, st, tk) js k).2.2.2) nv sm) 0
          have nO := owns_setCells (D := (w.heap.size + 1)) hown (by omega) (rpC (dvC (.slice (some ⟨g, 0, none⟩) zs.length cp) (dgL zs (stF (szL zs) (v, pr, st, tk) js k).1) (stF (szL zs) (v, pr, st, tk) js k).2.1 (stF (szL zs) (v, pr, st, tk) js k).2.2.1 (stF (szL zs) (v, pr, st, tk) js k).2.2.2) nv sm) 0
          refine bodyPost_ret (v := .tuple #[.agg (rpC (dvC (.slice (some ⟨g, 0, none⟩) zs.length cp) (dgL zs (stF (szL zs) (v, pr, st, tk) js k).1) (stF (szL zs) (v, pr, st, tk) js k).2.1 (stF (szL zs) (v, pr, st, tk) js k).2.2.1 (stF (szL zs) (v, pr, st, tk) js k).2.2.2) nv sm).toArray, .nilIface]) (results_cs (p := 4) (q := 5) (fn := Tryd.f52) rfl _ _ _ _ _ _ _ rfl rfl nZ Tryd.underlying89 rfl hIR) rfl ⟨.inl ⟨HE.out, g, cp, rest, nv, bs, by rw [HSM.out], nG, by omega, by omega, ?_, nO⟩, below_setCellsD _ _ _ hB (by omega)⟩
          rw [size_setCellsD]; exact hbs
  · refine wpOp_step rfl (fun K hK => ?_)
    go_simp
    have r7 := Row.new W0 89 [.slice none 0 0, .int .u8 0, .int .u8 0, .int .u8 0, .int .u8 0, .int .u8 0, .int .u8 0, .int .u8 0, .int .u8 0, .int .i64 0, .bool false, .int .i64 0, .slice none 0 0, .int .i64 0]
    have hA : Below W0.heap.size W0 (W0.alloc (.cells #[.slice none 0 0, .int .u8 0, .int .u8 0, .int .u8 0, .int .u8 0, .int .u8 0, .int .u8 0, .int .u8 0, .int .u8 0, .int .i64 0, .bool false, .int .i64 0, .slice none 0 0, .int .i64 0] 89)) := (Below.refl _ _).alloc (Nat.le_refl _) _
    replace r6 := r6.below hA r6.lt
    replace z6 := z6.below hA z6.lt
    replace g6 := g6.below hA g6.lt
    have l_r7 := bR.size
    replace bR := bR.trans (hA.mono bR.size)
    have hS4 : (fun W' : World => Row W' w.heap.size 33 (dvC (.slice (some ⟨g, 0, none⟩) zs.length cp) (dgL zs v) pr st tk)) (W0.alloc (.cells #[.slice none 0 0, .int .u8 0, .int .u8 0, .int .u8 0, .int .u8 0, .int .u8 0, .int .u8 0, .int .u8 0, .int .u8 0, .int .i64 0, .bool false, .int .i64 0, .slice none 0 0, .int .i64 0] 89)) := r6
    refine hK _ _ ⟨hS4, ?_⟩
    try simp only [Act.put, List.setIfInBounds_toArray, List.set_cons_zero, List.set_cons_succ]
    obtain ⟨X4, hX4⟩ : ∃ X, X = W0.alloc (.cells #[.slice none 0 0, .int .u8 0, .int .u8 0, .int .u8 0, .int .u8 0, .int .u8 0, .int .u8 0, .int .u8 0, .int .u8 0, .int .i64 0, .bool false, .int .i64 0, .slice none 0 0, .int .i64 0] 89) := ⟨_, rfl⟩
    obtain ⟨g_r7, hg_r7⟩ : ∃ y, (World.heap W0).size = y := ⟨_, rfl⟩
    rw [← hX4] at r6 z6 g6 r7 bR hS4 ⊢
    rw [hg_r7] at r7 l_r7 ⊢
    have Hg_r7 := hid hg_r7
    clear hX4 hA hK K hg_r7 hS0
    refine wpAnyH_all (rs := [3]) (by kernel_rfl) (by simp) ?_
    intro i hi; simp only [List.mem_cons, List.not_mem_nil, or_false] at hi
    subst hi
    refine wpOp_step rfl (fun K hK => ?_)
    go_simp
    with_reducible refine (journalOf_row (dvC (.slice (some ⟨g, 0, none⟩) zs.length cp) (dgL zs v) pr st tk) X4).mono ?_
    rintro e v5 ⟨rfl, hB5, rJ⟩
    obtain ⟨gJ, hgJ⟩ : ∃ y, (World.heap X4).size = y := ⟨_, rfl⟩
    have lJ0 : W0.heap.size ≤ gJ := by rw [← hgJ]; exact bR.size
    rw [hgJ] at rJ ⊢
    clear hgJ
    replace r6 := r6.below hB5 r6.lt
    replace z6 := z6.below hB5 z6.lt
    replace g6 := g6.below hB5 g6.lt
    replace r7 := r7.below hB5 r7.lt
    replace bR := bR.trans (hB5.mono bR.size)
    have hS5 : (fun W' : World => Row W' w.heap.size 33 (dvC (.slice (some ⟨g, 0, none⟩) zs.length cp) (dgL zs v) pr st tk)) v5 := r6
    refine hK _ _ ⟨hS5, ?_⟩
    try simp only [Act.put, List.setIfInBounds_toArray, List.set_cons_zero, List.set_cons_succ]
    clear hB5 hK K hS4
    refine wpAnyH_all (rs := [5]) (by kernel_rfl) (by simp) ?_
    intro i hi; simp only [List.mem_cons, List.not_mem_nil, or_false] at hi
    subst hi
    refine wpOp_step rfl (fun K hK => ?_)
    rw [if_pos (by kernel_rfl)]
    refine wp_store_mid 89 (.tmp 7) (.tmp 30) rfl (g_r7) 0 ((rpC (dvC (.slice (some ⟨g, 0, none⟩) zs.length cp) (dgL zs v) pr st tk) (.slice none 0 0) 0) : List Value).toArray rfl rfl (r7.thereO 0 14 (by rw [show ([.slice none 0 0, .int .u8 0, .int .u8 0, .int .u8 0, .int .u8 0, .int .u8 0, .int .u8 0, .int .u8 0, .int .u8 0, .int .i64 0, .bool false, .int .i64 0, .slice none 0 0, .int .i64 0] : List Value).length = 14 from rfl]; omega)) hIR (all_oneCell_toArray (rpC_one _ _ _ _ _ _ _ _ rfl _)) ?_
    obtain ⟨X6, hX6⟩ : ∃ X, X = World.setCells v5 (g_r7) 0 ((rpC (dvC (.slice (some ⟨g, 0, none⟩) zs.length cp) (dgL zs v) pr st tk) (.slice none 0 0) 0) : List Value) := ⟨_, rfl⟩
    have n7 : Row X6 g_r7 89 (rpC (dvC (.slice (some ⟨g, 0, none⟩) zs.length cp) (dgL zs v) pr st tk) (.slice none 0 0) 0) := by rw [hX6]; exact r7.setAll rfl
    have nJ : Row X6 gJ 33 (dvC (.slice (some ⟨g, 0, none⟩) zs.length cp) (dgL zs v) pr st tk) := by rw [hX6]; exact rJ.setCellsO (show gJ ≠ g_r7 from fun e => by rw [e] at rJ; exact absurd (row_type rJ r7) (by decide)) _ _
    replace r6 : Row X6 w.heap.size 33 (dvC (.slice (some ⟨g, 0, none⟩) zs.length cp) (dgL zs v) pr st tk) := by rw [hX6]; exact r6.setCellsO (by have := Hg_r7.out; have := l_r7; have := l_g6; have := HLG.out; omega) _ _
    have nZ : Row X6 (w.heap.size + 1) 89 rpZ := by rw [hX6]; exact z6.setCellsO (by have := Hg_r7.out; have := l_r7; have := l_g6; have := HLG.out; omega) _ _
    have nG : Row X6 g 5 (zs.map (Value.int .u8) ++ rest) := by rw [hX6]; exact g6.setCellsO (by have := Hg_r7.out; have := l_r7; have := l_g6; have := HLG.out; omega) _ _
    have nB : Below w.heap.size w X6 := by rw [hX6]; exact below_setCellsD _ _ _ (bW0.trans (bR.mono bW0.size)) (by have := Hg_r7.out; have := l_r7; have := l_g6; have := HLG.out; omega)
    have hS6 : (fun W' : World => Row W' w.heap.size 33 (dvC (.slice (some ⟨g, 0, none⟩) zs.length cp) (dgL zs v) pr st tk)) X6 := r6
    have hXX6 : World.setCells v5 (g_r7) 0 ((rpC (dvC (.slice (some ⟨g, 0, none⟩) zs.length cp) (dgL zs v) pr st tk) (.slice none 0 0) 0) : List Value).toArray.toList = X6 := hX6.symm
    rw [hXX6]
    refine hK _ _ ⟨hS6, ?_⟩
    try simp only [Act.put, List.setIfInBounds_toArray, List.set_cons_zero, List.set_cons_succ]
    clear hX6 hXX6 hK K hS5
    refine wpAnyH_takeD (some 8) (i := 6) (v := ?_) rfl rfl (by kernel_rfl) (by kernel_rfl) (by kernel_rfl) (fun _ _ _ h => h) (.inl ⟨by kernel_rfl, ?_⟩) hS6 ?_
    rotate_left
    · intro w' hw'; go_simp; try with_reducible rfl
    try simp only [Act.put, List.setIfInBounds_toArray, List.set_cons_zero, List.set_cons_succ]
    refine wpAnyH_done (by kernel_rfl) ?_ _
    have hJ7 : gJ ≠ g_r7 := fun e => by rw [e] at nJ; exact absurd (row_type nJ n7) (by decide)
    have HJ := hid (show (w.heap.size + 1 < g ∧ g < gJ ∧ g < g_r7 ∧ gJ ≠ g_r7) ∧ gJ < (World.heap X6).size ∧ g_r7 < (World.heap X6).size from ⟨⟨by have := HLG.out; omega, by have := l_g6; omega, by have := Hg_r7.out; have := l_r7; have := l_g6; omega, hJ7⟩, nJ.lt, n7.lt⟩)
    clear hJ7 bR bW0 rJ g6 z6 r6
    go_wp2_with fail
    go_loopw [35] (fun i wr => ∃ (k : Nat) (nv : Value), k ≤ N ∧ i = .int .i64 k ∧ okRp (szL zs) (v, pr, st, tk) js k ∧ Row wr gJ 33 (dvC (.slice (some ⟨g, 0, none⟩) zs.length cp) (dgL zs (stF (szL zs) (v, pr, st, tk) js k).1) (stF (szL zs) (v, pr, st, tk) js k).2.1 (stF (szL zs) (v, pr, st, tk) js k).2.2.1 (stF (szL zs) (v, pr, st, tk) js k).2.2.2) ∧ Row wr g_r7 89 (rpC (dvC (.slice (some ⟨g, 0, none⟩) zs.length cp) (dgL zs (stF (szL zs) (v, pr, st, tk) js k).1) (stF (szL zs) (v, pr, st, tk) js k).2.1 (stF (szL zs) (v, pr, st, tk) js k).2.2.1 (stF (szL zs) (v, pr, st, tk) js k).2.2.2) nv (suF (szL zs) (v, pr, st, tk) js k)) ∧ Row wr (w.heap.size + 1) 89 rpZ ∧ Row wr g 5 (zs.map (Value.int .u8) ++ rest) ∧ wr.ownsRow (World.heap X6).size 87 11 nv k (ntL (szL zs) zs (v, pr, st, tk) js k) ∧ (World.heap X6).size ≤ wr.heap.size ∧ Below w.heap.size w wr) (fun i _ => N - (intOf i).toNat)
    case atStart => exact ⟨0, .slice none 0 0, Nat.zero_le _, rfl, okRp_zero _ _ _, nJ, n7, nZ, nG, ⟨rfl, .inl ⟨rfl, rfl⟩⟩, Nat.le_refl _, nB⟩
    case round =>
      clear nJ n7 nZ nG nB
      obtain ⟨k, nv, hk, rfl, hokR, rJ, r7, rZ, rG, hown, hbs, hB⟩ := hrel
      have hzr := hB.size
      obtain ⟨bs, hbs0⟩ : ∃ y, (World.heap X6).size = y := ⟨_, rfl⟩
      rw [hbs0] at hown hbs
      have HJ' := HJ.out
      rw [hbs0] at HJ'
      have HJJ := hid HJ'
      have HBS := hid hbs0
      clear HJ' hbs0
      have hzz := HZ.out
      by_cases hkn : k < N
      · have hkl : k < js.length := by have := HNN.out; omega
        obtain ⟨x0, x1⟩ := (HA.out.below hB HA.out.1).2.1 k hkl
        have hst := stF_ok HZ.out.1 HOK.out HTO.out k (by omega)
        have hsb := suF_bd HZ.out.1 HOK.out HTO.out k (by omega)
        have hsc := suF_bd HZ.out.1 HOK.out HTO.out (k + 1) (by omega)
        have ha := HTO.out k hkl
        have eN := ntL_succ (szL zs) zs (v, pr, st, tk) js k
        have eS : suF (szL zs) (v, pr, st, tk) js (k + 1) = suF (szL zs) (v, pr, st, tk) js k + loF (szL zs) (v, pr, st, tk) js k := rfl
        have HST := hid (fun h => okRp_succ (k := k) hokR h)
        have HER := hid (fun h => rpE_err (N := N) hokR h hkn)
        have e1 : cdF (szL zs) (v, pr, st, tk) js k = (actF (szL zs) (stF (szL zs) (v, pr, st, tk) js k) (ak js k) (an js k)).1 := rfl
        have e2 : stF (szL zs) (v, pr, st, tk) js (k + 1) = (actF (szL zs) (stF (szL zs) (v, pr, st, tk) js k) (ak js k) (an js k)).2.1 := rfl
        have e3 : loF (szL zs) (v, pr, st, tk) js k = (actF (szL zs) (stF (szL zs) (v, pr, st, tk) js k) (ak js k) (an js k)).2.2 := rfl
        unfold ntP at eN
        obtain ⟨⟨sv, spr, sst, stk⟩, hS⟩ : ∃ T : DS, stF (szL zs) (v, pr, st, tk) js k = T := ⟨_, rfl⟩
        obtain ⟨p, hp⟩ : ∃ y, ak js k = y := ⟨_, rfl⟩
        obtain ⟨q, hq⟩ : ∃ y, an js k = y := ⟨_, rfl⟩
        rw [hS] at rJ r7 hst e1 e2 e3
        rw [hp] at x0 ha e1 e2 e3 eN
        rw [hq] at x1 ha e1 e2 e3 eN
        have hcd := actF_code (z := (szL zs)) (S := (sv, spr, sst, stk)) p q
        obtain ⟨⟨c, ⟨tv, tpr, tst, ttk⟩, l⟩, hAct⟩ : ∃ T : Int × DS × Int, actF (szL zs) (sv, spr, sst, stk) p q = T := ⟨_, rfl⟩
        rw [hAct] at e1 e2 e3 hcd
        simp only at e1 e2 e3 hcd
        rw [e2, e3] at eN
        rw [e3] at eS
        rw [eS] at hsc
        obtain ⟨sm, hsm⟩ : ∃ y, suF (szL zs) (v, pr, st, tk) js k = y := ⟨_, rfl⟩
        rw [hsm] at hsb hsc eS r7
        simp only at rJ r7
        have k0 : (0 : Int) ≤ (k : Int) := by omega
        have k1 : (k : Int) < (N : Int) := by omega
        have w1' : IntKind.i64.wrap ((k : Int) + 1) = (k : Int) + 1 := IntWalk.i64_in _ (by omega)
        have wl : IntKind.i64.wrap (sm + l) = sm + l := IntWalk.i64_in _ (by omega)
        obtain ⟨V2, hV2⟩ : ∃ X, X = wr.alloc (.cells #[.int .i8 p, .int .i64 q] 37) := ⟨_, rfl⟩
        have aV2 : Below wr.heap.size wr V2 := by rw [hV2]; exact (Below.refl _ _).alloc (Nat.le_refl _) _
        have sV2 : V2.heap.size = wr.heap.size + 1 := by rw [hV2]; simp
        replace rJ := rJ.below aV2 rJ.lt; replace r7 := r7.below aV2 r7.lt; replace rZ := rZ.below aV2 rZ.lt; replace rG := rG.below aV2 rG.lt
        have hown2 := owns_belowP hown aV2
        have bV2 : Below w.heap.size w V2 := hB.trans (aV2.mono hzr)
        have sN2 := HSN.out.below bV2 trivial
        have sS2 := rowB_stk rG HZ2.out (by have := HL.out; omega)
        by_cases hc : c = 0
        · subst hc
          have HNX := hid (journal_ok gJ g zs.length cp zs sv spr sst stk p q tv tpr tst ttk l V2 rJ sS2 (by have := HJJ.out; omega) rfl HZL.out hst ha a0 a1 a2 a3 sN2 hAct)
          have HE2 := hid e2; have HEN := hid eN; have HES := hid eS; have HC := hid (HST.out e1); have HSM := hid hsm
          have HV2 := hid hV2; have HSV2 := hid sV2
          have R7 := hid r7; have RZ7 := hid rZ; have RG7 := hid rG; have HOW := hid hown2; have HBV2 := hid bV2; have HBS2 := hid hbs
          clear hS hp hq hAct e1 e2 e3 eN eS hsb hsc hst ha rJ r7 rZ rG hown hown2 hokR hcd sN2 sS2 aV2 bV2 hV2 sV2 HST HER hB hbs hsm
          go_wp2_with fail
          clear x0 x1
          rw [← HV2.out]
          refine HNX.out.mono ?_
          rintro e w3 ⟨rfl, rJ, hBD, hK⟩
          have hsz := hBD.size
          have hjn := HJJ.out
          have r7 := R7.out.keepD (by omega) hK
          have rZ := RZ7.out.keepD (by omega) hK
          have rG := RG7.out.keepD (by omega) hK
          have hown := owns_keepD HOW.out (by omega : gJ < bs) hK
          have hB3 : Below w.heap.size w w3 := HBV2.out.trans (hBD.mono (by omega))
          obtain ⟨V4, hV4⟩ : ∃ X, X = ((World.alloc w3 (.cells #[.slice none 0 0, .int .u8 0, .int .u8 0, .int .u8 0, .int .u8 0, .int .u8 0, .int .u8 0, .int .u8 0, .int .u8 0, .int .i64 0, .bool false, .int .i64 0] 33)).alloc (.cells #[.int .i8 0, .int .i64 0, .int .u8 0, .int .u8 0, .int .u8 0, .int .u8 0, .int .u8 0, .int .u8 0, .int .u8 0, .int .u8 0, .int .i64 0] 87)) := ⟨_, rfl⟩
          have bV4 : Below w3.heap.size w3 V4 := by rw [hV4]; exact ((Below.refl _ _).alloc (Nat.le_refl _) _).alloc (by simp) _
          have t11 : Row V4 w3.heap.size 33 dvZ := by rw [hV4]; exact (Row.new _ _ _).alloc _
          have t12 : Row V4 (w3.heap.size + 1) 87 ntZ := by
            have h := Row.new (w3.alloc (.cells #[.slice none 0 0, .int .u8 0, .int .u8 0, .int .u8 0, .int .u8 0, .int .u8 0, .int .u8 0, .int .u8 0, .int .u8 0, .int .i64 0, .bool false, .int .i64 0] 33)) 87 ntZ
            simp only [World.size_alloc] at h
            rw [hV4]; exact h
          have sV4 : V4.heap.size = w3.heap.size + 1 + 1 := by rw [hV4]; simp
          have hb3 := HBS2.out
          have hs2 := HSV2.out
          have T11 := t11.thereO 0 12 (by rw [dvZ_len]; omega)
          have T12 : ∀ ys : List Value, (World.setCells V4 w3.heap.size 0 ys).there (w3.heap.size + 1) 0 11 := fun ys => (t12.setCellsO (by omega) ys 0).thereO 0 11 (by rw [ntZ_len]; omega)
          rw [hV4] at T11 T12
          have hIN : (Tryd.prog.info? 87).map (·.size) = some 11 := Tryd.infoNote
          go_upto_region 12 with (first | ((with_reducible refine wpList_store_mid rfl 33 _ _ rfl w3.heap.size 0 (dvC (.slice (some ⟨g, 0, none⟩) zs.length cp) (dgL zs tv) tpr tst ttk).toArray ?_ ?_ ?_ ?_ (all_oneCell_toArray (dvC_one _ _ _ _ _ _ _)) ?_); rfl; rfl; exact T11; exact hID) | ((with_reducible refine wpList_store_mid rfl 87 _ _ rfl (w3.heap.size + 1) 0 (ntC p q (dgL zs tv) l).toArray ?_ ?_ ?_ ?_ (all_oneCell_toArray (ntC_one _ _ _ _)) ?_); rfl; rfl; exact T12 _; exact hIN))
          rw [← hV4]
          obtain ⟨W4, hW4⟩ : ∃ X, X = World.setCells (World.setCells V4 w3.heap.size 0 (dvC (.slice (some ⟨g, 0, none⟩) zs.length cp) (dgL zs tv) tpr tst ttk)) (w3.heap.size + 1) 0 (ntC p q (dgL zs tv) l) := ⟨_, rfl⟩
          have r11 : Row W4 w3.heap.size 33 (dvC (.slice (some ⟨g, 0, none⟩) zs.length cp) (dgL zs tv) tpr tst ttk) := by rw [hW4]; exact (t11.setAll (ys := (dvC (.slice (some ⟨g, 0, none⟩) zs.length cp) (dgL zs tv) tpr tst ttk)) rfl).setCellsO (g := w3.heap.size + 1) (by omega) (ntC p q (dgL zs tv) l) 0
          have r12 : Row W4 (w3.heap.size + 1) 87 (ntC p q (dgL zs tv) l) := by rw [hW4]; exact (t12.setCellsO (g := w3.heap.size) (by omega) (dvC (.slice (some ⟨g, 0, none⟩) zs.length cp) (dgL zs tv) tpr tst ttk) 0).setAll (ys := (ntC p q (dgL zs tv) l)) rfl
          have bW4 : Below w3.heap.size w3 W4 := by rw [hW4]; exact below_setCellsD (g := w3.heap.size + 1) (ntC p q (dgL zs tv) l) 0 _ (below_setCellsD (g := w3.heap.size) (dvC (.slice (some ⟨g, 0, none⟩) zs.length cp) (dgL zs tv) tpr tst ttk) 0 _ bV4 (Nat.le_refl _)) (by omega)
          have hW4' : World.setCells (World.setCells V4 w3.heap.size 0 (dvC (.slice (some ⟨g, 0, none⟩) zs.length cp) (dgL zs tv) tpr tst ttk).toArray.toList) (w3.heap.size + 1) 0 (ntC p q (dgL zs tv) l).toArray.toList = W4 := hW4.symm
          first | rw [hW4'] | rw [← hW4]
          have hltO := fun (kk : Nat) (e : nv.ownBlock = some kk) => (hown.lt kk e)
          replace rJ := rJ.below bW4 rJ.lt; replace r7 := r7.below bW4 r7.lt; replace rZ := rZ.below bW4 rZ.lt; replace rG := rG.below bW4 rG.lt
          replace hown := owns_belowP hown bW4
          have hB4 : Below w.heap.size w W4 := hB3.trans (bW4.mono hB3.size)
          have hs4 := bW4.size
          clear hW4 hW4' T11 T12 bV4 t11 t12 hV4 hK hBD
          have T7 := r7.thereO 0 12 (by rw [rpC_len]; omega)
          go_upto_region 15 with (first | ((with_reducible refine wpList_load_row rfl 33 _ rfl w3.heap.size ?_ 33 (dvC (.slice (some ⟨g, 0, none⟩) zs.length cp) (dgL zs tv) tpr tst ttk).toArray (0, 0) _ ?_ Tryd.underlying33 ?_ ?_ ?_); rfl; exact r11; rfl; exact hID) | ((with_reducible refine wpList_store_mid rfl 33 _ _ rfl g_r7 0 (dvC (.slice (some ⟨g, 0, none⟩) zs.length cp) (dgL zs tv) tpr tst ttk).toArray ?_ ?_ ?_ ?_ (all_oneCell_toArray (dvC_one _ _ _ _ _ _ _)) ?_); rfl; rfl; exact T7; exact hID))
          obtain ⟨W5, hW5⟩ : ∃ X, X = World.setCells W4 g_r7 0 (dvC (.slice (some ⟨g, 0, none⟩) zs.length cp) (dgL zs tv) tpr tst ttk) := ⟨_, rfl⟩
          have q7 : Row W5 g_r7 89 (rpC (dvC (.slice (some ⟨g, 0, none⟩) zs.length cp) (dgL zs tv) tpr tst ttk) nv sm) := by rw [hW5]; exact r7.setDev
          have q12 : Row W5 (w3.heap.size + 1) 87 (ntC p q (dgL zs tv) l) := by rw [hW5]; exact r12.setCellsO (by omega) _ _
          have qJ : Row W5 gJ 33 (dvC (.slice (some ⟨g, 0, none⟩) zs.length cp) (dgL zs tv) tpr tst ttk) := by rw [hW5]; exact rJ.setCellsO (by omega) _ _
          have qZ : Row W5 (w.heap.size + 1) 89 rpZ := by rw [hW5]; exact rZ.setCellsO (by omega) _ _
          have qG : Row W5 g 5 (zs.map (Value.int .u8) ++ rest) := by rw [hW5]; exact rG.setCellsO (by omega) _ _
          have qO : W5.ownsRow bs 87 11 nv k (ntL (szL zs) zs (v, pr, st, tk) js k) := by rw [hW5]; exact owns_setCells hown (by omega) _ _
          have hB5 : Below w.heap.size w W5 := by rw [hW5]; exact below_setCellsD _ _ _ hB4 (by omega)
          have hs5 : W5.heap.size = W4.heap.size := by rw [hW5]; exact size_setCellsD _ _ _
          have hW5' : World.setCells W4 g_r7 0 (dvC (.slice (some ⟨g, 0, none⟩) zs.length cp) (dgL zs tv) tpr tst ttk).toArray.toList = W5 := hW5.symm
          first | rw [hW5'] | rw [← hW5]
          clear hW5 hW5' T7 r7 r12 r11 rJ rZ rG hown hB4 hB3
          have c12 : W5.cell? ⟨g_r7, 12, none⟩ = some nv := q7.cell 12
          have HO4 := hid (qO.alloc (.cells (ntC p q (dgL zs tv) l).toArray 87))
          have nc := hid (cellsAt (Row.new W5 87 (ntC p q (dgL zs tv) l)))
          have HB6 := hid (show Below w.heap.size w (W5.alloc (.cells (ntC p q (dgL zs tv) l).toArray 87)) from hB5.alloc hB5.size _)
          have Q7 := hid q7; have Q12 := hid q12; have QJ := hid qJ; have QZ := hid qZ; have QG := hid qG; have HLT := hid hltO
          have HS5 := hid hs5
          have hnl : (ntC p q (dgL zs tv) l).length = 11 := ntC_len _ _ _ _
          have HBW := hid (show bs ≤ (W5.alloc (.cells (ntC p q (dgL zs tv) l).toArray 87)).heap.size by simp; omega)
          clear q7 qJ qZ qG qO hB5 hltO hs5
          go_upto_region 16 with (first | ((with_reducible refine wpList_load_row rfl 87 _ rfl (w3.heap.size + 1) ?_ 87 (ntC p q (dgL zs tv) l).toArray (0, 0) _ ?_ Tryd.underlying87 ?_ ?_ ?_); rfl; exact q12; rfl; exact hIN) | (at_builtin; rw [ntFold]; refine wpList_append_own _ rfl _ _ 62 rfl bs 87 i0 (.agg #[.int .i8 0, .int .i64 0, .int .u8 0, .int .u8 0, .int .u8 0, .int .u8 0, .int .u8 0, .int .u8 0, .int .u8 0, .int .u8 0, .int .i64 0]) 11 32 Tryd.underlying62 hi iz0 iz1 iz2 rfl (by decide) _ _ _ rfl HO4.out ⟨W5.heap.size, 0, none⟩ 1 1 (ntC p q (dgL zs tv) l) rfl rfl nc.out (ntC_one _ _ _ _) (by unfold maxLen; omega) (by omega) HBW.out ?_; rintro v' w6 hown' hgrow -; have x7 := (Q7.out.alloc (.cells (ntC p q (dgL zs tv) l).toArray 87)).grown' hgrow (owns_lt HO4.out (by omega)); have c12 : w6.cell? ⟨g_r7, 12, none⟩ = some nv := x7.cell 12; have f12 := x7.frozen 12; have OWN := hid hown'; obtain ⟨ga, na, ca, hva⟩ : ∃ a n c, v' = .slice a n c := (by rcases hown'.2 with ⟨h0, _⟩ | ⟨g9, c9, u9, h0, _⟩ <;> exact ⟨_, _, _, h0⟩); have GRW := hid hgrow; clear hown' hgrow; subst hva))
          have hgrow := GRW.out
          have hs5 := HS5.out
          have y7 := (Q7.out.alloc (.cells (ntC p q (dgL zs tv) l).toArray 87)).grown' hgrow (owns_lt HO4.out (by omega))
          have yJ := (QJ.out.alloc (.cells (ntC p q (dgL zs tv) l).toArray 87)).grown' hgrow (owns_lt HO4.out (by omega))
          have yZ := (QZ.out.alloc (.cells (ntC p q (dgL zs tv) l).toArray 87)).grown' hgrow (owns_lt HO4.out (by omega))
          have yG := (QG.out.alloc (.cells (ntC p q (dgL zs tv) l).toArray 87)).grown' hgrow (owns_lt HO4.out (by omega))
          have y12 := (Q12.out.alloc (.cells (ntC p q (dgL zs tv) l).toArray 87)).grown' hgrow (fun e => by have := (HLT.out _ e.symm).2; omega)
          have bel6 : Below w.heap.size w w6 := HB6.out.grown hgrow (by simp; omega) (fun k e => by have := (HO4.out.lt k e).1; omega)
          have hs6 : W5.heap.size ≤ w6.heap.size := by have := hgrow.size; simp at this; omega
          obtain ⟨W7, hW7⟩ : ∃ X, X = w6.setCell ⟨g_r7, 12, none⟩ (.slice ga na ca) := ⟨_, rfl⟩
          have z7 : Row W7 g_r7 89 (rpC (dvC (.slice (some ⟨g, 0, none⟩) zs.length cp) (dgL zs tv) tpr tst ttk) (.slice ga na ca) sm) := by rw [hW7]; exact y7.set 12 _
          have zJ : Row W7 gJ 33 (dvC (.slice (some ⟨g, 0, none⟩) zs.length cp) (dgL zs tv) tpr tst ttk) := by rw [hW7]; exact yJ.other (by show g_r7 ≠ gJ; omega) _
          have zZ : Row W7 (w.heap.size + 1) 89 rpZ := by rw [hW7]; exact yZ.other (by show g_r7 ≠ w.heap.size + 1; omega) _
          have zG : Row W7 g 5 (zs.map (Value.int .u8) ++ rest) := by rw [hW7]; exact yG.other (by show g_r7 ≠ g; omega) _
          have z12 : Row W7 (w3.heap.size + 1) 87 (ntC p q (dgL zs tv) l) := by rw [hW7]; exact y12.other (by show g_r7 ≠ w3.heap.size + 1; omega) _
          have zO : W7.ownsRow bs 87 11 (.slice ga na ca) (k + 1) (ntL (szL zs) zs (v, pr, st, tk) js k ++ (ntC p q (dgL zs tv) l)) := by rw [hW7]; exact owns_set OWN.out (by show g_r7 < bs; omega) _
          have bel7 : Below w.heap.size w W7 := by rw [hW7]; exact bel6.setCell (p := ⟨g_r7, 12, none⟩) (by show w.heap.size ≤ g_r7; omega) _
          have hs7 : W7.heap.size = w6.heap.size := by rw [hW7]; simp
          rw [← hW7]
          clear hW7 y7 yJ yZ yG y12 bel6 c12 f12 x7 q12 hgrow
          have c13 : W7.cell? ⟨g_r7, 13, none⟩ = some (.int .i64 sm) := z7.cell 13
          have f13 := z7.frozen 13
          have cN : W7.cell? ⟨w3.heap.size + 1, 10, none⟩ = some (.int .i64 l) := z12.cell 10
          go_upto_region 17 with fail
          obtain ⟨W8, hW8⟩ : ∃ X, X = W7.setCell ⟨g_r7, 13, none⟩ (.int .i64 (sm + l)) := ⟨_, rfl⟩
          have u7 := hid (show Row W8 g_r7 89 (rpC (dvC (.slice (some ⟨g, 0, none⟩) zs.length cp) (dgL zs tv) tpr tst ttk) (.slice ga na ca) (sm + l)) by rw [hW8]; exact z7.set 13 _)
          have uJ := hid (show Row W8 gJ 33 (dvC (.slice (some ⟨g, 0, none⟩) zs.length cp) (dgL zs tv) tpr tst ttk) by rw [hW8]; exact zJ.other (by show g_r7 ≠ gJ; omega) _)
          have uZ := hid (show Row W8 (w.heap.size + 1) 89 rpZ by rw [hW8]; exact zZ.other (by show g_r7 ≠ w.heap.size + 1; omega) _)
          have uG := hid (show Row W8 g 5 (zs.map (Value.int .u8) ++ rest) by rw [hW8]; exact zG.other (by show g_r7 ≠ g; omega) _)
          have uO := hid (show W8.ownsRow bs 87 11 (.slice ga na ca) (k + 1) (ntL (szL zs) zs (v, pr, st, tk) js k ++ (ntC p q (dgL zs tv) l)) by rw [hW8]; exact owns_set zO (by show g_r7 < bs; omega) _)
          have bel8 := hid (show Below w.heap.size w W8 by rw [hW8]; exact bel7.setCell (p := ⟨g_r7, 13, none⟩) (by show w.heap.size ≤ g_r7; omega) _)
          have hs8 := hid (show bs ≤ W8.heap.size by rw [hW8]; simp; omega)
          rw [← hW8]
          clear hW8 z7 zJ zZ zG z12 zO bel7 c13 f13 cN hs7 hs6 hs5 hs4 hsz hb3 hs2 sV4
          go_wp2_with fail
          go_roundw
          case rel =>
            refine ⟨k + 1, .slice ga na ca, by omega, by go_num, HC.out, ?_, ?_, uZ.out, uG.out, ?_, ?_, bel8.out⟩
            · rw [HE2.out]; exact uJ.out
            · rw [HE2.out, HES.out]; exact u7.out
            · rw [HEN.out, HBS.out]; exact uO.out
            · rw [HBS.out]; exact hs8.out
          case measure => simp [intOf]; omega
        · obtain ⟨ea, hea⟩ : ∃ a, erV c a2 a3 = .iface 161 (.pointer (some a)) := by
            unfold erV
            rw [if_neg hc]
            split
            · exact ⟨a2, rfl⟩
            · exact ⟨a3, rfl⟩
          have HNX0 := journal_err gJ g zs.length cp zs sv spr sst stk p q c l (tv, tpr, tst, ttk) V2 rJ sS2 (by have := HJJ.out; omega) rfl HZL.out hst ha a0 a1 a2 a3 sN2 hAct hc
          rw [hea] at HNX0
          have HNX := hid HNX0
          have HFIN := hid (show rpE (szL zs) (v, pr, st, tk) js N ≠ 0 ∧ Ending.returned (.tuple #[.agg rpZ.toArray, .iface 161 (.pointer (some ea))]) = .returned (.tuple #[.agg rpZ.toArray, errV (rpE (szL zs) (v, pr, st, tk) js N) a0 a1 a2 a3]) by
            rw [HER.out (by rw [e1]; exact hc), e1]
            exact ⟨hc, by rw [← hea, erV_errV a0 a1 a2 a3 hcd]⟩)
          have HV2 := hid hV2; have RZ7 := hid rZ; have HBV2 := hid bV2
          clear hS hp hq hAct e1 e2 e3 eN eS hsb hsc hst ha rJ r7 rZ rG hown hown2 hokR hcd sN2 sS2 aV2 bV2 hV2 sV2 HST HER hB hbs hsm HNX0 hea hc
          go_wp2_with fail
          clear x0 x1
          rw [← HV2.out]
          refine HNX.out.mono ?_
          rintro e w3 ⟨rfl, hBD⟩
          have rZ := RZ7.out.below hBD RZ7.out.lt
          have hB3 : Below w.heap.size w w3 := HBV2.out.trans (hBD.mono HBV2.out.size)
          obtain ⟨V4, hV4⟩ : ∃ X, X = ((World.alloc w3 (.cells #[.slice none 0 0, .int .u8 0, .int .u8 0, .int .u8 0, .int .u8 0, .int .u8 0, .int .u8 0, .int .u8 0, .int .u8 0, .int .i64 0, .bool false, .int .i64 0] 33)).alloc (.cells #[.int .i8 0, .int .i64 0, .int .u8 0, .int .u8 0, .int .u8 0, .int .u8 0, .int .u8 0, .int .u8 0, .int .u8 0, .int .u8 0, .int .i64 0] 87)) := ⟨_, rfl⟩
          have bV4 : Below w3.heap.size w3 V4 := by rw [hV4]; exact ((Below.refl _ _).alloc (Nat.le_refl _) _).alloc (by simp) _
          have t11 : Row V4 w3.heap.size 33 dvZ := by rw [hV4]; exact (Row.new _ _ _).alloc _
          have t12 : Row V4 (w3.heap.size + 1) 87 ntZ := by
            have h := Row.new (w3.alloc (.cells #[.slice none 0 0, .int .u8 0, .int .u8 0, .int .u8 0, .int .u8 0, .int .u8 0, .int .u8 0, .int .u8 0, .int .u8 0, .int .i64 0, .bool false, .int .i64 0] 33)) 87 ntZ
            simp only [World.size_alloc] at h
            rw [hV4]; exact h
          have lZ := rZ.lt
          replace rZ := rZ.below bV4 lZ
          have hB4 := hB3.trans (bV4.mono hB3.size)
          have hw3 := hB3.size
          have T11 := t11.thereO 0 12 (by rw [dvZ_len]; omega)
          have T12 : ∀ ys : List Value, (World.setCells V4 w3.heap.size 0 ys).there (w3.heap.size + 1) 0 11 := fun ys => (t12.setCellsO (by omega) ys 0).thereO 0 11 (by rw [ntZ_len]; omega)
          have T4 : ∀ ys xs : List Value, (World.setCells (World.setCells V4 w3.heap.size 0 ys) (w3.heap.size + 1) 0 xs).there (w.heap.size + 1) 0 14 := fun ys xs => ((rZ.setCellsO (by omega) ys 0).setCellsO (by omega) xs 0).thereO 0 14 (by rw [rpZ_len]; omega)
          have nZ := ((rZ.setCellsO (g := w3.heap.size) (by omega) dvZ 0).setCellsO (g := w3.heap.size + 1) (by omega) ntZ 0).setAll (ys := rpZ) rfl
          have nB := below_setCellsD (g := (w.heap.size + 1)) rpZ 0 _ (below_setCellsD (g := w3.heap.size + 1) ntZ 0 _ (below_setCellsD (g := w3.heap.size) dvZ 0 _ hB4 (by omega)) (by omega)) (by omega)
          rw [hV4] at T11 T12 T4 nZ nB
          have hIN : (Tryd.prog.info? 87).map (·.size) = some 11 := Tryd.infoNote
          clear hV4
          go_wp2_with (first | ((with_reducible refine wpList_store_mid rfl 33 _ _ rfl w3.heap.size 0 dvZ.toArray ?_ ?_ ?_ ?_ dvZ_oneT ?_); rfl; rfl; exact T11; exact hID) | ((with_reducible refine wpList_store_mid rfl 87 _ _ rfl (w3.heap.size + 1) 0 ntZ.toArray ?_ ?_ ?_ ?_ (all_oneCell_toArray ntZ_one) ?_); rfl; rfl; exact T12 _; exact hIN) | ((with_reducible refine wpList_store_mid rfl 89 _ _ rfl (w.heap.size + 1) 0 rpZ.toArray ?_ ?_ ?_ ?_ (all_oneCell_toArray rpZ_one) ?_); rfl; rfl; exact T4 _ _; exact hIR))
          exact bodyPost_ret (v := .tuple #[.agg rpZ.toArray, .iface 161 (.pointer (some ea))]) (results_cs (p := 4) (q := 5) (fn := Tryd.f52) rfl _ _ _ _ _ _ _ rfl rfl nZ Tryd.underlying89 rfl hIR) rfl ⟨.inr HFIN.out, nB⟩
      · obtain rfl : k = N := by omega
        have k1 : ¬ (k : Int) < (k : Int) := by omega
        have c13 : wr.cell? ⟨g_r7, 13, none⟩ = some (.int .i64 (suF (szL zs) (v, pr, st, tk) js k)) := r7.cell 13
        by_cases hs : 1000000000000 < suF (szL zs) (v, pr, st, tk) js k
        · have HE := hid (rpE_sum hokR hs)
          have bW1 := hB
          have sN := HSN.out.below hB trivial
          obtain ⟨sm, hsm⟩ : ∃ y, suF (szL zs) (v, pr, st, tk) js k = y := ⟨_, rfl⟩
          rw [hsm] at c13 hs
          clear r7 rJ rG hown hokR hbs
          go_wp2_with fail
          refine wp_region_held (S := fun W' : World => SN W' a0 a1 a2 a3) (by kernel_rfl) ?_
          change wpAnyH _ _ _ _ _ _ _ _ (World.drew _)
          obtain ⟨W0, hW0⟩ : ∃ X, X = World.drew (wr) := ⟨_, rfl⟩
          have hD0 : Below (wr).heap.size (wr) W0 := by rw [hW0]; exact (Below.refl _ _).drew
          replace rZ := rZ.below hD0 rZ.lt
          replace sN := sN.below hD0 sN.1
          have bW0 := bW1.trans (hD0.mono bW1.size)
          have bR : Below W0.heap.size W0 W0 := Below.refl _ _
          rw [← hW0]
          clear hW0 hD0
          have l_rZ := rZ.lt
          have l_sN := sN.1
          have hS0 : (fun W' : World => SN W' a0 a1 a2 a3) W0 := sN
          refine wpAnyH_takeD (some 68) (i := 0) (v := ?_) rfl rfl (by kernel_rfl) (by kernel_rfl) (by kernel_rfl) (fun _ _ _ h => h) (.inl ⟨by kernel_rfl, ?_⟩) hS0 ?_
          rotate_left
          · intro w' hw'; go_simp; try with_reducible rfl
          try simp only [Act.put, List.setIfInBounds_toArray, List.set_cons_zero, List.set_cons_succ]
          refine wpAnyH_takeD (some 69) (i := 1) (v := ?_) rfl rfl (by kernel_rfl) (by kernel_rfl) (by kernel_rfl) (fun _ _ _ h => h) (.inl ⟨by kernel_rfl, ?_⟩) hS0 ?_
          rotate_left
          · intro w' hw'; have eG := hw'.2.1.2.2.1; clear hw'; go_simp; try with_reducible rfl
          try simp only [Act.put, List.setIfInBounds_toArray, List.set_cons_zero, List.set_cons_succ]
          refine wpAnyH_all (rs := [2]) (by kernel_rfl) (by simp) ?_
          intro i hi; simp only [List.mem_cons, List.not_mem_nil, or_false] at hi
          subst hi
          refine wpOp_step rfl (fun K hK => ?_)
          rw [if_pos (by kernel_rfl)]
          refine wp_store_mid 89 (.tmp 4) (.tmp 68) rfl ((w.heap.size + 1)) 0 (rpZ : List Value).toArray rfl rfl (rZ.thereO 0 14 (by rw [rpZ_len]; omega)) hIR (all_oneCell_toArray rpZ_one) ?_
          obtain ⟨X1, hX1⟩ : ∃ X, X = World.setCells W0 ((w.heap.size + 1)) 0 (rpZ : List Value) := ⟨_, rfl⟩
          have nZ : Row X1 (w.heap.size + 1) 89 rpZ := by rw [hX1]; exact rZ.setAll rfl
          have nB : Below w.heap.size w X1 := by rw [hX1]; exact below_setCellsD _ _ _ (bW0.trans (bR.mono bW0.size)) (by omega)
          replace sN : SN X1 a0 a1 a2 a3 := HSN.out.below nB trivial
          have hS1 : (fun W' : World => SN W' a0 a1 a2 a3) X1 := sN
          have hXX1 : World.setCells W0 ((w.heap.size + 1)) 0 (rpZ : List Value).toArray.toList = X1 := hX1.symm
          rw [hXX1]
          refine hK _ _ ⟨hS1, ?_⟩
          try simp only [Act.put, List.setIfInBounds_toArray, List.set_cons_zero, List.set_cons_succ]
          clear hX1 hXX1 hK K hS0
          refine wpAnyH_takeD (some 5) (i := 3) (v := ?_) rfl rfl (by kernel_rfl) (by kernel_rfl) (by kernel_rfl) (fun _ _ _ h => h) (.inl ⟨by kernel_rfl, ?_⟩) hS1 ?_
          rotate_left
          · intro w' hw'; go_simp; try with_reducible rfl
          try simp only [Act.put, List.setIfInBounds_toArray, List.set_cons_zero, List.set_cons_succ]
          refine wpAnyH_done (by kernel_rfl) ?_ _
          go_wp2_with fail
          exact bodyPost_ret (v := .tuple #[.agg rpZ.toArray, ES a2]) (results_cs (p := 4) (q := 5) (fn := Tryd.f52) rfl _ _ _ _ _ _ _ rfl rfl nZ Tryd.underlying89 rfl hIR) rfl ⟨.inr ⟨by rw [HE.out]; omega, by rw [HE.out]; rfl⟩, nB⟩
        · have HE := hid (rpE_ok hokR hs)
          have T4 := rZ.thereO 0 14 (by rw [rpZ_len]; omega)
          obtain ⟨sm, hsm⟩ : ∃ y, suF (szL zs) (v, pr, st, tk) js k = y := ⟨_, rfl⟩
          have HSM := hid hsm
          rw [hsm] at c13 hs r7
          have hnv := owns_one hown
          have hjn := HJJ.out
          have HR7 := hid r7
          clear rJ hokR hsm
          go_wp2_with (first | ((with_reducible refine wpList_load_row rfl 89 _ rfl g_r7 ?_ 89 (rpC (dvC (.slice (some ⟨g, 0, none⟩) zs.length cp) (dgL zs (stF (szL zs) (v, pr, st, tk) js k).1) (stF (szL zs) (v, pr, st, tk) js k).2.1 (stF (szL zs) (v, pr, st, tk) js k).2.2.1 (stF (szL zs) (v, pr, st, tk) js k).2.2.2) nv sm).toArray (0, 0) _ ?_ Tryd.underlying89 ?_ ?_ ?_); rfl; exact HR7.out; rfl; exact hIR) | ((with_reducible refine wpList_store_mid rfl 89 _ _ rfl (w.heap.size + 1) 0 (rpC (dvC (.slice (some ⟨g, 0, none⟩) zs.length cp) (dgL zs (stF (szL zs) (v, pr, st, tk) js k).1) (stF (szL zs) (v, pr, st, tk) js k).2.1 (stF (szL zs) (v, pr, st, tk) js k).2.2.1 (stF (szL zs) (v, pr, st, tk) js k).2.2.2) nv sm).toArray ?_ ?_ ?_ ?_ (all_oneCell_toArray (rpC_one _ _ _ _ _ _ _ _ hnv _)) ?_); rfl; rfl; exact T4; exact hIR))
          have nZ := rZ.setAll (ys := rpC (dvC (.slice (some ⟨g, 0, none⟩) zs.length cp) (dgL zs (stF (szL zs) (v, pr, st, tk) js k).1) (stF (szL zs) (v, pr, st, tk) js k).2.1 (stF (szL zs) (v, pr, st, tk) js k).2.2.1 (stF (szL zs) (v, pr, st, tk) js k).2.2.2) nv sm) rfl
          have nG := rG.setCellsO (g := (w.heap.size + 1)) (by omega) (rpC (dvC (.slice (some ⟨g, 0, none⟩) zs.length cp) (dgL zs (stF (szL zs) (v, pr, st, tk) js k).1) (stF (szL zs) (v, pr, st, tk) js k).2.1 (stF (szL zs) (v, pr, st, tk) js k).2.2.1 (stF (szL zs) (v, pr, st, tk) js k).2.2.2) nv sm) 0
          have nO := owns_setCells (D := (w.heap.size + 1)) hown (by omega) (rpC (dvC (.slice (some ⟨g, 0, none⟩) zs.length cp) (dgL zs (stF (szL zs) (v, pr, st, tk) js k).1) (stF (szL zs) (v, pr, st, tk) js k).2.1 (stF (szL zs) (v, pr, st, tk) js k).2.2.1 (stF (szL zs) (v, pr, st, tk) js k).2.2.2) nv sm) 0
          refine bodyPost_ret (v := .tuple #[.agg (rpC (dvC (.slice (some ⟨g, 0, none⟩) zs.length cp) (dgL zs (stF (szL zs) (v, pr, st, tk) js k).1) (stF (szL zs) (v, pr, st, tk) js k).2.1 (stF (szL zs) (v, pr, st, tk) js k).2.2.1 (stF (szL zs) (v, pr, st, tk) js k).2.2.2) nv sm).toArray, .nilIface]) (results_cs (p := 4) (q := 5) (fn := Tryd.f52) rfl _ _ _ _ _ _ _ rfl rfl nZ Tryd.underlying89 rfl hIR) rfl ⟨.inl ⟨HE.out, g, cp, rest, nv, bs, by rw [HSM.out], nG, by omega, by omega, ?_, nO⟩, below_setCellsD _ _ _ hB (by omega)⟩
          rw [size_setCellsD]; exact hbs
end Go.Proofs.YthifegbmpmialaaDoor

namespace Go.Proofs.YthifegbmpmialaaDoor
open Go.RowKit
set_option linter.unusedVariables false
set_option linter.unusedSimpArgs false
/-- what a replay gives: a code, and what is true of what lies behind it -/
def RepR (c : Int) (X : List Value → Value → Int → World → Prop) (a0 a1 a2 a3 : Addr) (w : World) (e : Ending) (w' : World) : Prop :=
  ∃ dv nv l, e = .returned (.tuple #[.agg (rpC dv nv l).toArray, errV c a0 a1 a2 a3]) ∧ dv.length = 12 ∧ (∀ v ∈ dv, v.oneCell' = true) ∧ nv.oneCell' = true ∧ X dv nv l w' ∧ Below w.heap.size w w'
theorem rpC_length {dv : List Value} {nv : Value} {l : Int} (h : dv.length = 12) : (rpC dv nv l).length = 14 := by simp [rpC, h]
theorem rpC_ones {dv : List Value} {nv : Value} {l : Int} (h : ∀ v ∈ dv, v.oneCell' = true) (hn : nv.oneCell' = true) : ∀ v ∈ rpC dv nv l, v.oneCell' = true := by
  intro v hv
  simp only [rpC, List.mem_append, List.mem_cons, List.not_mem_nil, or_false] at hv
  rcases hv with h1 | rfl | rfl
  · exact h v h1
  · exact hn
  · rfl
theorem rpC_range {w : World} {g : Nat} {e : TypeId} {dv : List Value} {nv : Value} {l : Int} (h : Row w g e (rpC dv nv l)) : w.rangeAt g 0 dv := fun j v hj => by
  have hl : j < dv.length := (List.getElem?_eq_some_iff.1 hj).1
  rw [Nat.zero_add, h.cell j]
  unfold rpC
  rw [List.getElem?_append_left hl]; exact hj
theorem rpC_last {w : World} {g : Nat} {e : TypeId} {dv : List Value} {nv : Value} {l : Int} (h : Row w g e (rpC dv nv l)) (h12 : dv.length = 12) : w.cell? ⟨g, 13, none⟩ = some (.int .i64 l) := by
  rw [h.cell 13]
  unfold rpC
  rw [List.getElem?_append_right (by omega), h12]; rfl
theorem rpC_notes {w : World} {g : Nat} {e : TypeId} {dv : List Value} {nv : Value} {l : Int} (h : Row w g e (rpC dv nv l)) (h12 : dv.length = 12) : w.cell? ⟨g, 12, none⟩ = some nv := by
  rw [h.cell 12]
  unfold rpC
  rw [List.getElem?_append_right (by omega), h12]; rfl
theorem exec_load_mid {P : Program} {o : Oper} {a : Act} {w : World} (ty : TypeId) (x : Operand) (ho : o.op = .load ty x) (g off : Nat) (hx : a.eval x = .pointer (some ⟨g, off, none⟩)) (cs : List Value) (d : TypeDesc) (hg : w.rangeAt g off cs)
    (hu : P.underlying ty = some d) (hd : d.isRow = true) (hi : (P.info? ty).map (·.size) = some cs.length) : (execOp a.eval o).run P w = .ok (.value (.agg cs.toArray)) w := by
  unfold execOp
  simp only [ho, hx, Instr.loadAt, Instr.sureAddr, Sem.run_bind, Sem.run_pure, Result.andThen_ok, run_loadVar_mid w g off ty cs d hg hu hd hi]
set_option maxRecDepth 100000 in
set_option maxHeartbeats 8000000 in
theorem doActs_of (B n cap : Nat) (zs ds : List Int) (pr : Int) (st : Bool) (tk : Int) (b N acap : Nat) (w : World) (c : Int) (hc : c = 0 ∨ c = 1 ∨ c = 2 ∨ c = 3 ∨ c = 4) (X : List Value → Value → Int → World → Prop) (hX : ∀ dv nv l W W', X dv nv l W → (∀ q, w.heap.size + 2 ≤ q → q < W.heap.size → W'.heap[q]? = W.heap[q]?) → W.heap.size ≤ W'.heap.size → X dv nv l W') (a0 a1 a2 a3 : Addr) (hSN : SN w a0 a1 a2 a3)
    (hR : ∀ W, Below w.heap.size w W → W.heap.size = w.heap.size + 2 → Calls Tryd.prog 52 #[.agg (dvC (.slice (some ⟨B, 0, none⟩) n cap) ds pr st tk).toArray, (.slice (some ⟨b, 0, none⟩) N acap)] W (RepR c X a0 a1 a2 a3 W)) :
    Calls Tryd.prog 20 #[.agg (dvC (.slice (some ⟨B, 0, none⟩) n cap) ds pr st tk).toArray, (.slice (some ⟨b, 0, none⟩) N acap)] w fun e w' => ∃ dv nv l, e = .returned (.tuple #[.agg dv.toArray, .int .i64 l, .int .i64 c]) ∧ dv.length = 12 ∧ (∀ v ∈ dv, v.oneCell' = true) ∧ X dv nv l w' ∧ Below w.heap.size w w' := by
  have hID : (Tryd.prog.info? 33).map (·.size) = some 12 := Tryd.infoDev
  have hIR : (Tryd.prog.info? 89).map (·.size) = some 14 := Tryd.infoRep
  obtain ⟨V, hV⟩ : ∃ V, V = (w.alloc (.cells (dvC (.slice (some ⟨B, 0, none⟩) n cap) ds pr st tk).toArray 33)).alloc (.cells #[.slice none 0 0, .int .u8 0, .int .u8 0, .int .u8 0, .int .u8 0, .int .u8 0, .int .u8 0, .int .u8 0, .int .u8 0, .int .i64 0, .bool false, .int .i64 0] 33) := ⟨_, rfl⟩
  have bV : Below w.heap.size w V := by rw [hV]; exact ((Below.refl _ _).alloc (Nat.le_refl _) _).alloc (by simp) _
  have sV : V.heap.size = w.heap.size + 2 := by rw [hV]; simp
  have rP : Row V w.heap.size 33 (dvC (.slice (some ⟨B, 0, none⟩) n cap) ds pr st tk) := by rw [hV]; exact (Row.new w _ _).alloc _
  have rZ : Row V (w.heap.size + 1) 33 dvZ := by
    have h := Row.new (w.alloc (.cells (dvC (.slice (some ⟨B, 0, none⟩) n cap) ds pr st tk).toArray 33)) 33 dvZ
    simp only [World.size_alloc] at h
    rw [hV]; exact h
  have sN := hSN.below bV trivial
  have HR := hid (hR V bV sV)
  have HV := hid hV; have HSN := hid hSN; have HSV := hid sV; have HX := hid hX; have HC := hid hc
  clear hSN hV sV hX hc hR
  go_enter Tryd.func20, Tryd.ntmps20
  go_wp2_with ((with_reducible refine wpList_load_row rfl 33 _ rfl w.heap.size ?_ 33 (dvC (.slice (some ⟨B, 0, none⟩) n cap) ds pr st tk).toArray (0, 0) _ ?_ Tryd.underlying33 ?_ ?_ ?_); rfl; (rw [← HV.out]; exact rP); rfl; exact hID)
  rw [← HV.out]
  refine HR.out.mono ?_
  rintro e w1 ⟨dv, nv, l, rfl, hd12, hone, hnv, hXX, hB1⟩
  have bW1 := bV.trans (hB1.mono bV.size)
  replace rZ := rZ.below hB1 rZ.lt; replace sN := sN.below hB1 trivial
  have hz1 := hB1.size
  have sV := HSV.out
  obtain ⟨V2, hV2⟩ : ∃ V2, V2 = w1.alloc (.cells #[.slice none 0 0, .int .u8 0, .int .u8 0, .int .u8 0, .int .u8 0, .int .u8 0, .int .u8 0, .int .u8 0, .int .u8 0, .int .i64 0, .bool false, .int .i64 0, .slice none 0 0, .int .i64 0] 89) := ⟨_, rfl⟩
  have r7 : Row V2 w1.heap.size 89 rpZ := by rw [hV2]; exact Row.new w1 _ _
  have bV2 : Below w1.heap.size w1 V2 := by rw [hV2]; exact (Below.refl _ _).alloc (Nat.le_refl _) _
  have T7 := r7.thereO 0 14 (by rw [rpZ_len]; omega)
  have T7' := T7
  rw [hV2] at T7'
  have HS14 := hid (show (rpC dv nv l).toArray.size = 14 by rw [List.size_toArray, rpC_length hd12])
  have hIR' : (Tryd.prog.info? 89).map (·.size) = some (rpC dv nv l).toArray.size := by rw [List.size_toArray, rpC_length hd12]; exact hIR
  obtain ⟨g7, hg7⟩ : ∃ y, w1.heap.size = y := ⟨_, rfl⟩
  have h7 : Row (V2.setCells w1.heap.size 0 (rpC dv nv l)) w1.heap.size 89 (rpC dv nv l) := r7.setAll (ys := rpC dv nv l) (by rw [rpC_length hd12, rpZ_len])
  have z7 : Row (V2.setCells w1.heap.size 0 (rpC dv nv l)) (w.heap.size + 1) 33 dvZ := (rZ.below bV2 rZ.lt).setCellsO (by have := rZ.lt; omega) _ _
  have b7 : Below w1.heap.size w1 (V2.setCells w1.heap.size 0 (rpC dv nv l)) := below_setCellsD (g := w1.heap.size) (rpC dv nv l) 0 _ bV2 (Nat.le_refl _)
  have H7 := hid h7; have Z7 := hid z7; have B7 := hid b7; have HO := hid hone; have HD := hid hd12; have HXX := hid hXX; have HNV := hid hnv; have BW1 := hid bW1; have SN1 := hid sN; have HV2 := hid hV2; have HZ1 := hid hz1; have HG7 := hid hg7
  clear h7 z7 b7 r7 rZ rP T7 bV2 bW1 sN hB1 hXX hz1 hV2 hg7 bV sV
  go_wp2_with ((with_reducible refine wpList_store_mid rfl 89 _ _ rfl w1.heap.size 0 (rpC dv nv l).toArray ?_ ?_ ?_ ?_ (all_oneCell_toArray (rpC_ones HO.out HNV.out)) ?_); rfl; rfl; (rw [HS14.out]; exact T7'); exact hIR')
  rw [← HV2.out]
  obtain ⟨W2, hW2⟩ : ∃ X, X = V2.setCells w1.heap.size 0 (rpC dv nv l) := ⟨_, rfl⟩
  have r7 := H7.out; have z4 := Z7.out; have b7 := B7.out
  rw [← hW2] at r7 z4 b7
  have hW2' : World.setCells V2 w1.heap.size 0 (rpC dv nv l).toArray.toList = W2 := hW2.symm
  first | rw [hW2'] | rw [← hW2]
  have hz := HZ1.out
  have hsv := HSV.out
  have sN := SN1.out.below b7 trivial
  have bW2 := BW1.out.trans (b7.mono BW1.out.size)
  have hsz2 := b7.size
  have HB7 := hid b7
  rw [HG7.out] at r7 hsz2 ⊢
  have hG7 := HG7.out
  have HID12 := hid (show (Tryd.prog.info? 33).map (·.size) = some dv.length by rw [HD.out]; exact hID)
  have HID13 := hid (show (Tryd.prog.info? 33).map (·.size) = some dv.toArray.size by rw [List.size_toArray, HD.out]; exact hID)
  clear hW2 hW2' H7 Z7 B7 SN1 T7' b7
  refine wp_region_held (S := fun W' : World => Row W' g7 89 (rpC dv nv l) ∧ SN W' a0 a1 a2 a3) (by kernel_rfl) ?_
  change wpAnyH _ _ _ _ _ _ _ _ (World.drew _)
  obtain ⟨W0, hW0⟩ : ∃ X, X = World.drew (W2) := ⟨_, rfl⟩
  have hD0 : Below (W2).heap.size (W2) W0 := by rw [hW0]; exact (Below.refl _ _).drew
  replace r7 := r7.below hD0 r7.lt
  replace z4 := z4.below hD0 z4.lt
  replace sN := sN.below hD0 sN.1
  have bW0 := bW2.trans (hD0.mono bW2.size)
  have bR : Below W0.heap.size W0 W0 := Below.refl _ _
  rw [← hW0]
  have bR0 := hD0
  clear hW0 hD0
  have l_r7 := r7.lt
  have l_z4 := z4.lt
  have l_sN := sN.1
  have hS0 : (fun W' : World => Row W' g7 89 (rpC dv nv l) ∧ SN W' a0 a1 a2 a3) W0 := ⟨r7, sN⟩
  refine wpAnyH_takeD (some 15) (i := 0) (v := ?_) rfl rfl (by kernel_rfl) (by kernel_rfl) (by kernel_rfl) (fun _ _ _ h => h) (.inl ⟨by kernel_rfl, ?_⟩) hS0 ?_
  rotate_left
  · intro w' hw'; have e7 := rpC_last hw'.1 HD.out; skip; clear hw'; go_simp; try with_reducible rfl
  try simp only [Act.put, List.setIfInBounds_toArray, List.set_cons_zero, List.set_cons_succ]
  refine wpAnyH_takeD (some 16) (i := 1) (v := .agg dv.toArray) rfl rfl (by kernel_rfl) (by kernel_rfl) (by kernel_rfl) (fun _ _ _ h => h) (.inl ⟨by kernel_rfl, ?_⟩) hS0 ?_
  · intro w' hw'; exact exec_load_mid 33 _ rfl g7 0 rfl dv _ (rpC_range hw'.1) Tryd.underlying33 rfl HID12.out
  try simp only [Act.put, List.setIfInBounds_toArray, List.set_cons_zero, List.set_cons_succ]
  refine wpAnyH_takeD (some 17) (i := 2) (v := ?_) rfl rfl (by kernel_rfl) (by kernel_rfl) (by kernel_rfl) (fun _ _ _ h => h) (.inl ⟨by kernel_rfl, ?_⟩) hS0 ?_
  rotate_left
  · intro w' hw'; have e7 := rpC_last hw'.1 HD.out; skip; clear hw'; go_simp; try with_reducible rfl
  try simp only [Act.put, List.setIfInBounds_toArray, List.set_cons_zero, List.set_cons_succ]
  refine wpAnyH_takeD (some 18) (i := 3) (v := ?_) rfl rfl (by kernel_rfl) (by kernel_rfl) (by kernel_rfl) (fun _ _ _ h => h) (.inl ⟨by kernel_rfl, ?_⟩) hS0 ?_
  rotate_left
  · intro w' hw'; have e7 := rpC_last hw'.1 HD.out; skip; clear hw'; go_simp; try with_reducible rfl
  try simp only [Act.put, List.setIfInBounds_toArray, List.set_cons_zero, List.set_cons_succ]
  refine wpAnyH_takeD (some 19) (i := 4) (v := ?_) rfl rfl (by kernel_rfl) (by kernel_rfl) (by kernel_rfl) (fun _ _ _ h => h) (.inl ⟨by kernel_rfl, ?_⟩) hS0 ?_
  rotate_left
  · intro w' hw'; go_simp; try with_reducible rfl
  try simp only [Act.put, List.setIfInBounds_toArray, List.set_cons_zero, List.set_cons_succ]
  refine wpAnyH_all (rs := [5]) (by kernel_rfl) (by simp) ?_
  intro i hi; simp only [List.mem_cons, List.not_mem_nil, or_false] at hi
  subst hi
  refine wpOp_step rfl (fun K hK => ?_)
  go_simp
  with_reducible refine (codeBehind_any c HC.out a0 a1 a2 a3 W0 sN).mono ?_
  rintro e v1 ⟨rfl, hv1⟩; subst hv1
  have hS1 : (fun W' : World => Row W' g7 89 (rpC dv nv l) ∧ SN W' a0 a1 a2 a3) W0 := ⟨r7, sN⟩
  refine hK _ _ ⟨hS1, ?_⟩
  try simp only [Act.put, List.setIfInBounds_toArray, List.set_cons_zero, List.set_cons_succ]
  clear hK K hS0
  refine wpAnyH_all (rs := [6]) (by kernel_rfl) (by simp) ?_
  intro i hi; simp only [List.mem_cons, List.not_mem_nil, or_false] at hi
  subst hi
  refine wpOp_step rfl (fun K hK => ?_)
  rw [if_pos (by kernel_rfl)]
  refine wp_store_mid 33 (.tmp 4) (.tmp 16) rfl ((w.heap.size + 1)) 0 (dv : List Value).toArray rfl rfl (z4.thereO 0 dv.length (by rw [dvZ_len, HD.out]; omega)) HID13.out (all_oneCell_toArray HO.out) ?_
  obtain ⟨X2, hX2⟩ : ∃ X, X = World.setCells W0 ((w.heap.size + 1)) 0 (dv : List Value) := ⟨_, rfl⟩
  have n4 : Row X2 (w.heap.size + 1) 33 dv := by rw [hX2]; exact z4.setAll (by rw [HD.out, dvZ_len])
  have nB : Below w.heap.size w X2 := by rw [hX2]; exact below_setCellsD dv 0 _ (bW0.trans (bR.mono bW0.size)) (by omega)
  replace sN : SN X2 a0 a1 a2 a3 := HSN.out.below nB trivial
  replace r7 : Row X2 g7 89 (rpC dv nv l) := by rw [hX2]; exact r7.setCellsO (by omega) _ _
  have nX : X dv nv l X2 := HX.out dv nv l w1 X2 HXX.out (fun q h1 h2 => by rw [hX2, other_setCellsD (g := (w.heap.size + 1)) (by omega)]; exact (bR.block q (by have := bR0.size; have := HB7.out.size; omega)).trans ((bR0.block q (by have := HB7.out.size; omega)).trans (HB7.out.block q h2))) (by rw [hX2, size_setCellsD]; exact Nat.le_trans HB7.out.size (Nat.le_trans bR0.size bR.size))
  have hS2 : (fun W' : World => Row W' g7 89 (rpC dv nv l) ∧ SN W' a0 a1 a2 a3) X2 := ⟨r7, sN⟩
  have hXX2 : World.setCells W0 ((w.heap.size + 1)) 0 (dv : List Value).toArray.toList = X2 := hX2.symm
  rw [hXX2]
  refine hK _ _ ⟨hS2, ?_⟩
  try simp only [Act.put, List.setIfInBounds_toArray, List.set_cons_zero, List.set_cons_succ]
  clear hX2 hXX2 hK K hS1
  refine wpAnyH_takeD (some 5) (i := 7) (v := ?_) rfl rfl (by kernel_rfl) (by kernel_rfl) (by kernel_rfl) (fun _ _ _ h => h) (.inl ⟨by kernel_rfl, ?_⟩) hS2 ?_
  rotate_left
  · intro w' hw'; go_simp; try with_reducible rfl
  try simp only [Act.put, List.setIfInBounds_toArray, List.set_cons_zero, List.set_cons_succ]
  refine wpAnyH_takeD (some 6) (i := 8) (v := ?_) rfl rfl (by kernel_rfl) (by kernel_rfl) (by kernel_rfl) (fun _ _ _ h => h) (.inl ⟨by kernel_rfl, ?_⟩) hS2 ?_
  rotate_left
  · intro w' hw'; go_simp; try with_reducible rfl
  try simp only [Act.put, List.setIfInBounds_toArray, List.set_cons_zero, List.set_cons_succ]
  refine wpAnyH_done (by kernel_rfl) ?_ _
  go_wp2_with fail
  refine bodyPost_ret (v := .tuple #[.agg dv.toArray, .int .i64 l, .int .i64 c]) (results_css (p := 4) (q := 5) (r := 6) (fn := Tryd.f20) rfl _ _ _ _ _ _ _ _ rfl rfl rfl n4 Tryd.underlying33 rfl HID13.out) rfl ⟨dv, nv, l, rfl, HD.out, HO.out, nX, nB⟩
end Go.Proofs.YthifegbmpmialaaDoor
