/- WrongWheels: the program's answers. -/
import Derived.Test.YtomhmkdfhhmenaaWwB
import Derived.Laws.EntriesVeiled
namespace Go.Proofs.Ytomhmkdfhhmenaa
open Go.RowKit
set_option linter.unusedVariables false
set_option linter.unusedSimpArgs false
theorem wrE_congr (fs gs hs : List Int) : ∀ k, (∀ j, j < k → dg gs j = dg hs j) → wrE fs gs k = wrE fs hs k
  | 0, _ => rfl
  | k + 1, h => by
    unfold wrE
    rw [wrE_congr fs gs hs k (fun j hj => h j (by omega)), h k (by omega)]
theorem dg_list8 (l : List Int) (j : Nat) (hj : j < 8) : dg [dg l 0, dg l 1, dg l 2, dg l 3, dg l 4, dg l 5, dg l 6, dg l 7] j = dg l j := by
  match j, hj with
  | 0, _ | 1, _ | 2, _ | 3, _ | 4, _ | 5, _ | 6, _ | 7, _ => rfl
theorem partsL_8 (zs : List Int) (js : List (Int × Int)) (turn : Int) : partsL zs js turn = [dg (partsL zs js turn) 0, dg (partsL zs js turn) 1, dg (partsL zs js turn) 2, dg (partsL zs js turn) 3, dg (partsL zs js turn) 4, dg (partsL zs js turn) 5, dg (partsL zs js turn) 6, dg (partsL zs js turn) 7] := rfl
/-- the wheels that an eye reads wrong at a turn -/
def wwE (e : Nat) (zs : List Int) (js : List (Int × Int)) (turn : Int) : List Int := wrE (rdL e zs (partsL zs js turn)) (dgL zs (turn / 1000)) zs.length
set_option maxHeartbeats 1000000 in
theorem moWrong_e (e : Nat) (KF : FuncId) (b n cap g m cap' : Nat) (zs : List Int) (js : List (Int × Int)) (turn : Int) (w : World) (hS : Stk w b zs) (hJ : Jst w g js) (hn : n = zs.length) (hm : m = js.length) (hv : okM zs js = true) (ht : turnOk zs turn = true)
    (hRd : ∀ w1 d0 d1 d2 d3 d4 d5 d6 d7, Stk w1 b zs → Jst w1 g js → hasR zs js [d0, d1, d2, d3, d4, d5, d6, d7] = true → Calls Try.prog 42 #[.agg #[.slice (some ⟨b, 0, none⟩) n cap, .slice (some ⟨g, 0, none⟩) m cap'], .agg ([.int .i64 d0, .int .i64 d1, .int .i64 d2, .int .i64 d3, .int .i64 d4, .int .i64 d5, .int .i64 d6, .int .i64 d7] : List Value).toArray, .func (Fn.func KF) #[] #[]] w1 fun x w' => x = .returned (.agg (rdV e zs [d0, d1, d2, d3, d4, d5, d6, d7] n).toArray) ∧ Below w1.heap.size w1 w') :
    Calls Try.prog 24 #[.agg #[.slice (some ⟨b, 0, none⟩) n cap, .slice (some ⟨g, 0, none⟩) m cap'], .int .i64 turn, .func (Fn.func KF) #[] #[]] w fun x w' => ∃ v, x = .returned v ∧ OwnI w' w.heap.size v (wwE e zs js turn) ∧ Below w.heap.size w w' := by
  have hv1 := (okM_out hv).1
  have sb := spanL_bd hv1
  have tb := turnOk_out ht
  have h8 : zs.length ≤ 8 := (okL_out hv1).2.1
  have HL := partsL_8 zs js turn
  have HR0 : hasR zs js (partsL zs js turn) = true := hasR_parts hv
  have HP := fun w1 (s : Stk w1 b zs) (j : Jst w1 g js) => moParts_any b n cap g m cap' zs js turn w1 s j hn hm hv (by omega)
  have HDD := fun w1 (s : Stk w1 b zs) => moRight_any b n cap g m cap' zs js turn w1 s hn hv1 (by omega)
  have HC := fun j (hj : j < 8) => dg_list8 (dgL zs (turn / 1000)) j hj
  obtain ⟨p0, hp0⟩ : ∃ x, x = dg (partsL zs js turn) 0 := ⟨_, rfl⟩
  obtain ⟨c0, hc0⟩ : ∃ x, x = dg (dgL zs (turn / 1000)) 0 := ⟨_, rfl⟩
  obtain ⟨p1, hp1⟩ : ∃ x, x = dg (partsL zs js turn) 1 := ⟨_, rfl⟩
  obtain ⟨c1, hc1⟩ : ∃ x, x = dg (dgL zs (turn / 1000)) 1 := ⟨_, rfl⟩
  obtain ⟨p2, hp2⟩ : ∃ x, x = dg (partsL zs js turn) 2 := ⟨_, rfl⟩
  obtain ⟨c2, hc2⟩ : ∃ x, x = dg (dgL zs (turn / 1000)) 2 := ⟨_, rfl⟩
  obtain ⟨p3, hp3⟩ : ∃ x, x = dg (partsL zs js turn) 3 := ⟨_, rfl⟩
  obtain ⟨c3, hc3⟩ : ∃ x, x = dg (dgL zs (turn / 1000)) 3 := ⟨_, rfl⟩
  obtain ⟨p4, hp4⟩ : ∃ x, x = dg (partsL zs js turn) 4 := ⟨_, rfl⟩
  obtain ⟨c4, hc4⟩ : ∃ x, x = dg (dgL zs (turn / 1000)) 4 := ⟨_, rfl⟩
  obtain ⟨p5, hp5⟩ : ∃ x, x = dg (partsL zs js turn) 5 := ⟨_, rfl⟩
  obtain ⟨c5, hc5⟩ : ∃ x, x = dg (dgL zs (turn / 1000)) 5 := ⟨_, rfl⟩
  obtain ⟨p6, hp6⟩ : ∃ x, x = dg (partsL zs js turn) 6 := ⟨_, rfl⟩
  obtain ⟨c6, hc6⟩ : ∃ x, x = dg (dgL zs (turn / 1000)) 6 := ⟨_, rfl⟩
  obtain ⟨p7, hp7⟩ : ∃ x, x = dg (partsL zs js turn) 7 := ⟨_, rfl⟩
  obtain ⟨c7, hc7⟩ : ∃ x, x = dg (dgL zs (turn / 1000)) 7 := ⟨_, rfl⟩
  rw [← hp0, ← hp1, ← hp2, ← hp3, ← hp4, ← hp5, ← hp6, ← hp7] at HL HP
  rw [← hc0, ← hc1, ← hc2, ← hc3, ← hc4, ← hc5, ← hc6, ← hc7] at HDD
  have HC' : ∀ j, j < 8 → dg [c0, c1, c2, c3, c4, c5, c6, c7] j = dg (dgL zs (turn / 1000)) j := by
    intro j hj; rw [hc0, hc1, hc2, hc3, hc4, hc5, hc6, hc7]; exact HC j hj
  rw [HL] at HR0
  have E : wwE e zs js turn = wrE (rdL e zs [p0, p1, p2, p3, p4, p5, p6, p7]) [c0, c1, c2, c3, c4, c5, c6, c7] n := by
    unfold wwE
    rw [HL, ← hn]
    exact (wrE_congr _ _ _ n (fun j hj => HC' j (by omega))).symm
  rw [E]
  exact moWrong_at e KF b n cap g m cap' zs js turn p0 p1 p2 p3 p4 p5 p6 p7 c0 c1 c2 c3 c4 c5 c6 c7 w hS hJ (by omega) HP (fun w1 s j => hRd w1 p0 p1 p2 p3 p4 p5 p6 p7 s j HR0) HDD
set_option maxRecDepth 100000 in
set_option maxHeartbeats 8000000 in
theorem ww1_no (e : Nat) (KF : FuncId) (B p q b n cap g m cap' : Nat) (zs : List Int) (js : List (Int × Int)) (turn : Int) (w : World) (rm : Row w B 33 [.slice (some ⟨b, 0, none⟩) n cap, .slice (some ⟨g, 0, none⟩) m cap']) (rp : Row w p 2 [.int .i64 turn]) (rq : Row w q 50 [.func (Fn.func KF) #[] #[]]) (sS : Stk w b zs) (sJ : Jst w g js) (hn : n = zs.length) (hm : m = js.length) (hv : okL zs = true) (ht : turnOk zs turn = false) :
    Calls Try.prog 23 #[.pointer (some ⟨B, 0, none⟩), .pointer (some ⟨p, 0, none⟩), .pointer (some ⟨q, 0, none⟩)] w fun x w' => x = .panicked [{ v := .iface 99 (.int .i64 turn), recovered := false }] ∧ Below w.heap.size w w' := by
  have HT := hid (fun w1 (h : Stk w1 b zs) => moTurn_no b n cap g m cap' zs js turn w1 h hn hv ht)
  have bW : Below w.heap.size w w := Below.refl _ w
  clear hn hm hv ht
  go_enter Try.func23, Try.ntmps23
  go_wp2_with fail
  refine wp_region_held (S := fun W' : World => Row W' B 33 [.slice (some ⟨b, 0, none⟩) n cap, .slice (some ⟨g, 0, none⟩) m cap'] ∧ Row W' p 2 [.int .i64 turn] ∧ Row W' q 50 [.func (Fn.func KF) #[] #[]]) (by kernel_rfl) ?_
  change wpAnyH _ _ _ _ _ _ _ _ (World.drew _)
  obtain ⟨W0, hW0⟩ : ∃ X, X = World.drew (w) := ⟨_, rfl⟩
  have hD0 : Below (w).heap.size (w) W0 := by rw [hW0]; exact (Below.refl _ _).drew
  replace rm := rm.below hD0 rm.lt
  replace rp := rp.below hD0 rp.lt
  replace rq := rq.below hD0 rq.lt
  replace sS := sS.below hD0 sS.1
  replace sJ := sJ.below hD0 sJ.1
  have bW0 := bW.trans (hD0.mono bW.size)
  have bR : Below W0.heap.size W0 W0 := Below.refl _ _
  rw [← hW0]
  clear hW0 hD0
  have l_rm := rm.lt
  have l_rp := rp.lt
  have l_rq := rq.lt
  have l_sS := sS.1
  have l_sJ := sJ.1
  have hS0 : (fun W' : World => Row W' B 33 [.slice (some ⟨b, 0, none⟩) n cap, .slice (some ⟨g, 0, none⟩) m cap'] ∧ Row W' p 2 [.int .i64 turn] ∧ Row W' q 50 [.func (Fn.func KF) #[] #[]]) W0 := ⟨rm, rp, rq⟩
  refine wpAnyH_takeD (some 4) (i := 0) (v := ?_) rfl rfl (by kernel_rfl) (by kernel_rfl) (by kernel_rfl) (fun _ _ _ h => h) (.inl ⟨by kernel_rfl, ?_⟩) hS0 ?_
  rotate_left
  · intro w' hw'; have hrow0 := hw'.1; have e0x0 := Row.cell hrow0 0; have e0x1 := Row.cell hrow0 1; simp only [List.getElem?_cons_zero, List.getElem?_cons_succ] at e0x0 e0x1; clear hrow0; have hrow1 := hw'.2.1; have e1x0 := Row.cell hrow1 0; simp only [List.getElem?_cons_zero, List.getElem?_cons_succ] at e1x0; clear hrow1; have hrow2 := hw'.2.2; have e2x0 := Row.cell hrow2 0; simp only [List.getElem?_cons_zero, List.getElem?_cons_succ] at e2x0; clear hrow2; clear hw'; go_simp; try with_reducible rfl
  try simp only [Act.put, List.setIfInBounds_toArray, List.set_cons_zero, List.set_cons_succ]
  refine wpAnyH_takeD (some 5) (i := 1) (v := ?_) rfl rfl (by kernel_rfl) (by kernel_rfl) (by kernel_rfl) (fun _ _ _ h => h) (.inl ⟨by kernel_rfl, ?_⟩) hS0 ?_
  rotate_left
  · intro w' hw'; have hrow0 := hw'.1; have e0x0 := Row.cell hrow0 0; have e0x1 := Row.cell hrow0 1; simp only [List.getElem?_cons_zero, List.getElem?_cons_succ] at e0x0 e0x1; clear hrow0; have hrow1 := hw'.2.1; have e1x0 := Row.cell hrow1 0; simp only [List.getElem?_cons_zero, List.getElem?_cons_succ] at e1x0; clear hrow1; have hrow2 := hw'.2.2; have e2x0 := Row.cell hrow2 0; simp only [List.getElem?_cons_zero, List.getElem?_cons_succ] at e2x0; clear hrow2; clear hw'; go_simp; try with_reducible rfl
  try simp only [Act.put, List.setIfInBounds_toArray, List.set_cons_zero, List.set_cons_succ]
  refine wpAnyH_takeD (some 6) (i := 2) (v := ?_) rfl rfl (by kernel_rfl) (by kernel_rfl) (by kernel_rfl) (fun _ _ _ h => h) (.inl ⟨by kernel_rfl, ?_⟩) hS0 ?_
  rotate_left
  · intro w' hw'; have hrow0 := hw'.1; have e0x0 := Row.cell hrow0 0; have e0x1 := Row.cell hrow0 1; simp only [List.getElem?_cons_zero, List.getElem?_cons_succ] at e0x0 e0x1; clear hrow0; have hrow1 := hw'.2.1; have e1x0 := Row.cell hrow1 0; simp only [List.getElem?_cons_zero, List.getElem?_cons_succ] at e1x0; clear hrow1; have hrow2 := hw'.2.2; have e2x0 := Row.cell hrow2 0; simp only [List.getElem?_cons_zero, List.getElem?_cons_succ] at e2x0; clear hrow2; clear hw'; go_simp; try with_reducible rfl
  try simp only [Act.put, List.setIfInBounds_toArray, List.set_cons_zero, List.set_cons_succ]
  refine wpAnyH_takeD (some 8) (i := 4) (v := ?_) rfl rfl (by kernel_rfl) (by kernel_rfl) (by kernel_rfl) (fun _ _ _ h => h) (.inl ⟨by kernel_rfl, ?_⟩) hS0 ?_
  rotate_left
  · intro w' hw'; have hrow0 := hw'.1; have e0x0 := Row.cell hrow0 0; have e0x1 := Row.cell hrow0 1; simp only [List.getElem?_cons_zero, List.getElem?_cons_succ] at e0x0 e0x1; clear hrow0; have hrow1 := hw'.2.1; have e1x0 := Row.cell hrow1 0; simp only [List.getElem?_cons_zero, List.getElem?_cons_succ] at e1x0; clear hrow1; have hrow2 := hw'.2.2; have e2x0 := Row.cell hrow2 0; simp only [List.getElem?_cons_zero, List.getElem?_cons_succ] at e2x0; clear hrow2; clear hw'; go_simp; try with_reducible rfl
  try simp only [Act.put, List.setIfInBounds_toArray, List.set_cons_zero, List.set_cons_succ]
  refine wpAnyH_all (rs := [3]) (by kernel_rfl) (by simp) ?_
  intro i hi; simp only [List.mem_cons, List.not_mem_nil, or_false] at hi
  subst hi
  refine wpOp_step rfl (fun K hK => ?_)
  go_simp
  with_reducible refine (HT.out W0 sS).mono ?_
  rintro e v1 ⟨rfl, hB1⟩
  replace bR := bR.trans (hB1.mono bR.size)
  exact ⟨rfl, rfl, bW0.trans (bR.mono bW0.size)⟩
set_option maxRecDepth 100000 in
set_option maxHeartbeats 8000000 in
theorem ww1_ok (e : Nat) (KF : FuncId) (B p q b n cap g m cap' : Nat) (zs : List Int) (js : List (Int × Int)) (turn : Int) (w : World) (rm : Row w B 33 [.slice (some ⟨b, 0, none⟩) n cap, .slice (some ⟨g, 0, none⟩) m cap']) (rp : Row w p 2 [.int .i64 turn]) (rq : Row w q 50 [.func (Fn.func KF) #[] #[]]) (sS : Stk w b zs) (sJ : Jst w g js) (hn : n = zs.length) (hm : m = js.length) (hv : okM zs js = true) (ht : turnOk zs turn = true)
    (hRd : ∀ w1 d0 d1 d2 d3 d4 d5 d6 d7, Stk w1 b zs → Jst w1 g js → hasR zs js [d0, d1, d2, d3, d4, d5, d6, d7] = true → Calls Try.prog 42 #[.agg #[.slice (some ⟨b, 0, none⟩) n cap, .slice (some ⟨g, 0, none⟩) m cap'], .agg ([.int .i64 d0, .int .i64 d1, .int .i64 d2, .int .i64 d3, .int .i64 d4, .int .i64 d5, .int .i64 d6, .int .i64 d7] : List Value).toArray, .func (Fn.func KF) #[] #[]] w1 fun x w' => x = .returned (.agg (rdV e zs [d0, d1, d2, d3, d4, d5, d6, d7] n).toArray) ∧ Below w1.heap.size w1 w') :
    Calls Try.prog 23 #[.pointer (some ⟨B, 0, none⟩), .pointer (some ⟨p, 0, none⟩), .pointer (some ⟨q, 0, none⟩)] w fun x w' => ∃ v, x = .returned v ∧ OwnI w' w.heap.size v (wwE e zs js turn) ∧ Below w.heap.size w w' := by
  have hv1 := (okM_out hv).1
  have HT := hid (fun w1 (h : Stk w1 b zs) => moTurn_ok b n cap g m cap' zs js turn w1 h hn hv1 ht)
  have HW := hid (fun w1 (h : Stk w1 b zs) (j : Jst w1 g js) => moWrong_e e KF b n cap g m cap' zs js turn w1 h j hn hm hv ht hRd)
  have bW : Below w.heap.size w w := Below.refl _ w
  obtain ⟨E, hE⟩ : ∃ E, wwE e zs js turn = E := ⟨_, rfl⟩
  rw [hE] at HW ⊢
  clear hn hm hv ht hv1 hRd hE
  go_enter Try.func23, Try.ntmps23
  go_wp2_with fail
  refine wp_region_held (S := fun W' : World => Row W' B 33 [.slice (some ⟨b, 0, none⟩) n cap, .slice (some ⟨g, 0, none⟩) m cap'] ∧ Row W' p 2 [.int .i64 turn] ∧ Row W' q 50 [.func (Fn.func KF) #[] #[]]) (by kernel_rfl) ?_
  change wpAnyH _ _ _ _ _ _ _ _ (World.drew _)
  obtain ⟨W0, hW0⟩ : ∃ X, X = World.drew (w) := ⟨_, rfl⟩
  have hD0 : Below (w).heap.size (w) W0 := by rw [hW0]; exact (Below.refl _ _).drew
  replace rm := rm.below hD0 rm.lt
  replace rp := rp.below hD0 rp.lt
  replace rq := rq.below hD0 rq.lt
  replace sS := sS.below hD0 sS.1
  replace sJ := sJ.below hD0 sJ.1
  have bW0 := bW.trans (hD0.mono bW.size)
  have bR : Below W0.heap.size W0 W0 := Below.refl _ _
  rw [← hW0]
  clear hW0 hD0
  have l_rm := rm.lt
  have l_rp := rp.lt
  have l_rq := rq.lt
  have l_sS := sS.1
  have l_sJ := sJ.1
  have hS0 : (fun W' : World => Row W' B 33 [.slice (some ⟨b, 0, none⟩) n cap, .slice (some ⟨g, 0, none⟩) m cap'] ∧ Row W' p 2 [.int .i64 turn] ∧ Row W' q 50 [.func (Fn.func KF) #[] #[]]) W0 := ⟨rm, rp, rq⟩
  refine wpAnyH_takeD (some 4) (i := 0) (v := ?_) rfl rfl (by kernel_rfl) (by kernel_rfl) (by kernel_rfl) (fun _ _ _ h => h) (.inl ⟨by kernel_rfl, ?_⟩) hS0 ?_
  rotate_left
  · intro w' hw'; have hrow0 := hw'.1; have e0x0 := Row.cell hrow0 0; have e0x1 := Row.cell hrow0 1; simp only [List.getElem?_cons_zero, List.getElem?_cons_succ] at e0x0 e0x1; clear hrow0; have hrow1 := hw'.2.1; have e1x0 := Row.cell hrow1 0; simp only [List.getElem?_cons_zero, List.getElem?_cons_succ] at e1x0; clear hrow1; have hrow2 := hw'.2.2; have e2x0 := Row.cell hrow2 0; simp only [List.getElem?_cons_zero, List.getElem?_cons_succ] at e2x0; clear hrow2; clear hw'; go_simp; try with_reducible rfl
  try simp only [Act.put, List.setIfInBounds_toArray, List.set_cons_zero, List.set_cons_succ]
  refine wpAnyH_takeD (some 5) (i := 1) (v := ?_) rfl rfl (by kernel_rfl) (by kernel_rfl) (by kernel_rfl) (fun _ _ _ h => h) (.inl ⟨by kernel_rfl, ?_⟩) hS0 ?_
  rotate_left
  · intro w' hw'; have hrow0 := hw'.1; have e0x0 := Row.cell hrow0 0; have e0x1 := Row.cell hrow0 1; simp only [List.getElem?_cons_zero, List.getElem?_cons_succ] at e0x0 e0x1; clear hrow0; have hrow1 := hw'.2.1; have e1x0 := Row.cell hrow1 0; simp only [List.getElem?_cons_zero, List.getElem?_cons_succ] at e1x0; clear hrow1; have hrow2 := hw'.2.2; have e2x0 := Row.cell hrow2 0; simp only [List.getElem?_cons_zero, List.getElem?_cons_succ] at e2x0; clear hrow2; clear hw'; go_simp; try with_reducible rfl
  try simp only [Act.put, List.setIfInBounds_toArray, List.set_cons_zero, List.set_cons_succ]
  refine wpAnyH_takeD (some 6) (i := 2) (v := ?_) rfl rfl (by kernel_rfl) (by kernel_rfl) (by kernel_rfl) (fun _ _ _ h => h) (.inl ⟨by kernel_rfl, ?_⟩) hS0 ?_
  rotate_left
  · intro w' hw'; have hrow0 := hw'.1; have e0x0 := Row.cell hrow0 0; have e0x1 := Row.cell hrow0 1; simp only [List.getElem?_cons_zero, List.getElem?_cons_succ] at e0x0 e0x1; clear hrow0; have hrow1 := hw'.2.1; have e1x0 := Row.cell hrow1 0; simp only [List.getElem?_cons_zero, List.getElem?_cons_succ] at e1x0; clear hrow1; have hrow2 := hw'.2.2; have e2x0 := Row.cell hrow2 0; simp only [List.getElem?_cons_zero, List.getElem?_cons_succ] at e2x0; clear hrow2; clear hw'; go_simp; try with_reducible rfl
  try simp only [Act.put, List.setIfInBounds_toArray, List.set_cons_zero, List.set_cons_succ]
  refine wpAnyH_takeD (some 8) (i := 4) (v := ?_) rfl rfl (by kernel_rfl) (by kernel_rfl) (by kernel_rfl) (fun _ _ _ h => h) (.inl ⟨by kernel_rfl, ?_⟩) hS0 ?_
  rotate_left
  · intro w' hw'; have hrow0 := hw'.1; have e0x0 := Row.cell hrow0 0; have e0x1 := Row.cell hrow0 1; simp only [List.getElem?_cons_zero, List.getElem?_cons_succ] at e0x0 e0x1; clear hrow0; have hrow1 := hw'.2.1; have e1x0 := Row.cell hrow1 0; simp only [List.getElem?_cons_zero, List.getElem?_cons_succ] at e1x0; clear hrow1; have hrow2 := hw'.2.2; have e2x0 := Row.cell hrow2 0; simp only [List.getElem?_cons_zero, List.getElem?_cons_succ] at e2x0; clear hrow2; clear hw'; go_simp; try with_reducible rfl
  try simp only [Act.put, List.setIfInBounds_toArray, List.set_cons_zero, List.set_cons_succ]
  refine wpAnyH_all (rs := [3]) (by kernel_rfl) (by simp) ?_
  intro i hi; simp only [List.mem_cons, List.not_mem_nil, or_false] at hi
  subst hi
  refine wpOp_step rfl (fun K hK => ?_)
  go_simp
  with_reducible refine (HT.out W0 sS).mono ?_
  rintro e v1 ⟨rfl, hB1⟩
  replace rm := rm.below hB1 rm.lt
  replace rp := rp.below hB1 rp.lt
  replace rq := rq.below hB1 rq.lt
  replace sS := sS.below hB1 sS.1
  replace sJ := sJ.below hB1 sJ.1
  replace bR := bR.trans (hB1.mono bR.size)
  have hS1 : (fun W' : World => Row W' B 33 [.slice (some ⟨b, 0, none⟩) n cap, .slice (some ⟨g, 0, none⟩) m cap'] ∧ Row W' p 2 [.int .i64 turn] ∧ Row W' q 50 [.func (Fn.func KF) #[] #[]]) v1 := ⟨rm, rp, rq⟩
  refine hK _ _ ⟨hS1, ?_⟩
  try simp only [Act.put, List.setIfInBounds_toArray, List.set_cons_zero, List.set_cons_succ]
  clear hB1 hK K hS0
  refine wpAnyH_all (rs := [5]) (by kernel_rfl) (by simp) ?_
  intro i hi; simp only [List.mem_cons, List.not_mem_nil, or_false] at hi
  subst hi
  refine wpOp_step rfl (fun K hK => ?_)
  go_simp
  with_reducible refine (HW.out v1 sS sJ).mono ?_
  rintro e v2 ⟨x, rfl, O1, hB2⟩
  have hzO := bR.size
  replace rm := rm.below hB2 rm.lt
  replace rp := rp.below hB2 rp.lt
  replace rq := rq.below hB2 rq.lt
  replace sS := sS.below hB2 sS.1
  replace sJ := sJ.below hB2 sJ.1
  replace bR := bR.trans (hB2.mono bR.size)
  have hS2 : (fun W' : World => Row W' B 33 [.slice (some ⟨b, 0, none⟩) n cap, .slice (some ⟨g, 0, none⟩) m cap'] ∧ Row W' p 2 [.int .i64 turn] ∧ Row W' q 50 [.func (Fn.func KF) #[] #[]]) v2 := ⟨rm, rp, rq⟩
  refine hK _ _ ⟨hS2, ?_⟩
  try simp only [Act.put, List.setIfInBounds_toArray, List.set_cons_zero, List.set_cons_succ]
  clear hB2 hK K hS1
  refine wpAnyH_takeD (some 3) (i := 6) (v := ?_) rfl rfl (by kernel_rfl) (by kernel_rfl) (by kernel_rfl) (fun _ _ _ h => h) (.inl ⟨by kernel_rfl, ?_⟩) hS2 ?_
  rotate_left
  · intro w' hw'; go_simp; try with_reducible rfl
  try simp only [Act.put, List.setIfInBounds_toArray, List.set_cons_zero, List.set_cons_succ]
  refine wpAnyH_done (by kernel_rfl) ?_ _
  go_wp2_with fail
  go_ret
  exact ⟨_, rfl, O1.base (b' := w.heap.size) (by have := bW0.size; omega), bW0.trans (bR.mono bW0.size)⟩

def wwR (zs : List Int) (js : List (Int × Int)) (turn y : Int) : List Int × Int :=
  if okM zs js then (if y = 0 then (if turnOk zs turn then (wwE 0 zs js turn, 0) else ([], 2)) else if y = 1 then (if turnOk zs turn then (wwE 1 zs js turn, 0) else ([], 2)) else ([], 2)) else ([], 1)
theorem wwR_no {zs : List Int} {js : List (Int × Int)} {turn y : Int} (h : okM zs js = false) : wwR zs js turn y = ([], 1) := by simp [wwR, h]
theorem wwR_eye {zs : List Int} {js : List (Int × Int)} {turn y : Int} (h : okM zs js = true) (k : y < 0 ∨ 2 ≤ y) : wwR zs js turn y = ([], 2) := by
  have k0 : y ≠ 0 := by omega
  have k1 : y ≠ 1 := by omega
  simp [wwR, h, k0, k1]
theorem wwR_turn {zs : List Int} {js : List (Int × Int)} {turn y : Int} (h : okM zs js = true) (k : turnOk zs turn = false) : wwR zs js turn y = ([], 2) := by simp [wwR, h, k]
theorem wwR_zero {zs : List Int} {js : List (Int × Int)} {turn : Int} (h : okM zs js = true) (k : turnOk zs turn = true) : wwR zs js turn 0 = (wwE 0 zs js turn, 0) := by simp [wwR, h, k]
theorem wwR_one {zs : List Int} {js : List (Int × Int)} {turn : Int} (h : okM zs js = true) (k : turnOk zs turn = true) : wwR zs js turn 1 = (wwE 1 zs js turn, 0) := by simp [wwR, h, k]
set_option maxRecDepth 100000 in
set_option maxHeartbeats 4000000 in
theorem implWw_no (b n cap g m cap' : Nat) (zs : List Int) (js : List (Int × Int)) (turn : Int) (w : World) (hS : Stk w b zs) (hJ : Jst w g js) (hn : n = zs.length) (hm : m = js.length) (y : Int) (hv : okM zs js = false) :
    Calls Try.prog 7 #[.agg #[.slice (some ⟨b, 0, none⟩) n cap, .slice (some ⟨g, 0, none⟩) m cap'], .int .i64 turn, .int .i64 y] w fun e w' => ∃ x, e = .returned (.tuple #[x, .int .i64 (wwR zs js turn y).2]) ∧ OwnI w' w.heap.size x (wwR zs js turn y).1 ∧ Below w.heap.size w w' := by
  have bel1 : Below (w.alloc (.cells #[.slice (some ⟨b, 0, none⟩) n cap, .slice (some ⟨g, 0, none⟩) m cap'] 33)).heap.size (w.alloc (.cells #[.slice (some ⟨b, 0, none⟩) n cap, .slice (some ⟨g, 0, none⟩) m cap'] 33)) ((w.alloc (.cells #[.slice (some ⟨b, 0, none⟩) n cap, .slice (some ⟨g, 0, none⟩) m cap'] 33)).alloc (.cells #[.int .i64 turn] 2)) := (Below.refl _ _).alloc (Nat.le_refl _) _
  have bel : Below w.heap.size w ((w.alloc (.cells #[.slice (some ⟨b, 0, none⟩) n cap, .slice (some ⟨g, 0, none⟩) m cap'] 33)).alloc (.cells #[.int .i64 turn] 2)) := ((Below.refl _ w).alloc (Nat.le_refl _) _).alloc (by simp) _
  have M0 := hid ((MoAt.new w b n cap g m cap' zs js hS hJ).keep bel1)
  have rT' := Row.new (w.alloc (.cells #[.slice (some ⟨b, 0, none⟩) n cap, .slice (some ⟨g, 0, none⟩) m cap'] 33)) 2 [.int .i64 turn]
  simp only [World.size_alloc] at rT'
  have rT := hid rT'
  have HV := hid (implValidMotion_any b n cap g m cap' zs js _ M0.out.2.1 M0.out.2.2 hn hm)
  have hmf : ∀ (fn : Fn) (first cap : Array Value) (w : World), (Instr.makeFunc fn first cap).run Try.prog w = .ok (.func fn first cap) w := fun _ _ _ _ => rfl
  clear rT' bel1
  rw [wwR_no hv]
  rw [hv] at HV
  clear hS hJ hn hm hv
  go_enter Try.func7, Try.ntmps7
  go_wp2_with fail
  refine HV.out.mono ?_
  rintro e w1 ⟨rfl, hB⟩
  simp only [World.size_alloc] at hB
  have b2 := hid (bel.trans (hB.mono (by omega)))
  clear hB
  go_wp2_with fail
  go_ret2
  exact ⟨_, rfl, OwnI.nil _ _ _ _, b2.out⟩
set_option maxRecDepth 100000 in
set_option maxHeartbeats 4000000 in
theorem implWw_eye (b n cap g m cap' : Nat) (zs : List Int) (js : List (Int × Int)) (turn : Int) (w : World) (hS : Stk w b zs) (hJ : Jst w g js) (hn : n = zs.length) (hm : m = js.length) (y : Int) (hv : okM zs js = true) (hy : y < 0 ∨ 2 ≤ y) :
    Calls Try.prog 7 #[.agg #[.slice (some ⟨b, 0, none⟩) n cap, .slice (some ⟨g, 0, none⟩) m cap'], .int .i64 turn, .int .i64 y] w fun e w' => ∃ x, e = .returned (.tuple #[x, .int .i64 (wwR zs js turn y).2]) ∧ OwnI w' w.heap.size x (wwR zs js turn y).1 ∧ Below w.heap.size w w' := by
  have bel1 : Below (w.alloc (.cells #[.slice (some ⟨b, 0, none⟩) n cap, .slice (some ⟨g, 0, none⟩) m cap'] 33)).heap.size (w.alloc (.cells #[.slice (some ⟨b, 0, none⟩) n cap, .slice (some ⟨g, 0, none⟩) m cap'] 33)) ((w.alloc (.cells #[.slice (some ⟨b, 0, none⟩) n cap, .slice (some ⟨g, 0, none⟩) m cap'] 33)).alloc (.cells #[.int .i64 turn] 2)) := (Below.refl _ _).alloc (Nat.le_refl _) _
  have bel : Below w.heap.size w ((w.alloc (.cells #[.slice (some ⟨b, 0, none⟩) n cap, .slice (some ⟨g, 0, none⟩) m cap'] 33)).alloc (.cells #[.int .i64 turn] 2)) := ((Below.refl _ w).alloc (Nat.le_refl _) _).alloc (by simp) _
  have M0 := hid ((MoAt.new w b n cap g m cap' zs js hS hJ).keep bel1)
  have rT' := Row.new (w.alloc (.cells #[.slice (some ⟨b, 0, none⟩) n cap, .slice (some ⟨g, 0, none⟩) m cap'] 33)) 2 [.int .i64 turn]
  simp only [World.size_alloc] at rT'
  have rT := hid rT'
  have HV := hid (implValidMotion_any b n cap g m cap' zs js _ M0.out.2.1 M0.out.2.2 hn hm)
  have hmf : ∀ (fn : Fn) (first cap : Array Value) (w : World), (Instr.makeFunc fn first cap).run Try.prog w = .ok (.func fn first cap) w := fun _ _ _ _ => rfl
  clear rT' bel1
  rw [wwR_eye hv hy]
  rw [hv] at HV
  have HE := hid (fun w => look_no y w hy)
  clear hS hJ hn hm hv hy
  go_enter Try.func7, Try.ntmps7
  go_wp2_with fail
  refine HV.out.mono ?_
  rintro e w1 ⟨rfl, hB⟩
  have hz := hB.size
  simp only [World.size_alloc] at hB hz
  go_wp2_with fail
  refine (HE.out _).mono ?_
  rintro e w2 ⟨rfl, hB2⟩
  have hz2 := hB2.size
  have b2 := hid ((bel.trans ((hB.mono (by omega)).trans (hB2.mono (by omega)))).alloc (by omega) (.cells #[.nilFunc] 50))
  clear hB hB2
  go_wp2_with fail
  go_ret2
  exact ⟨_, rfl, OwnI.nil _ _ _ _, b2.out⟩
set_option maxRecDepth 100000 in
set_option maxHeartbeats 8000000 in
theorem implWw_zero_turn (b n cap g m cap' : Nat) (zs : List Int) (js : List (Int × Int)) (turn : Int) (w : World) (hS : Stk w b zs) (hJ : Jst w g js) (hn : n = zs.length) (hm : m = js.length) (hv : okM zs js = true) (ht : turnOk zs turn = false) :
    Calls Try.prog 7 #[.agg #[.slice (some ⟨b, 0, none⟩) n cap, .slice (some ⟨g, 0, none⟩) m cap'], .int .i64 turn, .int .i64 0] w fun e w' => ∃ x, e = .returned (.tuple #[x, .int .i64 (wwR zs js turn 0).2]) ∧ OwnI w' w.heap.size x (wwR zs js turn 0).1 ∧ Below w.heap.size w w' := by
  have bel1 : Below (w.alloc (.cells #[.slice (some ⟨b, 0, none⟩) n cap, .slice (some ⟨g, 0, none⟩) m cap'] 33)).heap.size (w.alloc (.cells #[.slice (some ⟨b, 0, none⟩) n cap, .slice (some ⟨g, 0, none⟩) m cap'] 33)) ((w.alloc (.cells #[.slice (some ⟨b, 0, none⟩) n cap, .slice (some ⟨g, 0, none⟩) m cap'] 33)).alloc (.cells #[.int .i64 turn] 2)) := (Below.refl _ _).alloc (Nat.le_refl _) _
  have bel : Below w.heap.size w ((w.alloc (.cells #[.slice (some ⟨b, 0, none⟩) n cap, .slice (some ⟨g, 0, none⟩) m cap'] 33)).alloc (.cells #[.int .i64 turn] 2)) := ((Below.refl _ w).alloc (Nat.le_refl _) _).alloc (by simp) _
  have M0 := hid ((MoAt.new w b n cap g m cap' zs js hS hJ).keep bel1)
  have rT' := Row.new (w.alloc (.cells #[.slice (some ⟨b, 0, none⟩) n cap, .slice (some ⟨g, 0, none⟩) m cap'] 33)) 2 [.int .i64 turn]
  simp only [World.size_alloc] at rT'
  have rT := hid rT'
  have HV := hid (implValidMotion_any b n cap g m cap' zs js _ M0.out.2.1 M0.out.2.2 hn hm)
  have hmf : ∀ (fn : Fn) (first cap : Array Value) (w : World), (Instr.makeFunc fn first cap).run Try.prog w = .ok (.func fn first cap) w := fun _ _ _ _ => rfl
  clear rT' bel1
  rw [wwR_turn hv ht]
  rw [hv] at HV
  have hv1 := (okM_out hv).1
  have HE := hid (fun w => look_zero w)
  have HRD := hid (fun w1 d0 d1 d2 d3 d4 d5 d6 d7 (h : Stk w1 b zs) (j : Jst w1 g js) (r : hasR zs js [d0, d1, d2, d3, d4, d5, d6, d7] = true) => reads_zero b n cap g m cap' zs js d0 d1 d2 d3 d4 d5 d6 d7 w1 h j hn r)
  have HS := hid (fun w2 (hB : Below (w.heap.size + 1 + 1) ((w.alloc (.cells #[.slice (some ⟨b, 0, none⟩) n cap, .slice (some ⟨g, 0, none⟩) m cap'] 33)).alloc (.cells #[.int .i64 turn] 2)) w2) => settle_pan_ints 23 #[.pointer (some ⟨w.heap.size, 0, none⟩), .pointer (some ⟨w.heap.size + 1, 0, none⟩), .pointer (some ⟨w2.heap.size, 0, none⟩)] turn (w2.alloc (.cells #[.func (Fn.func 39) #[] #[]] 50)) (fun _ => rfl)
    (fun w3 h3 hz3 => by
      have hs : w.heap.size + 1 + 1 ≤ w2.heap.size := by have := hB.size; simp at this; omega
      have hb0 : Below w2.heap.size w2 (w2.alloc (.cells #[.func (Fn.func 39) #[] #[]] 50)) := (Below.refl _ _).alloc (Nat.le_refl _) _
      have m2 := (M0.out.keep (by simpa only [World.size_alloc] using hB)).keep hb0
      have m3 := m2.keep h3
      have r3 := ((rT.out.below hB (by omega)).below hb0 (by omega)).below h3 (by simp; omega)
      have q3 := (Row.new w2 50 [.func (Fn.func 39) #[] #[]]).below h3 (by simp)
      exact ww1_no 0 39 w.heap.size (w.heap.size + 1) w2.heap.size b n cap g m cap' zs js turn w3 m3.1 r3 q3 m3.2.1 m3.2.2 hn hm hv1 ht))
  clear hS hJ hn hm hv hv1 ht
  go_enter Try.func7, Try.ntmps7
  go_wp2_with fail
  refine HV.out.mono ?_
  rintro e w1 ⟨rfl, hB⟩
  have hz := hB.size
  simp only [World.size_alloc] at hB hz
  go_wp2_with fail
  refine (HE.out _).mono ?_
  rintro e w2 ⟨rfl, hB2⟩
  have hz2 := hB2.size
  have hB12 := hB.trans (hB2.mono (by omega))
  have b2 := hid ((bel.trans (hB12.mono (by omega))).alloc (by omega) (.cells #[.func (Fn.func 39) #[] #[]] 50))
  go_wp2_with fail
  refine (HS.out w2 hB12).mono ?_
  rintro e w3 ⟨rfl, hB3⟩
  simp only [World.size_alloc] at hB3
  have b3 := hid (b2.out.trans (hB3.mono (by omega)))
  clear hB hB2 hB12 hB3
  go_wp2_with fail
  go_ret2
  exact ⟨_, rfl, OwnI.nil _ _ _ _, b3.out⟩
set_option maxRecDepth 100000 in
set_option maxHeartbeats 8000000 in
theorem implWw_zero_ok (b n cap g m cap' : Nat) (zs : List Int) (js : List (Int × Int)) (turn : Int) (w : World) (hS : Stk w b zs) (hJ : Jst w g js) (hn : n = zs.length) (hm : m = js.length) (hv : okM zs js = true) (ht : turnOk zs turn = true) :
    Calls Try.prog 7 #[.agg #[.slice (some ⟨b, 0, none⟩) n cap, .slice (some ⟨g, 0, none⟩) m cap'], .int .i64 turn, .int .i64 0] w fun e w' => ∃ x, e = .returned (.tuple #[x, .int .i64 (wwR zs js turn 0).2]) ∧ OwnI w' w.heap.size x (wwR zs js turn 0).1 ∧ Below w.heap.size w w' := by
  have bel1 : Below (w.alloc (.cells #[.slice (some ⟨b, 0, none⟩) n cap, .slice (some ⟨g, 0, none⟩) m cap'] 33)).heap.size (w.alloc (.cells #[.slice (some ⟨b, 0, none⟩) n cap, .slice (some ⟨g, 0, none⟩) m cap'] 33)) ((w.alloc (.cells #[.slice (some ⟨b, 0, none⟩) n cap, .slice (some ⟨g, 0, none⟩) m cap'] 33)).alloc (.cells #[.int .i64 turn] 2)) := (Below.refl _ _).alloc (Nat.le_refl _) _
  have bel : Below w.heap.size w ((w.alloc (.cells #[.slice (some ⟨b, 0, none⟩) n cap, .slice (some ⟨g, 0, none⟩) m cap'] 33)).alloc (.cells #[.int .i64 turn] 2)) := ((Below.refl _ w).alloc (Nat.le_refl _) _).alloc (by simp) _
  have M0 := hid ((MoAt.new w b n cap g m cap' zs js hS hJ).keep bel1)
  have rT' := Row.new (w.alloc (.cells #[.slice (some ⟨b, 0, none⟩) n cap, .slice (some ⟨g, 0, none⟩) m cap'] 33)) 2 [.int .i64 turn]
  simp only [World.size_alloc] at rT'
  have rT := hid rT'
  have HV := hid (implValidMotion_any b n cap g m cap' zs js _ M0.out.2.1 M0.out.2.2 hn hm)
  have hmf : ∀ (fn : Fn) (first cap : Array Value) (w : World), (Instr.makeFunc fn first cap).run Try.prog w = .ok (.func fn first cap) w := fun _ _ _ _ => rfl
  clear rT' bel1
  rw [wwR_zero hv ht]
  rw [hv] at HV
  have hv1 := (okM_out hv).1
  have HE := hid (fun w => look_zero w)
  have HRD := hid (fun w1 d0 d1 d2 d3 d4 d5 d6 d7 (h : Stk w1 b zs) (j : Jst w1 g js) (r : hasR zs js [d0, d1, d2, d3, d4, d5, d6, d7] = true) => reads_zero b n cap g m cap' zs js d0 d1 d2 d3 d4 d5 d6 d7 w1 h j hn r)
  have HS := hid (fun w2 (hB : Below (w.heap.size + 1 + 1) ((w.alloc (.cells #[.slice (some ⟨b, 0, none⟩) n cap, .slice (some ⟨g, 0, none⟩) m cap'] 33)).alloc (.cells #[.int .i64 turn] 2)) w2) => settle_ok_ints 23 #[.pointer (some ⟨w.heap.size, 0, none⟩), .pointer (some ⟨w.heap.size + 1, 0, none⟩), .pointer (some ⟨w2.heap.size, 0, none⟩)] (wwE 0 zs js turn) (w2.alloc (.cells #[.func (Fn.func 39) #[] #[]] 50)) (fun _ => rfl)
    (by
      have hs : w.heap.size + 1 + 1 ≤ w2.heap.size := by have := hB.size; simp at this; omega
      have hb0 : Below w2.heap.size w2 (w2.alloc (.cells #[.func (Fn.func 39) #[] #[]] 50)) := (Below.refl _ _).alloc (Nat.le_refl _) _
      have hb1 : Below (w2.alloc (.cells #[.func (Fn.func 39) #[] #[]] 50)).heap.size (w2.alloc (.cells #[.func (Fn.func 39) #[] #[]] 50)) ((w2.alloc (.cells #[.func (Fn.func 39) #[] #[]] 50)).alloc (.cells #[.int .i64 1] 2)) := (Below.refl _ _).alloc (Nat.le_refl _) _
      have m2 := (M0.out.keep (by simpa only [World.size_alloc] using hB)).keep hb0
      have m3 := m2.keep hb1
      have r3 := ((rT.out.below hB (by omega)).below hb0 (by omega)).below hb1 (by simp; omega)
      have q3 := (Row.new w2 50 [.func (Fn.func 39) #[] #[]]).below hb1 (by simp)
      have := ww1_ok 0 39 w.heap.size (w.heap.size + 1) w2.heap.size b n cap g m cap' zs js turn ((w2.alloc (.cells #[.func (Fn.func 39) #[] #[]] 50)).alloc (.cells #[.int .i64 1] 2)) m3.1 r3 q3 m3.2.1 m3.2.2 hn hm hv ht HRD.out
      simpa only [World.size_alloc] using this))
  obtain ⟨E, hE⟩ : ∃ E, wwE 0 zs js turn = E := ⟨_, rfl⟩
  rw [hE] at HS ⊢
  clear hS hJ hn hm hv hv1 ht hE
  go_enter Try.func7, Try.ntmps7
  go_wp2_with fail
  refine HV.out.mono ?_
  rintro e w1 ⟨rfl, hB⟩
  have hz := hB.size
  simp only [World.size_alloc] at hB hz
  go_wp2_with fail
  refine (HE.out _).mono ?_
  rintro e w2 ⟨rfl, hB2⟩
  have hz2 := hB2.size
  have hB12 := hB.trans (hB2.mono (by omega))
  have b2 := hid ((bel.trans (hB12.mono (by omega))).alloc (by omega) (.cells #[.func (Fn.func 39) #[] #[]] 50))
  go_wp2_with fail
  refine (HS.out w2 hB12).mono ?_
  rintro e w3 ⟨x, rfl, hO, hB3⟩
  simp only [World.size_alloc] at hB3 hO
  have O3 := hid (hO.base (b' := w.heap.size) (by omega))
  have b3 := hid (b2.out.trans (hB3.mono (by omega)))
  clear hB hB2 hB12 hB3 hO
  go_wp2_with fail
  go_ret2
  exact ⟨_, rfl, O3.out, b3.out⟩
set_option maxRecDepth 100000 in
set_option maxHeartbeats 8000000 in
theorem implWw_one_turn (b n cap g m cap' : Nat) (zs : List Int) (js : List (Int × Int)) (turn : Int) (w : World) (hS : Stk w b zs) (hJ : Jst w g js) (hn : n = zs.length) (hm : m = js.length) (hv : okM zs js = true) (ht : turnOk zs turn = false) :
    Calls Try.prog 7 #[.agg #[.slice (some ⟨b, 0, none⟩) n cap, .slice (some ⟨g, 0, none⟩) m cap'], .int .i64 turn, .int .i64 1] w fun e w' => ∃ x, e = .returned (.tuple #[x, .int .i64 (wwR zs js turn 1).2]) ∧ OwnI w' w.heap.size x (wwR zs js turn 1).1 ∧ Below w.heap.size w w' := by
  have bel1 : Below (w.alloc (.cells #[.slice (some ⟨b, 0, none⟩) n cap, .slice (some ⟨g, 0, none⟩) m cap'] 33)).heap.size (w.alloc (.cells #[.slice (some ⟨b, 0, none⟩) n cap, .slice (some ⟨g, 0, none⟩) m cap'] 33)) ((w.alloc (.cells #[.slice (some ⟨b, 0, none⟩) n cap, .slice (some ⟨g, 0, none⟩) m cap'] 33)).alloc (.cells #[.int .i64 turn] 2)) := (Below.refl _ _).alloc (Nat.le_refl _) _
  have bel : Below w.heap.size w ((w.alloc (.cells #[.slice (some ⟨b, 0, none⟩) n cap, .slice (some ⟨g, 0, none⟩) m cap'] 33)).alloc (.cells #[.int .i64 turn] 2)) := ((Below.refl _ w).alloc (Nat.le_refl _) _).alloc (by simp) _
  have M0 := hid ((MoAt.new w b n cap g m cap' zs js hS hJ).keep bel1)
  have rT' := Row.new (w.alloc (.cells #[.slice (some ⟨b, 0, none⟩) n cap, .slice (some ⟨g, 0, none⟩) m cap'] 33)) 2 [.int .i64 turn]
  simp only [World.size_alloc] at rT'
  have rT := hid rT'
  have HV := hid (implValidMotion_any b n cap g m cap' zs js _ M0.out.2.1 M0.out.2.2 hn hm)
  have hmf : ∀ (fn : Fn) (first cap : Array Value) (w : World), (Instr.makeFunc fn first cap).run Try.prog w = .ok (.func fn first cap) w := fun _ _ _ _ => rfl
  clear rT' bel1
  rw [wwR_turn hv ht]
  rw [hv] at HV
  have hv1 := (okM_out hv).1
  have HE := hid (fun w => look_one w)
  have HRD := hid (fun w1 d0 d1 d2 d3 d4 d5 d6 d7 (h : Stk w1 b zs) (j : Jst w1 g js) (r : hasR zs js [d0, d1, d2, d3, d4, d5, d6, d7] = true) => reads_one b n cap g m cap' zs js d0 d1 d2 d3 d4 d5 d6 d7 w1 h j hn r)
  have HS := hid (fun w2 (hB : Below (w.heap.size + 1 + 1) ((w.alloc (.cells #[.slice (some ⟨b, 0, none⟩) n cap, .slice (some ⟨g, 0, none⟩) m cap'] 33)).alloc (.cells #[.int .i64 turn] 2)) w2) => settle_pan_ints 23 #[.pointer (some ⟨w.heap.size, 0, none⟩), .pointer (some ⟨w.heap.size + 1, 0, none⟩), .pointer (some ⟨w2.heap.size, 0, none⟩)] turn (w2.alloc (.cells #[.func (Fn.func 40) #[] #[]] 50)) (fun _ => rfl)
    (fun w3 h3 hz3 => by
      have hs : w.heap.size + 1 + 1 ≤ w2.heap.size := by have := hB.size; simp at this; omega
      have hb0 : Below w2.heap.size w2 (w2.alloc (.cells #[.func (Fn.func 40) #[] #[]] 50)) := (Below.refl _ _).alloc (Nat.le_refl _) _
      have m2 := (M0.out.keep (by simpa only [World.size_alloc] using hB)).keep hb0
      have m3 := m2.keep h3
      have r3 := ((rT.out.below hB (by omega)).below hb0 (by omega)).below h3 (by simp; omega)
      have q3 := (Row.new w2 50 [.func (Fn.func 40) #[] #[]]).below h3 (by simp)
      exact ww1_no 1 40 w.heap.size (w.heap.size + 1) w2.heap.size b n cap g m cap' zs js turn w3 m3.1 r3 q3 m3.2.1 m3.2.2 hn hm hv1 ht))
  clear hS hJ hn hm hv hv1 ht
  go_enter Try.func7, Try.ntmps7
  go_wp2_with fail
  refine HV.out.mono ?_
  rintro e w1 ⟨rfl, hB⟩
  have hz := hB.size
  simp only [World.size_alloc] at hB hz
  go_wp2_with fail
  refine (HE.out _).mono ?_
  rintro e w2 ⟨rfl, hB2⟩
  have hz2 := hB2.size
  have hB12 := hB.trans (hB2.mono (by omega))
  have b2 := hid ((bel.trans (hB12.mono (by omega))).alloc (by omega) (.cells #[.func (Fn.func 40) #[] #[]] 50))
  go_wp2_with fail
  refine (HS.out w2 hB12).mono ?_
  rintro e w3 ⟨rfl, hB3⟩
  simp only [World.size_alloc] at hB3
  have b3 := hid (b2.out.trans (hB3.mono (by omega)))
  clear hB hB2 hB12 hB3
  go_wp2_with fail
  go_ret2
  exact ⟨_, rfl, OwnI.nil _ _ _ _, b3.out⟩
set_option maxRecDepth 100000 in
set_option maxHeartbeats 8000000 in
theorem implWw_one_ok (b n cap g m cap' : Nat) (zs : List Int) (js : List (Int × Int)) (turn : Int) (w : World) (hS : Stk w b zs) (hJ : Jst w g js) (hn : n = zs.length) (hm : m = js.length) (hv : okM zs js = true) (ht : turnOk zs turn = true) :
    Calls Try.prog 7 #[.agg #[.slice (some ⟨b, 0, none⟩) n cap, .slice (some ⟨g, 0, none⟩) m cap'], .int .i64 turn, .int .i64 1] w fun e w' => ∃ x, e = .returned (.tuple #[x, .int .i64 (wwR zs js turn 1).2]) ∧ OwnI w' w.heap.size x (wwR zs js turn 1).1 ∧ Below w.heap.size w w' := by
  have bel1 : Below (w.alloc (.cells #[.slice (some ⟨b, 0, none⟩) n cap, .slice (some ⟨g, 0, none⟩) m cap'] 33)).heap.size (w.alloc (.cells #[.slice (some ⟨b, 0, none⟩) n cap, .slice (some ⟨g, 0, none⟩) m cap'] 33)) ((w.alloc (.cells #[.slice (some ⟨b, 0, none⟩) n cap, .slice (some ⟨g, 0, none⟩) m cap'] 33)).alloc (.cells #[.int .i64 turn] 2)) := (Below.refl _ _).alloc (Nat.le_refl _) _
  have bel : Below w.heap.size w ((w.alloc (.cells #[.slice (some ⟨b, 0, none⟩) n cap, .slice (some ⟨g, 0, none⟩) m cap'] 33)).alloc (.cells #[.int .i64 turn] 2)) := ((Below.refl _ w).alloc (Nat.le_refl _) _).alloc (by simp) _
  have M0 := hid ((MoAt.new w b n cap g m cap' zs js hS hJ).keep bel1)
  have rT' := Row.new (w.alloc (.cells #[.slice (some ⟨b, 0, none⟩) n cap, .slice (some ⟨g, 0, none⟩) m cap'] 33)) 2 [.int .i64 turn]
  simp only [World.size_alloc] at rT'
  have rT := hid rT'
  have HV := hid (implValidMotion_any b n cap g m cap' zs js _ M0.out.2.1 M0.out.2.2 hn hm)
  have hmf : ∀ (fn : Fn) (first cap : Array Value) (w : World), (Instr.makeFunc fn first cap).run Try.prog w = .ok (.func fn first cap) w := fun _ _ _ _ => rfl
  clear rT' bel1
  rw [wwR_one hv ht]
  rw [hv] at HV
  have hv1 := (okM_out hv).1
  have HE := hid (fun w => look_one w)
  have HRD := hid (fun w1 d0 d1 d2 d3 d4 d5 d6 d7 (h : Stk w1 b zs) (j : Jst w1 g js) (r : hasR zs js [d0, d1, d2, d3, d4, d5, d6, d7] = true) => reads_one b n cap g m cap' zs js d0 d1 d2 d3 d4 d5 d6 d7 w1 h j hn r)
  have HS := hid (fun w2 (hB : Below (w.heap.size + 1 + 1) ((w.alloc (.cells #[.slice (some ⟨b, 0, none⟩) n cap, .slice (some ⟨g, 0, none⟩) m cap'] 33)).alloc (.cells #[.int .i64 turn] 2)) w2) => settle_ok_ints 23 #[.pointer (some ⟨w.heap.size, 0, none⟩), .pointer (some ⟨w.heap.size + 1, 0, none⟩), .pointer (some ⟨w2.heap.size, 0, none⟩)] (wwE 1 zs js turn) (w2.alloc (.cells #[.func (Fn.func 40) #[] #[]] 50)) (fun _ => rfl)
    (by
      have hs : w.heap.size + 1 + 1 ≤ w2.heap.size := by have := hB.size; simp at this; omega
      have hb0 : Below w2.heap.size w2 (w2.alloc (.cells #[.func (Fn.func 40) #[] #[]] 50)) := (Below.refl _ _).alloc (Nat.le_refl _) _
      have hb1 : Below (w2.alloc (.cells #[.func (Fn.func 40) #[] #[]] 50)).heap.size (w2.alloc (.cells #[.func (Fn.func 40) #[] #[]] 50)) ((w2.alloc (.cells #[.func (Fn.func 40) #[] #[]] 50)).alloc (.cells #[.int .i64 1] 2)) := (Below.refl _ _).alloc (Nat.le_refl _) _
      have m2 := (M0.out.keep (by simpa only [World.size_alloc] using hB)).keep hb0
      have m3 := m2.keep hb1
      have r3 := ((rT.out.below hB (by omega)).below hb0 (by omega)).below hb1 (by simp; omega)
      have q3 := (Row.new w2 50 [.func (Fn.func 40) #[] #[]]).below hb1 (by simp)
      have := ww1_ok 1 40 w.heap.size (w.heap.size + 1) w2.heap.size b n cap g m cap' zs js turn ((w2.alloc (.cells #[.func (Fn.func 40) #[] #[]] 50)).alloc (.cells #[.int .i64 1] 2)) m3.1 r3 q3 m3.2.1 m3.2.2 hn hm hv ht HRD.out
      simpa only [World.size_alloc] using this))
  obtain ⟨E, hE⟩ : ∃ E, wwE 1 zs js turn = E := ⟨_, rfl⟩
  rw [hE] at HS ⊢
  clear hS hJ hn hm hv hv1 ht hE
  go_enter Try.func7, Try.ntmps7
  go_wp2_with fail
  refine HV.out.mono ?_
  rintro e w1 ⟨rfl, hB⟩
  have hz := hB.size
  simp only [World.size_alloc] at hB hz
  go_wp2_with fail
  refine (HE.out _).mono ?_
  rintro e w2 ⟨rfl, hB2⟩
  have hz2 := hB2.size
  have hB12 := hB.trans (hB2.mono (by omega))
  have b2 := hid ((bel.trans (hB12.mono (by omega))).alloc (by omega) (.cells #[.func (Fn.func 40) #[] #[]] 50))
  go_wp2_with fail
  refine (HS.out w2 hB12).mono ?_
  rintro e w3 ⟨x, rfl, hO, hB3⟩
  simp only [World.size_alloc] at hB3 hO
  have O3 := hid (hO.base (b' := w.heap.size) (by omega))
  have b3 := hid (b2.out.trans (hB3.mono (by omega)))
  clear hB hB2 hB12 hB3 hO
  go_wp2_with fail
  go_ret2
  exact ⟨_, rfl, O3.out, b3.out⟩
theorem implWrong_any (b n cap g m cap' : Nat) (zs : List Int) (js : List (Int × Int)) (turn y : Int) (w : World) (hS : Stk w b zs) (hJ : Jst w g js) (hn : n = zs.length) (hm : m = js.length) :
    Calls Try.prog 7 #[.agg #[.slice (some ⟨b, 0, none⟩) n cap, .slice (some ⟨g, 0, none⟩) m cap'], .int .i64 turn, .int .i64 y] w fun e w' => ∃ x, e = .returned (.tuple #[x, .int .i64 (wwR zs js turn y).2]) ∧ OwnI w' w.heap.size x (wwR zs js turn y).1 ∧ Below w.heap.size w w' := by
  cases hv : okM zs js with
  | false => exact implWw_no b n cap g m cap' zs js turn w hS hJ hn hm y hv
  | true =>
    by_cases h0 : y = 0
    · subst h0
      cases ht : turnOk zs turn with
      | false => exact implWw_zero_turn b n cap g m cap' zs js turn w hS hJ hn hm hv ht
      | true => exact implWw_zero_ok b n cap g m cap' zs js turn w hS hJ hn hm hv ht
    · by_cases h1 : y = 1
      · subst h1
        cases ht : turnOk zs turn with
        | false => exact implWw_one_turn b n cap g m cap' zs js turn w hS hJ hn hm hv ht
        | true => exact implWw_one_ok b n cap g m cap' zs js turn w hS hJ hn hm hv ht
      · exact implWw_eye b n cap g m cap' zs js turn w hS hJ hn hm y hv (by omega)
end Go.Proofs.Ytomhmkdfhhmenaa
