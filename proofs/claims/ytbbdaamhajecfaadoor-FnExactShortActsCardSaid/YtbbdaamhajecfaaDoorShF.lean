/- An act behind acts. -/
import Derived.Test.YtbbdaamhajecfaaDoorShA
import Derived.Test.YtbbdaamhajecfaaDoorShE
import Derived.Test.YtbbdaamhajecfaaDoorHeld
import Derived.Deep.DeepCutAuto
import Derived.RegionTactic
namespace Go.Proofs.YtbbdaamhajecfaaDoor
open Go.RowKit
set_option linter.unusedVariables false
set_option linter.unusedSimpArgs false
theorem cellsAt {w : World} {g : Nat} {e : TypeId} {xs : List Value} (h : Row w g e xs) : ∀ j u, xs[j]? = some u → w.cell? ((⟨g, 0, none⟩ : Addr).add j) = some u := fun j u hj => by
  rw [show (⟨g, 0, none⟩ : Addr).add j = ⟨g, j, none⟩ from by unfold Addr.add; split <;> simp_all, h.cell j]
  exact hj
theorem exec_load_row {P : Program} {o : Oper} {a : Act} {w : World} (ty : TypeId) (x : Operand) (ho : o.op = .load ty x) (g : Nat) (hx : a.eval x = .pointer (some ⟨g, 0, none⟩)) (t : TypeId) (cs : Array Value) (d : TypeDesc) (hg : w.heap[g]? = some (.cells cs t (0, 0)))
    (hu : P.underlying ty = some d) (hd : (match d with | .struct _ | .array _ _ => true | _ => false) = true) (hi : (P.info? ty).map (·.size) = some cs.size) : (execOp a.eval o).run P w = .ok (.value (.agg cs)) w := by
  unfold execOp
  simp only [ho, hx, Instr.loadAt, Instr.sureAddr, Sem.run_bind, Sem.run_pure, Result.andThen_ok, run_loadVar_row w g t ty cs (0, 0) d hg hu hd hi]
theorem exec_load_mid {P : Program} {o : Oper} {a : Act} {w : World} (ty : TypeId) (x : Operand) (ho : o.op = .load ty x) (g off : Nat) (hx : a.eval x = .pointer (some ⟨g, off, none⟩)) (cs : List Value) (d : TypeDesc) (hg : w.rangeAt g off cs)
    (hu : P.underlying ty = some d) (hd : d.isRow = true) (hi : (P.info? ty).map (·.size) = some cs.length) : (execOp a.eval o).run P w = .ok (.value (.agg cs.toArray)) w := by
  unfold execOp
  simp only [ho, hx, Instr.loadAt, Instr.sureAddr, Sem.run_bind, Sem.run_pure, Result.andThen_ok, run_loadVar_mid w g off ty cs d hg hu hd hi]
/-- acts of its own that a call gives -/
def BehR (base : Nat) (l' : List (Int × Int)) (w : World) (e : Ending) (w' : World) : Prop :=
  ∃ v', e = .returned v' ∧ w'.ownsRow base 34 2 v' l'.length (avals l') ∧ Below base w w'
theorem act2_one (k n : Int) : ∀ u ∈ ([.int .i8 k, .int .i64 n] : List Value), u.oneCell' = true := by
  intro u hu
  simp only [List.mem_cons, List.not_mem_nil, or_false] at hu
  rcases hu with rfl | rfl <;> rfl
theorem last_range {w : World} {g : Nat} {T : TypeId} {l : List (Int × Int)} {rest : List Value} {Q : Nat} (h : Row w g T (avals l ++ rest)) (hq : l.length = Q + 1) : w.rangeAt g (Q * 2) [.int .i8 (lastA l).1, .int .i64 (lastA l).2] := fun j u hj => by
  have hl : j < 2 := by have := (List.getElem?_eq_some_iff.1 hj).1; simpa using this
  have h1 := lastA_get l rest (by omega)
  rw [hq, Nat.add_sub_cancel] at h1
  rw [h.cell (Q * 2 + j), ← hj]
  rcases (by omega : j = 0 ∨ j = 1) with rfl | rfl
  · exact h1.1
  · exact h1.2
theorem owns_set2 {w : World} {base n cap g q : Nat} {l : List (Int × Int)} (h : w.ownsRow base 34 2 (.slice (some ⟨g, 0, none⟩) n cap) n (avals l)) (hq : q < l.length) (k x : Int) : (w.setCells g (q * 2) [.int .i8 k, .int .i64 x]).ownsRow base 34 2 (.slice (some ⟨g, 0, none⟩) n cap) n (avals (l.set q (k, x))) := by
  have hn := owns_lenA h
  have h1 := owns_store (owns_store h (q := q * 2) (by omega) (.int .i8 k)) (q := q * 2 + 1) (by omega) (.int .i64 x)
  have e := avals_set l q k x [] hq
  rw [List.append_nil, List.append_nil] at e
  rw [e] at h1
  exact h1
set_option maxRecDepth 100000 in
set_option maxHeartbeats 1500000 in
theorem behind_idle (base : Nat) (v : Value) (l : List (Int × Int)) (k n : Int) (w : World) (hO : w.ownsRow base 34 2 v l.length (avals l)) (hb : base ≤ w.heap.size) (ho : okAct k n = true) (hl : l.length ≤ 60) (hi : (isCnt k && n == 0) = true) :
    Calls Tryd.prog 15 #[.agg #[.int .i8 k, .int .i64 n], v] w (BehR base l w) := by
  have hIA : (Tryd.prog.info? 34).map (·.size) = some 2 := by kernel_rfl
  obtain ⟨V, hV⟩ : ∃ y, y = w.alloc (.cells #[.int .i8 k, .int .i64 n] 34) := ⟨_, rfl⟩
  have aV : Below w.heap.size w V := by rw [hV]; exact (Below.refl _ _).alloc (Nat.le_refl _) _
  have rA : Row V w.heap.size 34 [.int .i8 k, .int .i64 n] := by rw [hV]; exact Row.new w _ _
  have oV := owns_belowP hO aV
  have bV : Below base w V := aV.mono hb
  have HID := hid (idle_any k n ho V)
  rw [hi] at HID
  clear hO ho hi
  go_enter Tryd.func15, Tryd.ntmps15
  have x0 := rA.cell 0; have x1 := rA.cell 1
  simp only [List.getElem?_cons_zero, List.getElem?_cons_succ] at x0 x1
  rw [hV] at x0 x1
  have HV := hid hV
  clear hV
  go_wp2_with fail
  rw [← HV.out]
  refine HID.out.mono ?_
  rintro e w1 ⟨rfl, hB1⟩
  clear x0 x1
  replace oV := owns_belowP oV hB1
  replace rA := rA.below hB1 rA.lt
  replace bV := bV.trans (hB1.mono (by have := aV.size; omega))
  have hz1 : w.heap.size < w1.heap.size := by have := rA.lt; omega
  clear hB1 aV
  go_wp2_with fail
  go_ret
  exact ⟨v, rfl, oV, bV⟩
set_option maxRecDepth 100000 in
set_option maxHeartbeats 1500000 in
theorem behind_first (base : Nat) (v : Value) (l : List (Int × Int)) (k n : Int) (w : World) (hO : w.ownsRow base 34 2 v l.length (avals l)) (hb : base ≤ w.heap.size) (ho : okAct k n = true) (hl : l.length ≤ 60) (h0 : l = []) (hi : (isCnt k && n == 0) = false) :
    Calls Tryd.prog 15 #[.agg #[.int .i8 k, .int .i64 n], v] w (BehR base (l ++ [(k, n)]) w) := by
  obtain ⟨i0, hi0, iz0, iz1, iz2⟩ := info_parts Tryd.infoActL
  have hIA : (Tryd.prog.info? 34).map (·.size) = some 2 := by kernel_rfl
  obtain ⟨V, hV⟩ : ∃ y, y = w.alloc (.cells #[.int .i8 k, .int .i64 n] 34) := ⟨_, rfl⟩
  have aV : Below w.heap.size w V := by rw [hV]; exact (Below.refl _ _).alloc (Nat.le_refl _) _
  have rA : Row V w.heap.size 34 [.int .i8 k, .int .i64 n] := by rw [hV]; exact Row.new w _ _
  have oV := owns_belowP hO aV
  have bV : Below base w V := aV.mono hb
  have HID := hid (idle_any k n ho V)
  rw [hi] at HID
  subst h0
  obtain ⟨va, vc, rfl⟩ : ∃ a c, v = .slice a 0 c := by
    rcases owns_acts hO with ⟨_, a, c, h⟩ | ⟨h, _⟩
    · exact ⟨a, c, h⟩
    · simp at h
  clear hO ho hi
  go_enter Tryd.func15, Tryd.ntmps15
  have x0 := rA.cell 0; have x1 := rA.cell 1
  simp only [List.getElem?_cons_zero, List.getElem?_cons_succ] at x0 x1
  rw [hV] at x0 x1
  have HV := hid hV
  clear hV
  go_wp2_with fail
  rw [← HV.out]
  refine HID.out.mono ?_
  rintro e w1 ⟨rfl, hB1⟩
  clear x0 x1
  replace oV := owns_belowP oV hB1
  replace rA := rA.below hB1 rA.lt
  replace bV := bV.trans (hB1.mono (by have := aV.size; omega))
  have hz1 : w.heap.size < w1.heap.size := by have := rA.lt; omega
  clear hB1 aV
  have HO4 := hid (oV.alloc (.cells #[.int .i8 k, .int .i64 n] 34))
  have nc := hid (cellsAt (Row.new w1 34 [.int .i8 k, .int .i64 n]))
  have HB7 := hid (show Below base w (w1.alloc (.cells #[.int .i8 k, .int .i64 n] 34)) from bV.alloc (by omega) _)
  have HBW := hid (show base ≤ (w1.alloc (.cells #[.int .i8 k, .int .i64 n] 34)).heap.size by simp; omega)
  have x0 := rA.cell 0; have x1 := rA.cell 1
  simp only [List.getElem?_cons_zero, List.getElem?_cons_succ] at x0 x1
  clear oV bV rA
  go_wp2_with (at_builtin; refine wpList_append_own _ rfl _ _ 24 rfl base 34 i0 (.agg #[.int .i8 0, .int .i64 0]) 2 16 Tryd.underlying24 hi0 iz0 iz1 iz2 rfl (by decide) _ _ _ rfl HO4.out ⟨w1.heap.size, 0, none⟩ 1 1 ([.int .i8 k, .int .i64 n] : List Value) rfl rfl nc.out (act2_one k n) (by unfold maxLen; omega) (by omega) HBW.out ?_; rintro v' w7 hown' hgrow -; have OWN := hid hown'; have GRW := hid hgrow; clear hown' hgrow)
  have bel := HB7.out.grown GRW.out HBW.out (fun kk e => by have := (HO4.out.lt kk e).1; omega)
  have OW := OWN.out
  rw [← avals_snoc] at OW
  go_ret
  exact ⟨v', rfl, by first | exact OW | (rw [List.length_append, List.length_singleton]; exact OW), bel⟩
set_option maxRecDepth 100000 in
set_option maxHeartbeats 1500000 in
theorem behind_join (base : Nat) (v : Value) (l : List (Int × Int)) (k n : Int) (w : World) (hO : w.ownsRow base 34 2 v l.length (avals l)) (hb : base ≤ w.heap.size) (ho : okAct k n = true) (hl : l.length ≤ 60) (h0 : 1 ≤ l.length) (hi : (isCnt k && n == 0) = false) (jk jn : Int) (hj : ∀ W, Calls Tryd.prog 23 #[.agg #[.int .i8 (lastA l).1, .int .i64 (lastA l).2], .agg #[.int .i8 k, .int .i64 n]] W (GivesB W (.tuple #[.agg #[.int .i8 jk, .int .i64 jn], .bool true]))) :
    Calls Tryd.prog 15 #[.agg #[.int .i8 k, .int .i64 n], v] w (BehR base (l.set (l.length - 1) (jk, jn)) w) := by
  obtain ⟨i0, hi0, iz0, iz1, iz2⟩ := info_parts Tryd.infoActL
  have hIA : (Tryd.prog.info? 34).map (·.size) = some 2 := by kernel_rfl
  obtain ⟨V, hV⟩ : ∃ y, y = w.alloc (.cells #[.int .i8 k, .int .i64 n] 34) := ⟨_, rfl⟩
  have aV : Below w.heap.size w V := by rw [hV]; exact (Below.refl _ _).alloc (Nat.le_refl _) _
  have rA : Row V w.heap.size 34 [.int .i8 k, .int .i64 n] := by rw [hV]; exact Row.new w _ _
  have oV := owns_belowP hO aV
  have bV : Below base w V := aV.mono hb
  have HID := hid (idle_any k n ho V)
  rw [hi] at HID
  obtain ⟨Q, hQ⟩ : ∃ Q, l.length = Q + 1 := ⟨l.length - 1, by omega⟩
  obtain ⟨g, cp, rest, rfl, hg, hr⟩ : ∃ g cp rest, v = .slice (some ⟨g, 0, none⟩) l.length cp ∧ base ≤ g ∧ Row w g 34 (avals l ++ rest) := by
    rcases owns_acts hO with ⟨h, _⟩ | ⟨_, h⟩
    · rw [h] at h0; simp at h0
    · exact h
  rw [hQ] at oV ⊢
  have hq60 : Q ≤ 59 := by omega
  have q0 : (0 : Int) ≤ (Q : Int) := by omega
  have q1 : (Q : Int) < (Q : Int) + 1 := by omega
  have qw : IntKind.i64.wrap ((Q : Int) + 1 - 1) = (Q : Int) := by rw [show (Q : Int) + 1 - 1 = (Q : Int) by omega]; exact IntWalk.i64_in _ (by omega)
  have HQ := hid hQ; have HJ := hid hj
  have rLr := hr.below aV hr.lt
  have HG := hid hg
  clear hO ho hi hj hr hQ h0 hg
  go_enter Tryd.func15, Tryd.ntmps15
  have x0 := rA.cell 0; have x1 := rA.cell 1
  simp only [List.getElem?_cons_zero, List.getElem?_cons_succ] at x0 x1
  rw [hV] at x0 x1
  have HV := hid hV
  clear hV
  go_wp2_with fail
  rw [← HV.out]
  refine HID.out.mono ?_
  rintro e w1 ⟨rfl, hB1⟩
  clear x0 x1
  replace oV := owns_belowP oV hB1
  replace rA := rA.below hB1 rA.lt
  replace bV := bV.trans (hB1.mono (by have := aV.size; omega))
  have hz1 : w.heap.size < w1.heap.size := by have := rA.lt; omega
  replace rLr := rLr.below hB1 rLr.lt
  clear hB1 aV
  go_upto_region 5 with fail
  go_cut [6, 7] (fun s6 s7 wx => ∃ (g6 : Nat) (W : World), W = wx ∧ s6 = .pointer (some ⟨g6, 0, none⟩) ∧ s7 = .bool true ∧ Row W g6 34 ([Value.int .i8 jk, Value.int .i64 jn] : List Value) ∧ Below w1.heap.size w1 W)
  case first =>
    refine wp_region_held (S := fun W' : World => Row W' w.heap.size 34 ([.int .i8 k, .int .i64 n] : List Value) ∧ W'.rangeAt g (Q * 2) [.int .i8 (lastA l).1, .int .i64 (lastA l).2]) (by kernel_rfl) ?_
    change wpAnyH _ _ _ _ _ _ _ _ (World.drew _)
    obtain ⟨W0, hW0⟩ : ∃ X, X = World.drew (w1) := ⟨_, rfl⟩
    have hD0 : Below (w1).heap.size (w1) W0 := by rw [hW0]; exact (Below.refl _ _).drew
    replace rA := rA.below hD0 rA.lt
    replace rLr := rLr.below hD0 rLr.lt
    have bR : Below W0.heap.size W0 W0 := Below.refl _ _
    have hD0' := hD0
    rw [← hW0]
    clear hW0 hD0
    have hS0 : (fun W' : World => Row W' w.heap.size 34 ([.int .i8 k, .int .i64 n] : List Value) ∧ W'.rangeAt g (Q * 2) [.int .i8 (lastA l).1, .int .i64 (lastA l).2]) W0 := ⟨rA.below bR rA.lt, last_range (rLr.below bR rLr.lt) HQ.out⟩
    refine wpAnyH_takeD (some 17) (i := 0) (v := ?_) rfl rfl (by kernel_rfl) (by kernel_rfl) (by kernel_rfl) (fun _ _ _ h => h) (.inl ⟨by kernel_rfl, ?_⟩) hS0 ?_
    rotate_left
    · intro w' hw'; clear hw'; go_simp; try with_reducible rfl
    try simp only [Act.put, List.setIfInBounds_toArray, List.set_cons_zero, List.set_cons_succ]
    refine wpAnyH_takeD (some 18) (i := 1) (v := ?_) rfl rfl (by kernel_rfl) (by kernel_rfl) (by kernel_rfl) (fun _ _ _ h => h) (.inl ⟨by kernel_rfl, ?_⟩) hS0 ?_
    rotate_left
    · intro w' hw'; clear hw'; go_simp; try with_reducible rfl
    try simp only [Act.put, List.setIfInBounds_toArray, List.set_cons_zero, List.set_cons_succ]
    refine wpAnyH_takeD (some 19) (i := 2) (v := ?_) rfl rfl (by kernel_rfl) (by kernel_rfl) (by kernel_rfl) (fun _ _ _ h => h) (.inl ⟨by kernel_rfl, ?_⟩) hS0 ?_
    rotate_left
    · intro w' hw'; clear hw'; go_simp; try with_reducible rfl
    try simp only [Act.put, List.setIfInBounds_toArray, List.set_cons_zero, List.set_cons_succ]
    refine wpAnyH_takeD (some 20) (i := 3) (v := .agg ([.int .i8 (lastA l).1, .int .i64 (lastA l).2] : List Value).toArray) rfl rfl (by kernel_rfl) (by kernel_rfl) (by kernel_rfl) (fun _ _ _ h => h) (.inl ⟨by kernel_rfl, ?_⟩) hS0 ?_
    · intro w' hw'; exact exec_load_mid 34 _ rfl g (Q * 2) rfl ([.int .i8 (lastA l).1, .int .i64 (lastA l).2] : List Value) _ (hw'.2) Tryd.underlying34 rfl hIA
    try simp only [Act.put, List.setIfInBounds_toArray, List.set_cons_zero, List.set_cons_succ]
    refine wpAnyH_takeD (some 21) (i := 4) (v := .agg (([.int .i8 k, .int .i64 n] : List Value)).toArray) rfl rfl (by kernel_rfl) (by kernel_rfl) (by kernel_rfl) (fun _ _ _ h => h) (.inl ⟨by kernel_rfl, ?_⟩) hS0 ?_
    · intro w' hw'; exact exec_load_row 34 _ rfl w.heap.size rfl 34 (([.int .i8 k, .int .i64 n] : List Value)).toArray _ (hw'.1) Tryd.underlying34 rfl hIA
    try simp only [Act.put, List.setIfInBounds_toArray, List.set_cons_zero, List.set_cons_succ]
    refine wpAnyH_all (rs := [5, 9]) (by kernel_rfl) (by simp) ?_
    intro i hi; simp only [List.mem_cons, List.not_mem_nil, or_false] at hi
    rcases hi with rfl | rfl
    · refine wpOp_step rfl (fun K hK => ?_)
      go_simp
      with_reducible refine (HJ.out W0).mono ?_
      rintro e v1 ⟨rfl, hB1⟩
      replace bR := bR.trans (hB1.mono bR.size)
      have hS1 : (fun W' : World => Row W' w.heap.size 34 ([.int .i8 k, .int .i64 n] : List Value) ∧ W'.rangeAt g (Q * 2) [.int .i8 (lastA l).1, .int .i64 (lastA l).2]) v1 := ⟨rA.below bR rA.lt, last_range (rLr.below bR rLr.lt) HQ.out⟩
      refine hK _ _ ⟨hS1, ?_⟩
      try simp only [Act.put, List.setIfInBounds_toArray, List.set_cons_zero, List.set_cons_succ]
      clear hB1 hK K hS0
      refine wpAnyH_takeD (some 16) (i := 6) (v := ?_) rfl rfl (by kernel_rfl) (by kernel_rfl) (by kernel_rfl) (fun _ _ _ h => h) (.inl ⟨by kernel_rfl, ?_⟩) hS1 ?_
      rotate_left
      · intro w' hw'; clear hw'; go_simp; try with_reducible rfl
      try simp only [Act.put, List.setIfInBounds_toArray, List.set_cons_zero, List.set_cons_succ]
      refine wpAnyH_takeD (some 23) (i := 7) (v := ?_) rfl rfl (by kernel_rfl) (by kernel_rfl) (by kernel_rfl) (fun _ _ _ h => h) (.inl ⟨by kernel_rfl, ?_⟩) hS1 ?_
      rotate_left
      · intro w' hw'; clear hw'; go_simp; try with_reducible rfl
      try simp only [Act.put, List.setIfInBounds_toArray, List.set_cons_zero, List.set_cons_succ]
      refine wpAnyH_takeD (some 24) (i := 8) (v := ?_) rfl rfl (by kernel_rfl) (by kernel_rfl) (by kernel_rfl) (fun _ _ _ h => h) (.inl ⟨by kernel_rfl, ?_⟩) hS1 ?_
      rotate_left
      · intro w' hw'; clear hw'; go_simp; try with_reducible rfl
      try simp only [Act.put, List.setIfInBounds_toArray, List.set_cons_zero, List.set_cons_succ]
      refine wpAnyH_all (rs := [9]) (by kernel_rfl) (by simp) ?_
      intro i hi; simp only [List.mem_cons, List.not_mem_nil, or_false] at hi
      subst hi
      refine wpOp_step rfl (fun K hK => ?_)
      go_simp
      have rg := Row.new v1 34 [.int .i8 0, .int .i64 0]
      have hA : Below v1.heap.size v1 (v1.alloc (.cells #[.int .i8 0, .int .i64 0] 34)) := (Below.refl _ _).alloc (Nat.le_refl _) _
      have l_rg0 := bR.size
      replace bR := bR.trans (hA.mono bR.size)
      have hS2 : (fun W' : World => Row W' w.heap.size 34 ([.int .i8 k, .int .i64 n] : List Value) ∧ W'.rangeAt g (Q * 2) [.int .i8 (lastA l).1, .int .i64 (lastA l).2]) (v1.alloc (.cells #[.int .i8 0, .int .i64 0] 34)) := ⟨rA.below bR rA.lt, last_range (rLr.below bR rLr.lt) HQ.out⟩
      refine hK _ _ ⟨hS2, ?_⟩
      try simp only [Act.put, List.setIfInBounds_toArray, List.set_cons_zero, List.set_cons_succ]
      obtain ⟨X2, hX2⟩ : ∃ X, X = v1.alloc (.cells #[.int .i8 0, .int .i64 0] 34) := ⟨_, rfl⟩
      obtain ⟨gg, hgg⟩ : ∃ y, y = v1.heap.size := ⟨_, rfl⟩
      rw [← hX2] at  rg bR hS2 ⊢
      have l_rg : W0.heap.size ≤ gg := by rw [hgg]; exact l_rg0
      rw [← hgg] at rg ⊢
      clear hX2 hA hK K hgg l_rg0 hS1
      refine wpAnyH_all (rs := [10]) (by kernel_rfl) (by simp) ?_
      intro i hi; simp only [List.mem_cons, List.not_mem_nil, or_false] at hi
      subst hi
      refine wpOp_step rfl (fun K hK => ?_)
      rw [if_pos (by kernel_rfl)]
      refine wp_store_mid 34 (.tmp 6) (.tmp 23) rfl gg 0 (([Value.int .i8 jk, Value.int .i64 jn] : List Value) : List Value).toArray rfl rfl (rg.thereO 0 _ (by exact Nat.le_refl _)) hIA (all_oneCell_toArray (act2_one jk jn)) ?_
      obtain ⟨X3, hX3⟩ : ∃ X, X = World.setCells X2 gg 0 (([Value.int .i8 jk, Value.int .i64 jn] : List Value) : List Value) := ⟨_, rfl⟩
      replace rg := rg.setAll (ys := (([Value.int .i8 jk, Value.int .i64 jn] : List Value) : List Value)) rfl
      replace bR := below_setCellsD (([Value.int .i8 jk, Value.int .i64 jn] : List Value) : List Value) 0 _ bR (g := gg) l_rg
      rw [← hX3] at rg bR
      have hS3 : (fun W' : World => Row W' w.heap.size 34 ([.int .i8 k, .int .i64 n] : List Value) ∧ W'.rangeAt g (Q * 2) [.int .i8 (lastA l).1, .int .i64 (lastA l).2]) X3 := ⟨rA.below bR rA.lt, last_range (rLr.below bR rLr.lt) HQ.out⟩
      have hXX3 : World.setCells X2 gg 0 (([Value.int .i8 jk, Value.int .i64 jn] : List Value) : List Value).toArray.toList = X3 := hX3.symm
      rw [hXX3]
      refine hK _ _ ⟨hS3, ?_⟩
      try simp only [Act.put, List.setIfInBounds_toArray, List.set_cons_zero, List.set_cons_succ]
      clear hX3 hXX3 hK K hS2
      refine wpAnyH_takeD (some 7) (i := 11) (v := ?_) rfl rfl (by kernel_rfl) (by kernel_rfl) (by kernel_rfl) (fun _ _ _ h => h) (.inl ⟨by kernel_rfl, ?_⟩) hS3 ?_
      rotate_left
      · intro w' hw'; clear hw'; go_simp; try with_reducible rfl
      try simp only [Act.put, List.setIfInBounds_toArray, List.set_cons_zero, List.set_cons_succ]
      refine wpAnyH_done (by kernel_rfl) ?_ _
      go_wp2_with fail
      go_meet
      exact ⟨gg, _, rfl, rfl, rfl, rg, hD0'.trans (bR.mono hD0'.size)⟩
    · refine wpOp_step rfl (fun K hK => ?_)
      go_simp
      have rg := Row.new W0 34 [.int .i8 0, .int .i64 0]
      have hA : Below W0.heap.size W0 (W0.alloc (.cells #[.int .i8 0, .int .i64 0] 34)) := (Below.refl _ _).alloc (Nat.le_refl _) _
      have l_rg0 := bR.size
      replace bR := bR.trans (hA.mono bR.size)
      have hS4 : (fun W' : World => Row W' w.heap.size 34 ([.int .i8 k, .int .i64 n] : List Value) ∧ W'.rangeAt g (Q * 2) [.int .i8 (lastA l).1, .int .i64 (lastA l).2]) (W0.alloc (.cells #[.int .i8 0, .int .i64 0] 34)) := ⟨rA.below bR rA.lt, last_range (rLr.below bR rLr.lt) HQ.out⟩
      refine hK _ _ ⟨hS4, ?_⟩
      try simp only [Act.put, List.setIfInBounds_toArray, List.set_cons_zero, List.set_cons_succ]
      obtain ⟨X4, hX4⟩ : ∃ X, X = W0.alloc (.cells #[.int .i8 0, .int .i64 0] 34) := ⟨_, rfl⟩
      obtain ⟨gg, hgg⟩ : ∃ y, y = W0.heap.size := ⟨_, rfl⟩
      rw [← hX4] at  rg bR hS4 ⊢
      have l_rg : W0.heap.size ≤ gg := by rw [hgg]; exact l_rg0
      rw [← hgg] at rg ⊢
      clear hX4 hA hK K hgg l_rg0 hS0
      refine wpAnyH_all (rs := [5]) (by kernel_rfl) (by simp) ?_
      intro i hi; simp only [List.mem_cons, List.not_mem_nil, or_false] at hi
      subst hi
      refine wpOp_step rfl (fun K hK => ?_)
      go_simp
      with_reducible refine (HJ.out X4).mono ?_
      rintro e v5 ⟨rfl, hB5⟩
      replace rg := rg.below hB5 rg.lt
      replace bR := bR.trans (hB5.mono bR.size)
      have hS5 : (fun W' : World => Row W' w.heap.size 34 ([.int .i8 k, .int .i64 n] : List Value) ∧ W'.rangeAt g (Q * 2) [.int .i8 (lastA l).1, .int .i64 (lastA l).2]) v5 := ⟨rA.below bR rA.lt, last_range (rLr.below bR rLr.lt) HQ.out⟩
      refine hK _ _ ⟨hS5, ?_⟩
      try simp only [Act.put, List.setIfInBounds_toArray, List.set_cons_zero, List.set_cons_succ]
      clear hB5 hK K hS4
      refine wpAnyH_takeD (some 16) (i := 6) (v := ?_) rfl rfl (by kernel_rfl) (by kernel_rfl) (by kernel_rfl) (fun _ _ _ h => h) (.inl ⟨by kernel_rfl, ?_⟩) hS5 ?_
      rotate_left
      · intro w' hw'; clear hw'; go_simp; try with_reducible rfl
      try simp only [Act.put, List.setIfInBounds_toArray, List.set_cons_zero, List.set_cons_succ]
      refine wpAnyH_takeD (some 23) (i := 7) (v := ?_) rfl rfl (by kernel_rfl) (by kernel_rfl) (by kernel_rfl) (fun _ _ _ h => h) (.inl ⟨by kernel_rfl, ?_⟩) hS5 ?_
      rotate_left
      · intro w' hw'; clear hw'; go_simp; try with_reducible rfl
      try simp only [Act.put, List.setIfInBounds_toArray, List.set_cons_zero, List.set_cons_succ]
      refine wpAnyH_takeD (some 24) (i := 8) (v := ?_) rfl rfl (by kernel_rfl) (by kernel_rfl) (by kernel_rfl) (fun _ _ _ h => h) (.inl ⟨by kernel_rfl, ?_⟩) hS5 ?_
      rotate_left
      · intro w' hw'; clear hw'; go_simp; try with_reducible rfl
      try simp only [Act.put, List.setIfInBounds_toArray, List.set_cons_zero, List.set_cons_succ]
      refine wpAnyH_all (rs := [10]) (by kernel_rfl) (by simp) ?_
      intro i hi; simp only [List.mem_cons, List.not_mem_nil, or_false] at hi
      subst hi
      refine wpOp_step rfl (fun K hK => ?_)
      rw [if_pos (by kernel_rfl)]
      refine wp_store_mid 34 (.tmp 6) (.tmp 23) rfl gg 0 (([Value.int .i8 jk, Value.int .i64 jn] : List Value) : List Value).toArray rfl rfl (rg.thereO 0 _ (by exact Nat.le_refl _)) hIA (all_oneCell_toArray (act2_one jk jn)) ?_
      obtain ⟨X6, hX6⟩ : ∃ X, X = World.setCells v5 gg 0 (([Value.int .i8 jk, Value.int .i64 jn] : List Value) : List Value) := ⟨_, rfl⟩
      replace rg := rg.setAll (ys := (([Value.int .i8 jk, Value.int .i64 jn] : List Value) : List Value)) rfl
      replace bR := below_setCellsD (([Value.int .i8 jk, Value.int .i64 jn] : List Value) : List Value) 0 _ bR (g := gg) l_rg
      rw [← hX6] at rg bR
      have hS6 : (fun W' : World => Row W' w.heap.size 34 ([.int .i8 k, .int .i64 n] : List Value) ∧ W'.rangeAt g (Q * 2) [.int .i8 (lastA l).1, .int .i64 (lastA l).2]) X6 := ⟨rA.below bR rA.lt, last_range (rLr.below bR rLr.lt) HQ.out⟩
      have hXX6 : World.setCells v5 gg 0 (([Value.int .i8 jk, Value.int .i64 jn] : List Value) : List Value).toArray.toList = X6 := hX6.symm
      rw [hXX6]
      refine hK _ _ ⟨hS6, ?_⟩
      try simp only [Act.put, List.setIfInBounds_toArray, List.set_cons_zero, List.set_cons_succ]
      clear hX6 hXX6 hK K hS5
      refine wpAnyH_takeD (some 7) (i := 11) (v := ?_) rfl rfl (by kernel_rfl) (by kernel_rfl) (by kernel_rfl) (fun _ _ _ h => h) (.inl ⟨by kernel_rfl, ?_⟩) hS6 ?_
      rotate_left
      · intro w' hw'; clear hw'; go_simp; try with_reducible rfl
      try simp only [Act.put, List.setIfInBounds_toArray, List.set_cons_zero, List.set_cons_succ]
      refine wpAnyH_done (by kernel_rfl) ?_ _
      go_wp2_with fail
      go_meet
      exact ⟨gg, _, rfl, rfl, rfl, rg, hD0'.trans (bR.mono hD0'.size)⟩
  case rest =>
    obtain ⟨g6, W2, rfl, rfl, rfl, r6, hB⟩ := hcut
    replace oV := owns_belowP oV hB
    replace rA := rA.below hB rA.lt
    replace rLr := rLr.below hB rLr.lt
    replace bV := bV.trans (hB.mono (by omega))
    have hz2 := hB.size
    clear hB
    have TT : W2.there g (Q * 2) 2 := rLr.thereO (Q * 2) 2 (by rw [List.length_append, avals_len, HQ.out]; omega)
    have ON := hid (owns_set2 oV (q := Q) (by rw [HQ.out]; omega) jk jn)
    have BN := hid (below_setCellsD (g := g) ([Value.int .i8 jk, Value.int .i64 jn] : List Value) (Q * 2) _ bV HG.out)
    have y0 := r6.cell 0; have y1 := r6.cell 1
    clear oV bV rA rLr
    go_wp2_with (first | ((with_reducible refine wpList_load_row rfl 34 _ rfl g6 ?_ 34 ([Value.int .i8 jk, Value.int .i64 jn] : List Value).toArray (0, 0) _ ?_ Tryd.underlying34 ?_ ?_ ?_); rfl; exact r6; rfl; exact hIA) | ((with_reducible refine wpList_store_mid rfl 34 _ _ rfl g (Q * 2) ([Value.int .i8 jk, Value.int .i64 jn] : List Value).toArray ?_ ?_ ?_ ?_ (all_oneCell_toArray (act2_one jk jn)) ?_); rfl; rfl; exact TT; exact hIA))
    go_ret
    refine ⟨_, rfl, ?_, BN.out⟩
    rw [List.length_set, HQ.out, Nat.add_sub_cancel]
    exact ON.out
set_option maxRecDepth 100000 in
set_option maxHeartbeats 1500000 in
theorem behind_app (base : Nat) (v : Value) (l : List (Int × Int)) (k n : Int) (w : World) (hO : w.ownsRow base 34 2 v l.length (avals l)) (hb : base ≤ w.heap.size) (ho : okAct k n = true) (hl : l.length ≤ 60) (h0 : 1 ≤ l.length) (hi : (isCnt k && n == 0) = false) (jk jn : Int) (hj : ∀ W, Calls Tryd.prog 23 #[.agg #[.int .i8 (lastA l).1, .int .i64 (lastA l).2], .agg #[.int .i8 k, .int .i64 n]] W (GivesB W (.tuple #[.agg #[.int .i8 jk, .int .i64 jn], .bool false]))) :
    Calls Tryd.prog 15 #[.agg #[.int .i8 k, .int .i64 n], v] w (BehR base (l ++ [(k, n)]) w) := by
  obtain ⟨i0, hi0, iz0, iz1, iz2⟩ := info_parts Tryd.infoActL
  have hIA : (Tryd.prog.info? 34).map (·.size) = some 2 := by kernel_rfl
  obtain ⟨V, hV⟩ : ∃ y, y = w.alloc (.cells #[.int .i8 k, .int .i64 n] 34) := ⟨_, rfl⟩
  have aV : Below w.heap.size w V := by rw [hV]; exact (Below.refl _ _).alloc (Nat.le_refl _) _
  have rA : Row V w.heap.size 34 [.int .i8 k, .int .i64 n] := by rw [hV]; exact Row.new w _ _
  have oV := owns_belowP hO aV
  have bV : Below base w V := aV.mono hb
  have HID := hid (idle_any k n ho V)
  rw [hi] at HID
  obtain ⟨Q, hQ⟩ : ∃ Q, l.length = Q + 1 := ⟨l.length - 1, by omega⟩
  obtain ⟨g, cp, rest, rfl, hg, hr⟩ : ∃ g cp rest, v = .slice (some ⟨g, 0, none⟩) l.length cp ∧ base ≤ g ∧ Row w g 34 (avals l ++ rest) := by
    rcases owns_acts hO with ⟨h, _⟩ | ⟨_, h⟩
    · rw [h] at h0; simp at h0
    · exact h
  rw [hQ] at oV ⊢
  have hq60 : Q ≤ 59 := by omega
  have q0 : (0 : Int) ≤ (Q : Int) := by omega
  have q1 : (Q : Int) < (Q : Int) + 1 := by omega
  have qw : IntKind.i64.wrap ((Q : Int) + 1 - 1) = (Q : Int) := by rw [show (Q : Int) + 1 - 1 = (Q : Int) by omega]; exact IntWalk.i64_in _ (by omega)
  have HQ := hid hQ; have HJ := hid hj
  have rLr := hr.below aV hr.lt
  have HG := hid hg
  clear hO ho hi hj hr hQ h0 hg
  go_enter Tryd.func15, Tryd.ntmps15
  have x0 := rA.cell 0; have x1 := rA.cell 1
  simp only [List.getElem?_cons_zero, List.getElem?_cons_succ] at x0 x1
  rw [hV] at x0 x1
  have HV := hid hV
  clear hV
  go_wp2_with fail
  rw [← HV.out]
  refine HID.out.mono ?_
  rintro e w1 ⟨rfl, hB1⟩
  clear x0 x1
  replace oV := owns_belowP oV hB1
  replace rA := rA.below hB1 rA.lt
  replace bV := bV.trans (hB1.mono (by have := aV.size; omega))
  have hz1 : w.heap.size < w1.heap.size := by have := rA.lt; omega
  replace rLr := rLr.below hB1 rLr.lt
  clear hB1 aV
  go_upto_region 5 with fail
  go_cut [6, 7] (fun s6 s7 wx => ∃ (g6 : Nat) (W : World), W = wx ∧ s6 = .pointer (some ⟨g6, 0, none⟩) ∧ s7 = .bool false ∧ Row W g6 34 ([Value.int .i8 jk, Value.int .i64 jn] : List Value) ∧ Below w1.heap.size w1 W)
  case first =>
    refine wp_region_held (S := fun W' : World => Row W' w.heap.size 34 ([.int .i8 k, .int .i64 n] : List Value) ∧ W'.rangeAt g (Q * 2) [.int .i8 (lastA l).1, .int .i64 (lastA l).2]) (by kernel_rfl) ?_
    change wpAnyH _ _ _ _ _ _ _ _ (World.drew _)
    obtain ⟨W0, hW0⟩ : ∃ X, X = World.drew (w1) := ⟨_, rfl⟩
    have hD0 : Below (w1).heap.size (w1) W0 := by rw [hW0]; exact (Below.refl _ _).drew
    replace rA := rA.below hD0 rA.lt
    replace rLr := rLr.below hD0 rLr.lt
    have bR : Below W0.heap.size W0 W0 := Below.refl _ _
    have hD0' := hD0
    rw [← hW0]
    clear hW0 hD0
    have hS0 : (fun W' : World => Row W' w.heap.size 34 ([.int .i8 k, .int .i64 n] : List Value) ∧ W'.rangeAt g (Q * 2) [.int .i8 (lastA l).1, .int .i64 (lastA l).2]) W0 := ⟨rA.below bR rA.lt, last_range (rLr.below bR rLr.lt) HQ.out⟩
    refine wpAnyH_takeD (some 17) (i := 0) (v := ?_) rfl rfl (by kernel_rfl) (by kernel_rfl) (by kernel_rfl) (fun _ _ _ h => h) (.inl ⟨by kernel_rfl, ?_⟩) hS0 ?_
    rotate_left
    · intro w' hw'; clear hw'; go_simp; try with_reducible rfl
    try simp only [Act.put, List.setIfInBounds_toArray, List.set_cons_zero, List.set_cons_succ]
    refine wpAnyH_takeD (some 18) (i := 1) (v := ?_) rfl rfl (by kernel_rfl) (by kernel_rfl) (by kernel_rfl) (fun _ _ _ h => h) (.inl ⟨by kernel_rfl, ?_⟩) hS0 ?_
    rotate_left
    · intro w' hw'; clear hw'; go_simp; try with_reducible rfl
    try simp only [Act.put, List.setIfInBounds_toArray, List.set_cons_zero, List.set_cons_succ]
    refine wpAnyH_takeD (some 19) (i := 2) (v := ?_) rfl rfl (by kernel_rfl) (by kernel_rfl) (by kernel_rfl) (fun _ _ _ h => h) (.inl ⟨by kernel_rfl, ?_⟩) hS0 ?_
    rotate_left
    · intro w' hw'; clear hw'; go_simp; try with_reducible rfl
    try simp only [Act.put, List.setIfInBounds_toArray, List.set_cons_zero, List.set_cons_succ]
    refine wpAnyH_takeD (some 20) (i := 3) (v := .agg ([.int .i8 (lastA l).1, .int .i64 (lastA l).2] : List Value).toArray) rfl rfl (by kernel_rfl) (by kernel_rfl) (by kernel_rfl) (fun _ _ _ h => h) (.inl ⟨by kernel_rfl, ?_⟩) hS0 ?_
    · intro w' hw'; exact exec_load_mid 34 _ rfl g (Q * 2) rfl ([.int .i8 (lastA l).1, .int .i64 (lastA l).2] : List Value) _ (hw'.2) Tryd.underlying34 rfl hIA
    try simp only [Act.put, List.setIfInBounds_toArray, List.set_cons_zero, List.set_cons_succ]
    refine wpAnyH_takeD (some 21) (i := 4) (v := .agg (([.int .i8 k, .int .i64 n] : List Value)).toArray) rfl rfl (by kernel_rfl) (by kernel_rfl) (by kernel_rfl) (fun _ _ _ h => h) (.inl ⟨by kernel_rfl, ?_⟩) hS0 ?_
    · intro w' hw'; exact exec_load_row 34 _ rfl w.heap.size rfl 34 (([.int .i8 k, .int .i64 n] : List Value)).toArray _ (hw'.1) Tryd.underlying34 rfl hIA
    try simp only [Act.put, List.setIfInBounds_toArray, List.set_cons_zero, List.set_cons_succ]
    refine wpAnyH_all (rs := [5, 9]) (by kernel_rfl) (by simp) ?_
    intro i hi; simp only [List.mem_cons, List.not_mem_nil, or_false] at hi
    rcases hi with rfl | rfl
    · refine wpOp_step rfl (fun K hK => ?_)
      go_simp
      with_reducible refine (HJ.out W0).mono ?_
      rintro e v1 ⟨rfl, hB1⟩
      replace bR := bR.trans (hB1.mono bR.size)
      have hS1 : (fun W' : World => Row W' w.heap.size 34 ([.int .i8 k, .int .i64 n] : List Value) ∧ W'.rangeAt g (Q * 2) [.int .i8 (lastA l).1, .int .i64 (lastA l).2]) v1 := ⟨rA.below bR rA.lt, last_range (rLr.below bR rLr.lt) HQ.out⟩
      refine hK _ _ ⟨hS1, ?_⟩
      try simp only [Act.put, List.setIfInBounds_toArray, List.set_cons_zero, List.set_cons_succ]
      clear hB1 hK K hS0
      refine wpAnyH_takeD (some 16) (i := 6) (v := ?_) rfl rfl (by kernel_rfl) (by kernel_rfl) (by kernel_rfl) (fun _ _ _ h => h) (.inl ⟨by kernel_rfl, ?_⟩) hS1 ?_
      rotate_left
      · intro w' hw'; clear hw'; go_simp; try with_reducible rfl
      try simp only [Act.put, List.setIfInBounds_toArray, List.set_cons_zero, List.set_cons_succ]
      refine wpAnyH_takeD (some 23) (i := 7) (v := ?_) rfl rfl (by kernel_rfl) (by kernel_rfl) (by kernel_rfl) (fun _ _ _ h => h) (.inl ⟨by kernel_rfl, ?_⟩) hS1 ?_
      rotate_left
      · intro w' hw'; clear hw'; go_simp; try with_reducible rfl
      try simp only [Act.put, List.setIfInBounds_toArray, List.set_cons_zero, List.set_cons_succ]
      refine wpAnyH_takeD (some 24) (i := 8) (v := ?_) rfl rfl (by kernel_rfl) (by kernel_rfl) (by kernel_rfl) (fun _ _ _ h => h) (.inl ⟨by kernel_rfl, ?_⟩) hS1 ?_
      rotate_left
      · intro w' hw'; clear hw'; go_simp; try with_reducible rfl
      try simp only [Act.put, List.setIfInBounds_toArray, List.set_cons_zero, List.set_cons_succ]
      refine wpAnyH_all (rs := [9]) (by kernel_rfl) (by simp) ?_
      intro i hi; simp only [List.mem_cons, List.not_mem_nil, or_false] at hi
      subst hi
      refine wpOp_step rfl (fun K hK => ?_)
      go_simp
      have rg := Row.new v1 34 [.int .i8 0, .int .i64 0]
      have hA : Below v1.heap.size v1 (v1.alloc (.cells #[.int .i8 0, .int .i64 0] 34)) := (Below.refl _ _).alloc (Nat.le_refl _) _
      have l_rg0 := bR.size
      replace bR := bR.trans (hA.mono bR.size)
      have hS2 : (fun W' : World => Row W' w.heap.size 34 ([.int .i8 k, .int .i64 n] : List Value) ∧ W'.rangeAt g (Q * 2) [.int .i8 (lastA l).1, .int .i64 (lastA l).2]) (v1.alloc (.cells #[.int .i8 0, .int .i64 0] 34)) := ⟨rA.below bR rA.lt, last_range (rLr.below bR rLr.lt) HQ.out⟩
      refine hK _ _ ⟨hS2, ?_⟩
      try simp only [Act.put, List.setIfInBounds_toArray, List.set_cons_zero, List.set_cons_succ]
      obtain ⟨X2, hX2⟩ : ∃ X, X = v1.alloc (.cells #[.int .i8 0, .int .i64 0] 34) := ⟨_, rfl⟩
      obtain ⟨gg, hgg⟩ : ∃ y, y = v1.heap.size := ⟨_, rfl⟩
      rw [← hX2] at  rg bR hS2 ⊢
      have l_rg : W0.heap.size ≤ gg := by rw [hgg]; exact l_rg0
      rw [← hgg] at rg ⊢
      clear hX2 hA hK K hgg l_rg0 hS1
      refine wpAnyH_all (rs := [10]) (by kernel_rfl) (by simp) ?_
      intro i hi; simp only [List.mem_cons, List.not_mem_nil, or_false] at hi
      subst hi
      refine wpOp_step rfl (fun K hK => ?_)
      rw [if_pos (by kernel_rfl)]
      refine wp_store_mid 34 (.tmp 6) (.tmp 23) rfl gg 0 (([Value.int .i8 jk, Value.int .i64 jn] : List Value) : List Value).toArray rfl rfl (rg.thereO 0 _ (by exact Nat.le_refl _)) hIA (all_oneCell_toArray (act2_one jk jn)) ?_
      obtain ⟨X3, hX3⟩ : ∃ X, X = World.setCells X2 gg 0 (([Value.int .i8 jk, Value.int .i64 jn] : List Value) : List Value) := ⟨_, rfl⟩
      replace rg := rg.setAll (ys := (([Value.int .i8 jk, Value.int .i64 jn] : List Value) : List Value)) rfl
      replace bR := below_setCellsD (([Value.int .i8 jk, Value.int .i64 jn] : List Value) : List Value) 0 _ bR (g := gg) l_rg
      rw [← hX3] at rg bR
      have hS3 : (fun W' : World => Row W' w.heap.size 34 ([.int .i8 k, .int .i64 n] : List Value) ∧ W'.rangeAt g (Q * 2) [.int .i8 (lastA l).1, .int .i64 (lastA l).2]) X3 := ⟨rA.below bR rA.lt, last_range (rLr.below bR rLr.lt) HQ.out⟩
      have hXX3 : World.setCells X2 gg 0 (([Value.int .i8 jk, Value.int .i64 jn] : List Value) : List Value).toArray.toList = X3 := hX3.symm
      rw [hXX3]
      refine hK _ _ ⟨hS3, ?_⟩
      try simp only [Act.put, List.setIfInBounds_toArray, List.set_cons_zero, List.set_cons_succ]
      clear hX3 hXX3 hK K hS2
      refine wpAnyH_takeD (some 7) (i := 11) (v := ?_) rfl rfl (by kernel_rfl) (by kernel_rfl) (by kernel_rfl) (fun _ _ _ h => h) (.inl ⟨by kernel_rfl, ?_⟩) hS3 ?_
      rotate_left
      · intro w' hw'; clear hw'; go_simp; try with_reducible rfl
      try simp only [Act.put, List.setIfInBounds_toArray, List.set_cons_zero, List.set_cons_succ]
      refine wpAnyH_done (by kernel_rfl) ?_ _
      go_wp2_with fail
      go_meet
      exact ⟨gg, _, rfl, rfl, rfl, rg, hD0'.trans (bR.mono hD0'.size)⟩
    · refine wpOp_step rfl (fun K hK => ?_)
      go_simp
      have rg := Row.new W0 34 [.int .i8 0, .int .i64 0]
      have hA : Below W0.heap.size W0 (W0.alloc (.cells #[.int .i8 0, .int .i64 0] 34)) := (Below.refl _ _).alloc (Nat.le_refl _) _
      have l_rg0 := bR.size
      replace bR := bR.trans (hA.mono bR.size)
      have hS4 : (fun W' : World => Row W' w.heap.size 34 ([.int .i8 k, .int .i64 n] : List Value) ∧ W'.rangeAt g (Q * 2) [.int .i8 (lastA l).1, .int .i64 (lastA l).2]) (W0.alloc (.cells #[.int .i8 0, .int .i64 0] 34)) := ⟨rA.below bR rA.lt, last_range (rLr.below bR rLr.lt) HQ.out⟩
      refine hK _ _ ⟨hS4, ?_⟩
      try simp only [Act.put, List.setIfInBounds_toArray, List.set_cons_zero, List.set_cons_succ]
      obtain ⟨X4, hX4⟩ : ∃ X, X = W0.alloc (.cells #[.int .i8 0, .int .i64 0] 34) := ⟨_, rfl⟩
      obtain ⟨gg, hgg⟩ : ∃ y, y = W0.heap.size := ⟨_, rfl⟩
      rw [← hX4] at  rg bR hS4 ⊢
      have l_rg : W0.heap.size ≤ gg := by rw [hgg]; exact l_rg0
      rw [← hgg] at rg ⊢
      clear hX4 hA hK K hgg l_rg0 hS0
      refine wpAnyH_all (rs := [5]) (by kernel_rfl) (by simp) ?_
      intro i hi; simp only [List.mem_cons, List.not_mem_nil, or_false] at hi
      subst hi
      refine wpOp_step rfl (fun K hK => ?_)
      go_simp
      with_reducible refine (HJ.out X4).mono ?_
      rintro e v5 ⟨rfl, hB5⟩
      replace rg := rg.below hB5 rg.lt
      replace bR := bR.trans (hB5.mono bR.size)
      have hS5 : (fun W' : World => Row W' w.heap.size 34 ([.int .i8 k, .int .i64 n] : List Value) ∧ W'.rangeAt g (Q * 2) [.int .i8 (lastA l).1, .int .i64 (lastA l).2]) v5 := ⟨rA.below bR rA.lt, last_range (rLr.below bR rLr.lt) HQ.out⟩
      refine hK _ _ ⟨hS5, ?_⟩
      try simp only [Act.put, List.setIfInBounds_toArray, List.set_cons_zero, List.set_cons_succ]
      clear hB5 hK K hS4
      refine wpAnyH_takeD (some 16) (i := 6) (v := ?_) rfl rfl (by kernel_rfl) (by kernel_rfl) (by kernel_rfl) (fun _ _ _ h => h) (.inl ⟨by kernel_rfl, ?_⟩) hS5 ?_
      rotate_left
      · intro w' hw'; clear hw'; go_simp; try with_reducible rfl
      try simp only [Act.put, List.setIfInBounds_toArray, List.set_cons_zero, List.set_cons_succ]
      refine wpAnyH_takeD (some 23) (i := 7) (v := ?_) rfl rfl (by kernel_rfl) (by kernel_rfl) (by kernel_rfl) (fun _ _ _ h => h) (.inl ⟨by kernel_rfl, ?_⟩) hS5 ?_
      rotate_left
      · intro w' hw'; clear hw'; go_simp; try with_reducible rfl
      try simp only [Act.put, List.setIfInBounds_toArray, List.set_cons_zero, List.set_cons_succ]
      refine wpAnyH_takeD (some 24) (i := 8) (v := ?_) rfl rfl (by kernel_rfl) (by kernel_rfl) (by kernel_rfl) (fun _ _ _ h => h) (.inl ⟨by kernel_rfl, ?_⟩) hS5 ?_
      rotate_left
      · intro w' hw'; clear hw'; go_simp; try with_reducible rfl
      try simp only [Act.put, List.setIfInBounds_toArray, List.set_cons_zero, List.set_cons_succ]
      refine wpAnyH_all (rs := [10]) (by kernel_rfl) (by simp) ?_
      intro i hi; simp only [List.mem_cons, List.not_mem_nil, or_false] at hi
      subst hi
      refine wpOp_step rfl (fun K hK => ?_)
      rw [if_pos (by kernel_rfl)]
      refine wp_store_mid 34 (.tmp 6) (.tmp 23) rfl gg 0 (([Value.int .i8 jk, Value.int .i64 jn] : List Value) : List Value).toArray rfl rfl (rg.thereO 0 _ (by exact Nat.le_refl _)) hIA (all_oneCell_toArray (act2_one jk jn)) ?_
      obtain ⟨X6, hX6⟩ : ∃ X, X = World.setCells v5 gg 0 (([Value.int .i8 jk, Value.int .i64 jn] : List Value) : List Value) := ⟨_, rfl⟩
      replace rg := rg.setAll (ys := (([Value.int .i8 jk, Value.int .i64 jn] : List Value) : List Value)) rfl
      replace bR := below_setCellsD (([Value.int .i8 jk, Value.int .i64 jn] : List Value) : List Value) 0 _ bR (g := gg) l_rg
      rw [← hX6] at rg bR
      have hS6 : (fun W' : World => Row W' w.heap.size 34 ([.int .i8 k, .int .i64 n] : List Value) ∧ W'.rangeAt g (Q * 2) [.int .i8 (lastA l).1, .int .i64 (lastA l).2]) X6 := ⟨rA.below bR rA.lt, last_range (rLr.below bR rLr.lt) HQ.out⟩
      have hXX6 : World.setCells v5 gg 0 (([Value.int .i8 jk, Value.int .i64 jn] : List Value) : List Value).toArray.toList = X6 := hX6.symm
      rw [hXX6]
      refine hK _ _ ⟨hS6, ?_⟩
      try simp only [Act.put, List.setIfInBounds_toArray, List.set_cons_zero, List.set_cons_succ]
      clear hX6 hXX6 hK K hS5
      refine wpAnyH_takeD (some 7) (i := 11) (v := ?_) rfl rfl (by kernel_rfl) (by kernel_rfl) (by kernel_rfl) (fun _ _ _ h => h) (.inl ⟨by kernel_rfl, ?_⟩) hS6 ?_
      rotate_left
      · intro w' hw'; clear hw'; go_simp; try with_reducible rfl
      try simp only [Act.put, List.setIfInBounds_toArray, List.set_cons_zero, List.set_cons_succ]
      refine wpAnyH_done (by kernel_rfl) ?_ _
      go_wp2_with fail
      go_meet
      exact ⟨gg, _, rfl, rfl, rfl, rg, hD0'.trans (bR.mono hD0'.size)⟩
  case rest =>
    obtain ⟨g6, W2, rfl, rfl, rfl, r6, hB⟩ := hcut
    replace oV := owns_belowP oV hB
    replace rA := rA.below hB rA.lt
    replace rLr := rLr.below hB rLr.lt
    replace bV := bV.trans (hB.mono (by omega))
    have hz2 := hB.size
    clear hB
    have HO4 := hid (oV.alloc (.cells #[.int .i8 k, .int .i64 n] 34))
    have nc := hid (cellsAt (Row.new W2 34 [.int .i8 k, .int .i64 n]))
    have HB7 := hid (show Below base w (W2.alloc (.cells #[.int .i8 k, .int .i64 n] 34)) from bV.alloc (by omega) _)
    have HBW := hid (show base ≤ (W2.alloc (.cells #[.int .i8 k, .int .i64 n] 34)).heap.size by simp; omega)
    have x0 := rA.cell 0; have x1 := rA.cell 1
    simp only [List.getElem?_cons_zero, List.getElem?_cons_succ] at x0 x1
    clear oV bV rA
    go_wp2_with (at_builtin; refine wpList_append_own _ rfl _ _ 24 rfl base 34 i0 (.agg #[.int .i8 0, .int .i64 0]) 2 16 Tryd.underlying24 hi0 iz0 iz1 iz2 rfl (by decide) _ _ _ rfl HO4.out ⟨W2.heap.size, 0, none⟩ 1 1 ([.int .i8 k, .int .i64 n] : List Value) rfl rfl nc.out (act2_one k n) (by unfold maxLen; omega) (by omega) HBW.out ?_; rintro v' w7 hown' hgrow -; have OWN := hid hown'; have GRW := hid hgrow; clear hown' hgrow)
    have bel := HB7.out.grown GRW.out HBW.out (fun kk e => by have := (HO4.out.lt kk e).1; omega)
    have OW := OWN.out
    rw [← avals_snoc] at OW
    go_ret
    exact ⟨v', rfl, by rw [List.length_append, List.length_singleton, HQ.out]; exact OW, bel⟩
end Go.Proofs.YtbbdaamhajecfaaDoor
