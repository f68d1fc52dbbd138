/- BumpParts: the program's and the model's. -/
import Derived.Test.YtkgldcjbaghapaaHaz
import Derived.Test.YtkgldcjbaghapaaFloor
import Derived.Test.YtkgldcjbaghapaaHeld
import Derived.Deep.MidRow
import Derived.Deep.DeepCutAuto
namespace Go.Proofs.Ytkgldcjbaghapaa
open Go.RowKit
theorem wpList_load_rowG {P : Program} {ops : Array Oper} {rest : List Oper} {o : Oper} {a : Act} {w : World} {Q : Exit → Act → World → Prop} (hgd : Region.wanted o (yielded ops a.tmps) = true) (ty : TypeId) (x : Operand) (ho : o.op = .load ty x)
    (g : Nat) (hx : a.eval x = .pointer (some ⟨g, 0, none⟩)) (t : TypeId) (cs : Array Value) (fr : Nat × Nat) (d : TypeDesc) (hg : w.heap[g]? = some (.cells cs t fr))
    (hu : P.underlying ty = some d) (hd : (match d with | .struct _ | .array _ _ => true | _ => false) = true) (hi : (P.info? ty).map (·.size) = some cs.size)
    (h : wpList P ops Q rest (a.put o.dst (.agg cs)) w) : wpList P ops Q (o :: rest) a w :=
  BigFrame.wpList_want hgd fun _ hK => wp_load_row ty x ho g hx t cs fr d hg hu hd hi (hK _ _ h)

theorem results_cell_tmp2 {P : Program} {fn : Func} {p q : Tmp} {ty : TypeId} (h : fn.results = #[.cell p ty, .tmp q]) (tmps : Array Value) (w : World) (g : Nat) (t : TypeId) (cs : Array Value) (fr : Nat × Nat) (d : TypeDesc) (v : Value)
    (hp : tmps.getD p undef = .pointer (some ⟨g, 0, none⟩)) (hq : tmps.getD q undef = v) (hg : w.heap[g]? = some (.cells cs t fr))
    (hu : P.underlying ty = some d) (hd : (match d with | .struct _ | .array _ _ => true | _ => false) = true) (hi : (P.info? ty).map (·.size) = some cs.size) :
    (results fn tmps).run P w = .ok (.tuple #[.agg cs, v]) w := by
  have hp' : tmps[p]?.getD undef = .pointer (some ⟨g, 0, none⟩) := by simpa using hp
  have hq' : tmps[q]?.getD undef = v := by simpa using hq
  simp [results, h, hp', hq', asAddr, run_loadVar_row w g t ty cs fr d hg hu hd hi]
theorem Row.there {w : World} {g : Nat} {e : TypeId} {xs : List Value} (h : Row w g e xs) (n : Nat) (hn : n = xs.length) : w.there g 0 n := fun j hj => by
  rw [Nat.zero_add, h.cell]
  exact ⟨by rw [List.getElem?_eq_getElem (by omega)]; rfl, h.frozen j⟩
theorem Row.setCells_from {w : World} {g : Nat} {e : TypeId} : ∀ (ys xs : List Value) (o : Nat), Row w g e xs → o + ys.length = xs.length → Row (w.setCells g o ys) g e (xs.take o ++ ys)
  | [], xs, o, h, hl => by
    simp at hl
    rw [World.setCells, List.append_nil, List.take_of_length_le (by omega)]; exact h
  | y :: r, xs, o, h, hl => by
    simp at hl
    rw [World.setCells]
    have := Row.setCells_from (w := w.setCell ⟨g, o, none⟩ y) r (xs.set o y) (o + 1) (h.set o y) (by simp; omega)
    rwa [List.take_set, List.take_succ_eq_append_getElem (by omega), List.set_append_right _ _ (by simp; omega), show o - (xs.take o).length = 0 from by simp; omega, List.append_assoc, List.set_cons_zero, List.cons_append, List.nil_append] at this
theorem Row.setCells {w : World} {g : Nat} {e : TypeId} {xs ys : List Value} (h : Row w g e xs) (hl : ys.length = xs.length) : Row (w.setCells g 0 ys) g e ys := by
  have := Row.setCells_from ys xs 0 h (by omega)
  simpa using this
theorem below_setCells {n : Nat} {a : World} {g : Nat} : ∀ (ys : List Value) (o : Nat) (w : World), Below n a w → n ≤ g → Below n a (w.setCells g o ys)
  | [], _, _, h, _ => h
  | _ :: r, o, _, h, hg => by rw [World.setCells]; exact below_setCells r (o + 1) _ (h.setCell hg _) hg
theorem Try.infoParts : (Try.prog.info? 37).map (·.size) = some 8 := by kernel_rfl
def okX (zs : List Int) (x y : Int) : Bool := decide (0 ≤ x ∧ x < zs.length) && decide (-1000 ≤ y ∧ y ≤ 1000)
/-- the parts behind a bump, and the code -/
def bumpV (zs : List Int) (js : List (Int × Int)) (ds : List Int) (x y : Int) : List Value × Int :=
  if hasR zs js ds then (if okX zs x y then ((ds.map (Value.int .i64)).set x.toNat (.int .i64 ((ds[x.toNat]?.getD 0 + y) % (zs[x.toNat]?.getD 0 * 1000))), 0) else ([.int .i64 0, .int .i64 0, .int .i64 0, .int .i64 0, .int .i64 0, .int .i64 0, .int .i64 0, .int .i64 0], 2)) else ([.int .i64 0, .int .i64 0, .int .i64 0, .int .i64 0, .int .i64 0, .int .i64 0, .int .i64 0, .int .i64 0], 1)
theorem bumpV_no {zs : List Int} {js : List (Int × Int)} {ds : List Int} {x y : Int} (h : hasR zs js ds = false) : bumpV zs js ds x y = ([.int .i64 0, .int .i64 0, .int .i64 0, .int .i64 0, .int .i64 0, .int .i64 0, .int .i64 0, .int .i64 0], 1) := by simp [bumpV, h]
theorem bumpV_out {zs : List Int} {js : List (Int × Int)} {ds : List Int} {x y : Int} (h : hasR zs js ds = true) (k : okX zs x y = false) : bumpV zs js ds x y = ([.int .i64 0, .int .i64 0, .int .i64 0, .int .i64 0, .int .i64 0, .int .i64 0, .int .i64 0, .int .i64 0], 2) := by simp [bumpV, h, k]
theorem bumpV_yes {zs : List Int} {js : List (Int × Int)} {ds : List Int} {y : Int} {k : Nat} (h : hasR zs js ds = true) (e : okX zs k y = true) : bumpV zs js ds (k : Int) y = ((ds.map (Value.int .i64)).set k (.int .i64 ((ds[k]?.getD 0 + y) % (zs[k]?.getD 0 * 1000))), 0) := by simp [bumpV, h, e]
theorem oct_of (l : List Value) (hl : l.length = 8) (h : ∀ v ∈ l, ∃ e : Int, v = .int .i64 e) : ∃ e0 e1 e2 e3 e4 e5 e6 e7 : Int, l = [.int .i64 e0, .int .i64 e1, .int .i64 e2, .int .i64 e3, .int .i64 e4, .int .i64 e5, .int .i64 e6, .int .i64 e7] := by
  match l, hl with
  | [a0, a1, a2, a3, a4, a5, a6, a7], _ =>
    obtain ⟨e0, rfl⟩ := h a0 (by simp)
    obtain ⟨e1, rfl⟩ := h a1 (by simp)
    obtain ⟨e2, rfl⟩ := h a2 (by simp)
    obtain ⟨e3, rfl⟩ := h a3 (by simp)
    obtain ⟨e4, rfl⟩ := h a4 (by simp)
    obtain ⟨e5, rfl⟩ := h a5 (by simp)
    obtain ⟨e6, rfl⟩ := h a6 (by simp)
    obtain ⟨e7, rfl⟩ := h a7 (by simp)
    exact ⟨e0, e1, e2, e3, e4, e5, e6, e7, rfl⟩
theorem zeros_int : ∀ v ∈ ([.int .i64 0, .int .i64 0, .int .i64 0, .int .i64 0, .int .i64 0, .int .i64 0, .int .i64 0, .int .i64 0] : List Value), ∃ e : Int, v = .int .i64 e := by
  intro v hv
  simp only [List.mem_cons, List.not_mem_nil, or_false] at hv
  rcases hv with rfl | rfl | rfl | rfl | rfl | rfl | rfl | rfl <;> exact ⟨0, rfl⟩
theorem bumpV_oct (zs : List Int) (js : List (Int × Int)) (d0 d1 d2 d3 d4 d5 d6 d7 x y : Int) : ∃ e0 e1 e2 e3 e4 e5 e6 e7 : Int, (bumpV zs js [d0, d1, d2, d3, d4, d5, d6, d7] x y).1 = [.int .i64 e0, .int .i64 e1, .int .i64 e2, .int .i64 e3, .int .i64 e4, .int .i64 e5, .int .i64 e6, .int .i64 e7] := by
  unfold bumpV
  split
  · split
    · refine oct_of _ (by simp) (fun v hv => ?_)
      rcases List.mem_or_eq_of_mem_set hv with h | h
      · simp only [List.mem_map] at h
        obtain ⟨e, _, rfl⟩ := h
        exact ⟨e, rfl⟩
      · exact ⟨_, h⟩
    · exact oct_of _ rfl zeros_int
  · exact oct_of _ rfl zeros_int
theorem one_of {l : List Value} (h : ∀ v ∈ l, ∃ e : Int, v = .int .i64 e) : ∀ v ∈ l, v.oneCell' = true := fun v hv => by
  obtain ⟨e, rfl⟩ := h v hv; rfl
theorem ints_dp (d0 d1 d2 d3 d4 d5 d6 d7 : Int) : ∀ v ∈ ([.int .i64 d0, .int .i64 d1, .int .i64 d2, .int .i64 d3, .int .i64 d4, .int .i64 d5, .int .i64 d6, .int .i64 d7] : List Value), ∃ e : Int, v = .int .i64 e := by
  intro v hv
  simp only [List.mem_cons, List.not_mem_nil, or_false] at hv
  rcases hv with rfl | rfl | rfl | rfl | rfl | rfl | rfl | rfl <;> exact ⟨_, rfl⟩
theorem ints_set (d0 d1 d2 d3 d4 d5 d6 d7 r : Int) (k : Nat) : ∀ v ∈ (([.int .i64 d0, .int .i64 d1, .int .i64 d2, .int .i64 d3, .int .i64 d4, .int .i64 d5, .int .i64 d6, .int .i64 d7] : List Value).set k (.int .i64 r)), ∃ e : Int, v = .int .i64 e := by
  intro v hv
  rcases List.mem_or_eq_of_mem_set hv with h | h
  · exact ints_dp d0 d1 d2 d3 d4 d5 d6 d7 v h
  · exact ⟨_, h⟩
theorem dp_at (d0 d1 d2 d3 d4 d5 d6 d7 : Int) (k : Nat) (hk : k < 8) : ([.int .i64 d0, .int .i64 d1, .int .i64 d2, .int .i64 d3, .int .i64 d4, .int .i64 d5, .int .i64 d6, .int .i64 d7] : List Value)[k]? = some (.int .i64 ([d0, d1, d2, d3, d4, d5, d6, d7][k]?.getD 0)) := parts_cell d0 d1 d2 d3 d4 d5 d6 d7 k hk
theorem hasR_out {zs : List Int} {js : List (Int × Int)} {ps : List Int} (h : hasR zs js ps = true) : okM zs js = true ∧ okPs zs ps = true := by simpa [hasR] using h
theorem okL_in {zs : List Int} (h : okL zs = true) : zs.length ≤ 8 ∧ ∀ k, k < zs.length → 2 ≤ zs[k]?.getD 0 ∧ zs[k]?.getD 0 ≤ 100 := by
  simp only [okL, decide_eq_true_eq] at h
  refine ⟨h.2.1, fun k hk => ?_⟩
  have := h.2.2.1 zs[k] (List.getElem_mem hk)
  simpa [hk] using this
set_option maxRecDepth 100000 in
set_option maxHeartbeats 2000000 in
theorem implBumpParts_any (b n cap g m cap' : Nat) (zs : List Int) (js : List (Int × Int)) (d0 d1 d2 d3 d4 d5 d6 d7 x y : Int) (w : World) (hS : Stk w b zs) (hJ : Jst w g js) (hn : n = zs.length) (hm : m = js.length) :
    Calls Try.prog 19 #[.agg #[.slice (some ⟨b, 0, none⟩) n cap, .slice (some ⟨g, 0, none⟩) m cap'], .agg #[.int .i64 d0, .int .i64 d1, .int .i64 d2, .int .i64 d3, .int .i64 d4, .int .i64 d5, .int .i64 d6, .int .i64 d7], .int .i64 x, .int .i64 y] w fun e w' => e = .returned (.tuple #[.agg (bumpV zs js [d0, d1, d2, d3, d4, d5, d6, d7] x y).1.toArray, .int .i64 (bumpV zs js [d0, d1, d2, d3, d4, d5, d6, d7] x y).2]) ∧ Below w.heap.size w w' := by
  have bel1 : Below (w.alloc (.cells #[.slice (some ⟨b, 0, none⟩) n cap, .slice (some ⟨g, 0, none⟩) m cap'] 35)).heap.size (w.alloc (.cells #[.slice (some ⟨b, 0, none⟩) n cap, .slice (some ⟨g, 0, none⟩) m cap'] 35)) (((w.alloc (.cells #[.slice (some ⟨b, 0, none⟩) n cap, .slice (some ⟨g, 0, none⟩) m cap'] 35)).alloc (.cells #[.int .i64 d0, .int .i64 d1, .int .i64 d2, .int .i64 d3, .int .i64 d4, .int .i64 d5, .int .i64 d6, .int .i64 d7] 37)).alloc (.cells #[.int .i64 0, .int .i64 0, .int .i64 0, .int .i64 0, .int .i64 0, .int .i64 0, .int .i64 0, .int .i64 0] 37)) := ((Below.refl _ _).alloc (Nat.le_refl _) _).alloc (by simp) _
  have hB : Below w.heap.size w (((w.alloc (.cells #[.slice (some ⟨b, 0, none⟩) n cap, .slice (some ⟨g, 0, none⟩) m cap'] 35)).alloc (.cells #[.int .i64 d0, .int .i64 d1, .int .i64 d2, .int .i64 d3, .int .i64 d4, .int .i64 d5, .int .i64 d6, .int .i64 d7] 37)).alloc (.cells #[.int .i64 0, .int .i64 0, .int .i64 0, .int .i64 0, .int .i64 0, .int .i64 0, .int .i64 0, .int .i64 0] 37)) := (((Below.refl _ _).alloc (Nat.le_refl _) _).alloc (by simp) _).alloc (by simp; omega) _
  have M := (MoAt.new w b n cap g m cap' zs js hS hJ).keep bel1
  have rP := (Row.new (w.alloc (.cells #[.slice (some ⟨b, 0, none⟩) n cap, .slice (some ⟨g, 0, none⟩) m cap'] 35)) 37 [.int .i64 d0, .int .i64 d1, .int .i64 d2, .int .i64 d3, .int .i64 d4, .int .i64 d5, .int .i64 d6, .int .i64 d7]).alloc (.cells #[.int .i64 0, .int .i64 0, .int .i64 0, .int .i64 0, .int .i64 0, .int .i64 0, .int .i64 0, .int .i64 0] 37)
  have rR := Row.new ((w.alloc (.cells #[.slice (some ⟨b, 0, none⟩) n cap, .slice (some ⟨g, 0, none⟩) m cap'] 35)).alloc (.cells #[.int .i64 d0, .int .i64 d1, .int .i64 d2, .int .i64 d3, .int .i64 d4, .int .i64 d5, .int .i64 d6, .int .i64 d7] 37)) 37 [.int .i64 0, .int .i64 0, .int .i64 0, .int .i64 0, .int .i64 0, .int .i64 0, .int .i64 0, .int .i64 0]
  simp only [World.size_alloc] at rP rR
  have hi := Try.infoParts
  have HN := hid hn
  have hb0 := hS.1
  have hg0 := hJ.1
  have HP := hid (fun (W : World) (M : MoAt W w.heap.size b n cap g m cap' zs js) => hasParts_any b n cap g m cap' zs js d0 d1 d2 d3 d4 d5 d6 d7 W M.2.1 M.2.2 hn hm)
  clear hS hJ bel1 hm
  cases hv : hasR zs js [d0, d1, d2, d3, d4, d5, d6, d7] with
  | false =>
    rw [hv] at HP
    have HV := hid (bumpV_no (x := x) (y := y) hv)
    clear hv hn
    obtain ⟨p0, p1⟩ := M.cells
    have HRP := hid rP
    go_enter Try.func19, Try.ntmps19
    go_wp2_with ((with_reducible refine wpList_load_row rfl 37 _ rfl (w.heap.size + 1) ?_ 37 ([.int .i64 d0, .int .i64 d1, .int .i64 d2, .int .i64 d3, .int .i64 d4, .int .i64 d5, .int .i64 d6, .int .i64 d7] : List Value).toArray (0, 0) _ ?_ Try.underlying37 ?_ ?_ ?_); rfl; exact HRP.out; rfl; exact hi)
    clear HRP p0 p1
    with_reducible refine (HP.out _ M).mono ?_
    rintro e W1 ⟨rfl, hC⟩
    replace M := M.keep hC
    replace rP := rP.below hC rP.lt
    replace rR := rR.below hC rR.lt
    replace hB := hB.trans (hC.mono hB.size)
    clear hC
    have R1 := hid (rR.setCells (ys := [.int .i64 0, .int .i64 0, .int .i64 0, .int .i64 0, .int .i64 0, .int .i64 0, .int .i64 0, .int .i64 0]) rfl)
    have T1 := rR.there 8 rfl
    have SB := hid (below_setCells [.int .i64 0, .int .i64 0, .int .i64 0, .int .i64 0, .int .i64 0, .int .i64 0, .int .i64 0, .int .i64 0] 0 _ hB (g := w.heap.size + 1 + 1) (by omega))
    clear rP rR hB M
    go_wp2_with ((with_reducible refine wpList_store_mid rfl 37 _ _ rfl (w.heap.size + 1 + 1) 0 ([.int .i64 0, .int .i64 0, .int .i64 0, .int .i64 0, .int .i64 0, .int .i64 0, .int .i64 0, .int .i64 0] : List Value).toArray ?_ ?_ ?_ ?_ (all_oneCell_toArray (one_of zeros_int)) ?_); rfl; rfl; exact T1; exact hi)
    exact bodyPost_ret (v := .tuple #[.agg ([.int .i64 0, .int .i64 0, .int .i64 0, .int .i64 0, .int .i64 0, .int .i64 0, .int .i64 0, .int .i64 0] : List Value).toArray, .int .i64 1]) (results_cell_tmp2 (p := 8) (q := 9) (fn := Try.f19) rfl _ _ _ _ _ (0, 0) _ _ rfl rfl R1.out Try.underlying37 rfl hi) rfl ⟨by rw [HV.out], SB.out⟩
  | true =>
    rw [hv] at HP
    obtain ⟨p0, p1⟩ := M.cells
    have HRP := hid rP
    by_cases hw : 0 ≤ x ∧ x < n
    · by_cases h1 : y < -1000
      · have HV := hid (bumpV_out hv (show okX zs x y = false by simp only [okX, Bool.and_eq_false_iff, decide_eq_false_iff_not]; right; omega))
        clear hv hn
        go_enter Try.func19, Try.ntmps19
        go_wp2_with ((with_reducible refine wpList_load_row rfl 37 _ rfl (w.heap.size + 1) ?_ 37 ([.int .i64 d0, .int .i64 d1, .int .i64 d2, .int .i64 d3, .int .i64 d4, .int .i64 d5, .int .i64 d6, .int .i64 d7] : List Value).toArray (0, 0) _ ?_ Try.underlying37 ?_ ?_ ?_); rfl; exact HRP.out; rfl; exact hi)
        clear HRP p0 p1
        with_reducible refine (HP.out _ M).mono ?_
        rintro e W1 ⟨rfl, hC⟩
        replace M := M.keep hC
        replace rP := rP.below hC rP.lt
        replace rR := rR.below hC rR.lt
        replace hB := hB.trans (hC.mono hB.size)
        clear hC
        obtain ⟨p0, p1⟩ := M.cells
        go_wp2_with fail
        with_reducible refine (hasWheel_yes _ _ _ _ hw _).mono ?_
        rintro e W2 ⟨rfl, rfl⟩
        clear p0 p1
        have R1 := hid (rR.setCells (ys := [.int .i64 0, .int .i64 0, .int .i64 0, .int .i64 0, .int .i64 0, .int .i64 0, .int .i64 0, .int .i64 0]) rfl)
        have T1 := rR.there 8 rfl
        have SB := hid (below_setCells [.int .i64 0, .int .i64 0, .int .i64 0, .int .i64 0, .int .i64 0, .int .i64 0, .int .i64 0, .int .i64 0] 0 _ hB (g := w.heap.size + 1 + 1) (by omega))
        clear rP rR hB M
        go_wp2_with ((with_reducible refine wpList_store_mid rfl 37 _ _ rfl (w.heap.size + 1 + 1) 0 ([.int .i64 0, .int .i64 0, .int .i64 0, .int .i64 0, .int .i64 0, .int .i64 0, .int .i64 0, .int .i64 0] : List Value).toArray ?_ ?_ ?_ ?_ (all_oneCell_toArray (one_of zeros_int)) ?_); rfl; rfl; exact T1; exact hi)
        exact bodyPost_ret (v := .tuple #[.agg ([.int .i64 0, .int .i64 0, .int .i64 0, .int .i64 0, .int .i64 0, .int .i64 0, .int .i64 0, .int .i64 0] : List Value).toArray, .int .i64 2]) (results_cell_tmp2 (p := 8) (q := 9) (fn := Try.f19) rfl _ _ _ _ _ (0, 0) _ _ rfl rfl R1.out Try.underlying37 rfl hi) rfl ⟨by rw [HV.out], SB.out⟩
      · by_cases h2 : 1000 < y
        · have HV := hid (bumpV_out hv (show okX zs x y = false by simp only [okX, Bool.and_eq_false_iff, decide_eq_false_iff_not]; right; omega))
          have h1' : -1000 ≤ y := by omega
          clear hv hn
          go_enter Try.func19, Try.ntmps19
          go_wp2_with ((with_reducible refine wpList_load_row rfl 37 _ rfl (w.heap.size + 1) ?_ 37 ([.int .i64 d0, .int .i64 d1, .int .i64 d2, .int .i64 d3, .int .i64 d4, .int .i64 d5, .int .i64 d6, .int .i64 d7] : List Value).toArray (0, 0) _ ?_ Try.underlying37 ?_ ?_ ?_); rfl; exact HRP.out; rfl; exact hi)
          clear HRP p0 p1
          with_reducible refine (HP.out _ M).mono ?_
          rintro e W1 ⟨rfl, hC⟩
          replace M := M.keep hC
          replace rP := rP.below hC rP.lt
          replace rR := rR.below hC rR.lt
          replace hB := hB.trans (hC.mono hB.size)
          clear hC
          obtain ⟨p0, p1⟩ := M.cells
          go_wp2_with fail
          with_reducible refine (hasWheel_yes _ _ _ _ hw _).mono ?_
          rintro e W2 ⟨rfl, rfl⟩
          clear p0 p1
          have R1 := hid (rR.setCells (ys := [.int .i64 0, .int .i64 0, .int .i64 0, .int .i64 0, .int .i64 0, .int .i64 0, .int .i64 0, .int .i64 0]) rfl)
          have T1 := rR.there 8 rfl
          have SB := hid (below_setCells [.int .i64 0, .int .i64 0, .int .i64 0, .int .i64 0, .int .i64 0, .int .i64 0, .int .i64 0, .int .i64 0] 0 _ hB (g := w.heap.size + 1 + 1) (by omega))
          clear rP rR hB M
          go_wp2_with ((with_reducible refine wpList_store_mid rfl 37 _ _ rfl (w.heap.size + 1 + 1) 0 ([.int .i64 0, .int .i64 0, .int .i64 0, .int .i64 0, .int .i64 0, .int .i64 0, .int .i64 0, .int .i64 0] : List Value).toArray ?_ ?_ ?_ ?_ (all_oneCell_toArray (one_of zeros_int)) ?_); rfl; rfl; exact T1; exact hi)
          exact bodyPost_ret (v := .tuple #[.agg ([.int .i64 0, .int .i64 0, .int .i64 0, .int .i64 0, .int .i64 0, .int .i64 0, .int .i64 0, .int .i64 0] : List Value).toArray, .int .i64 2]) (results_cell_tmp2 (p := 8) (q := 9) (fn := Try.f19) rfl _ _ _ _ _ (0, 0) _ _ rfl rfl R1.out Try.underlying37 rfl hi) rfl ⟨by rw [HV.out], SB.out⟩
        · obtain ⟨k, rfl⟩ := Int.eq_ofNat_of_zero_le hw.1
          have hkn : k < n := by omega
          have hkz : k < zs.length := by omega
          have HV := hid (bumpV_yes hv (show okX zs k y = true by simp only [okX, Bool.and_eq_true, decide_eq_true_eq]; omega))
          obtain ⟨hv1, hv2⟩ := hasR_out hv
          obtain ⟨hz1, _, _⟩ := okM_out hv1
          have hn8 := (okL_in hz1).1
          have hzb := (okL_in hz1).2 k hkz
          have hk8 : k < 8 := by omega
          have hdb := okPs_out hv2 k hk8
          rw [endP_low hkz] at hdb
          have h1' : -1000 ≤ y := by omega
          have h2' : y ≤ 1000 := by omega
          have HZB := hid hzb
          have HDB := hid hdb
          have HKZ := hid hkz
          clear hv hn hv1 hv2 hz1 hzb hdb hkz
          go_enter Try.func19, Try.ntmps19
          go_wp2_with ((with_reducible refine wpList_load_row rfl 37 _ rfl (w.heap.size + 1) ?_ 37 ([.int .i64 d0, .int .i64 d1, .int .i64 d2, .int .i64 d3, .int .i64 d4, .int .i64 d5, .int .i64 d6, .int .i64 d7] : List Value).toArray (0, 0) _ ?_ Try.underlying37 ?_ ?_ ?_); rfl; exact HRP.out; rfl; exact hi)
          clear HRP p0 p1
          with_reducible refine (HP.out _ M).mono ?_
          rintro e W1 ⟨rfl, hC⟩
          replace M := M.keep hC
          replace rP := rP.below hC rP.lt
          replace rR := rR.below hC rR.lt
          replace hB := hB.trans (hC.mono hB.size)
          clear hC
          obtain ⟨p0, p1⟩ := M.cells
          go_wp2_with fail
          with_reducible refine (hasWheel_yes _ _ _ _ hw _).mono ?_
          rintro e W2 ⟨rfl, rfl⟩
          clear p0 p1
          have HM1 := hid M; have HP1 := hid rP; have HR1 := hid rR; have HB1 := hid hB; have HW := hid hw; have HN8 := hid hn8; have HK8 := hid hk8; have HB0 := hid hb0; have HG0 := hid hg0
          clear hw hn8 hk8 rP rR M hB hb0 hg0 HP
          go_upto_region 5 with fail
          have M := HM1.out; have rP := HP1.out; have rR := HR1.out; have hB := HB1.out; have hk8 := HK8.out
          clear HM1 HP1 HR1 HB1
          have rz := Row.new W1 37 [.int .i64 0, .int .i64 0, .int .i64 0, .int .i64 0, .int .i64 0, .int .i64 0, .int .i64 0, .int .i64 0]
          have hA : Below W1.heap.size W1 (W1.alloc (.cells #[.int .i64 0, .int .i64 0, .int .i64 0, .int .i64 0, .int .i64 0, .int .i64 0, .int .i64 0, .int .i64 0] 37)) := (Below.refl _ _).alloc (Nat.le_refl _) _
          have hA2 := below_setCells ([.int .i64 d0, .int .i64 d1, .int .i64 d2, .int .i64 d3, .int .i64 d4, .int .i64 d5, .int .i64 d6, .int .i64 d7] : List Value) 0 _ hA (g := W1.heap.size) (Nat.le_refl _)
          have T1 := rz.there 8 rfl
          have lR := rR.lt
          have lb := M.2.1.1
          have HRB := hid (rz.setCells (ys := [.int .i64 d0, .int .i64 d1, .int .i64 d2, .int .i64 d3, .int .i64 d4, .int .i64 d5, .int .i64 d6, .int .i64 d7]) rfl)
          have HRP := hid rP
          have HM := hid (M.keep hA2)
          have HRP2 := hid (rP.below hA2 rP.lt)
          have HRR := hid (rR.below hA2 rR.lt)
          have HB := hid (hB.trans (hA2.mono hB.size))
          clear rz hA hA2 M rP rR hB
          go_upto_region 6 with (first | ((with_reducible refine wpList_store_mid rfl 37 _ _ rfl W1.heap.size 0 ([.int .i64 d0, .int .i64 d1, .int .i64 d2, .int .i64 d3, .int .i64 d4, .int .i64 d5, .int .i64 d6, .int .i64 d7] : List Value).toArray ?_ ?_ ?_ ?_ (all_oneCell_toArray (one_of (ints_dp d0 d1 d2 d3 d4 d5 d6 d7))) ?_); rfl; rfl; exact T1; exact hi) | ((with_reducible refine wpList_load_row rfl 37 _ rfl (w.heap.size + 1) ?_ 37 ([.int .i64 d0, .int .i64 d1, .int .i64 d2, .int .i64 d3, .int .i64 d4, .int .i64 d5, .int .i64 d6, .int .i64 d7] : List Value).toArray (0, 0) _ ?_ Try.underlying37 ?_ ?_ ?_); rfl; exact HRP.out; rfl; exact hi))
          clear T1 HRP
          obtain ⟨WX, hWX⟩ : ∃ X, X = (W1.alloc (.cells #[.int .i64 0, .int .i64 0, .int .i64 0, .int .i64 0, .int .i64 0, .int .i64 0, .int .i64 0, .int .i64 0] 37)).setCells W1.heap.size 0 [.int .i64 d0, .int .i64 d1, .int .i64 d2, .int .i64 d3, .int .i64 d4, .int .i64 d5, .int .i64 d6, .int .i64 d7] := ⟨_, rfl⟩
          rw [← hWX] at HRB HM HRP2 HRR HB ⊢
          obtain ⟨gB, hgB⟩ : ∃ G, G = W1.heap.size := ⟨_, rfl⟩
          rw [← hgB] at HRB lR lb ⊢
          clear hWX hgB
          obtain ⟨z, hz⟩ : ∃ z, z = zs[k]?.getD 0 := ⟨_, rfl⟩
          obtain ⟨d, hd⟩ : ∃ d, d = [d0, d1, d2, d3, d4, d5, d6, d7][k]?.getD 0 := ⟨_, rfl⟩
          have xk := (HRP2.out.cell k).trans (dp_at d0 d1 d2 d3 d4 d5 d6 d7 k hk8)
          have xz := HM.out.2.1.2.1 k HKZ.out
          obtain ⟨p0, p1⟩ := HM.out.cells
          have hzb := HZB.out
          have hdb := HDB.out
          rw [← hz] at xz hzb hdb HV
          rw [← hd] at xk hdb HV
          have HF := hid (fun w => floorMod_any (d + y) (z * 1000) (by omega) (by omega) w)
          have hz0 := hzb.1
          have hz9 := hzb.2
          have hd0 := hdb.1
          have hd9 := hdb.2
          have w1 : IntKind.i64.wrap (d + y) = d + y := IntWalk.i64_in _ (by omega)
          have w2 : IntKind.i64.wrap z = z := IntWalk.i64_in _ (by omega)
          have w3 : IntKind.i64.wrap (z * 1000) = z * 1000 := IntWalk.i64_in _ (by omega)
          have o1 := (HRB.out.cell k).trans (dp_at d0 d1 d2 d3 d4 d5 d6 d7 k hk8)
          have f1 := HRB.out.frozen k
          have hk0 : (0 : Int) ≤ (k : Int) := by omega
          have hk80 : (k : Int) < 8 := by omega
          have hkn0 : (k : Int) < (n : Int) := by omega
          have hX : Below gB WX (WX.drew.setCell ⟨gB, k, none⟩ (.int .i64 ((d + y) % (z * 1000)))) := ((Below.refl _ _).drew).setCell (p := ⟨gB, k, none⟩) (Nat.le_refl _) _
          have R' : Row (WX.drew.setCell ⟨gB, k, none⟩ (.int .i64 ((d + y) % (z * 1000)))) gB 37 (([.int .i64 d0, .int .i64 d1, .int .i64 d2, .int .i64 d3, .int .i64 d4, .int .i64 d5, .int .i64 d6, .int .i64 d7] : List Value).set k (.int .i64 ((d + y) % (z * 1000)))) := (HRB.out.below (Below.refl gB.succ WX).drew (Nat.lt_succ_self _)).set k _
          have HR' := hid R'
          have HRR' := hid (HRR.out.below hX (by omega))
          have HB' := hid (HB.out.trans (hX.mono (by omega)))
          have hS2 := hid (And.intro ((hX.cell (p := ⟨w.heap.size + 1, k, none⟩) (by show w.heap.size + 1 < gB; omega)).trans xk) (And.intro ((hX.cell (p := ⟨w.heap.size, 0, none⟩) (by show w.heap.size < gB; omega)).trans p0) ((hX.cell (p := ⟨b, k, none⟩) lb).trans xz)))
          clear hzb hdb hX R' HRB HM HRP2 HRR HB p1 hz hd
          refine wp_region_held (S := fun W' : World => W'.cell? ⟨w.heap.size + 1, k, none⟩ = some (.int .i64 d) ∧ W'.cell? ⟨w.heap.size, 0, none⟩ = some (.slice (some ⟨b, 0, none⟩) n cap) ∧ W'.cell? ⟨b, k, none⟩ = some (.int .u8 z)) (by kernel_rfl) ?_
          change wpAnyH _ _ _ _ _ _ _ _ (World.drew _)
          have hS0 : (fun W' : World => W'.cell? ⟨w.heap.size + 1, k, none⟩ = some (.int .i64 d) ∧ W'.cell? ⟨w.heap.size, 0, none⟩ = some (.slice (some ⟨b, 0, none⟩) n cap) ∧ W'.cell? ⟨b, k, none⟩ = some (.int .u8 z)) WX.drew := ⟨xk, p0, xz⟩
          refine wpAnyH_takeD (some 31) (i := 0) (v := ?_) rfl rfl (by kernel_rfl) (by kernel_rfl) (by kernel_rfl) (fun _ _ _ h => h) (.inl ⟨by kernel_rfl, ?_⟩) hS0 ?_
          rotate_left
          · intro w' hw'; obtain ⟨hw1, hw2, hw3⟩ := hw'; go_simp; try with_reducible rfl
          try simp only [Act.put, List.setIfInBounds_toArray, List.set_cons_zero, List.set_cons_succ]
          refine wpAnyH_takeD (some 32) (i := 1) (v := ?_) rfl rfl (by kernel_rfl) (by kernel_rfl) (by kernel_rfl) (fun _ _ _ h => h) (.inl ⟨by kernel_rfl, ?_⟩) hS0 ?_
          rotate_left
          · intro w' hw'; obtain ⟨hw1, hw2, hw3⟩ := hw'; go_simp; try with_reducible rfl
          try simp only [Act.put, List.setIfInBounds_toArray, List.set_cons_zero, List.set_cons_succ]
          refine wpAnyH_takeD (some 33) (i := 2) (v := ?_) rfl rfl (by kernel_rfl) (by kernel_rfl) (by kernel_rfl) (fun _ _ _ h => h) (.inl ⟨by kernel_rfl, ?_⟩) hS0 ?_
          rotate_left
          · intro w' hw'; obtain ⟨hw1, hw2, hw3⟩ := hw'; go_simp; try with_reducible rfl
          try simp only [Act.put, List.setIfInBounds_toArray, List.set_cons_zero, List.set_cons_succ]
          refine wpAnyH_takeD (some 34) (i := 3) (v := ?_) rfl rfl (by kernel_rfl) (by kernel_rfl) (by kernel_rfl) (fun _ _ _ h => h) (.inl ⟨by kernel_rfl, ?_⟩) hS0 ?_
          rotate_left
          · intro w' hw'; obtain ⟨hw1, hw2, hw3⟩ := hw'; go_simp; try with_reducible rfl
          try simp only [Act.put, List.setIfInBounds_toArray, List.set_cons_zero, List.set_cons_succ]
          refine wpAnyH_takeD (some 35) (i := 4) (v := ?_) rfl rfl (by kernel_rfl) (by kernel_rfl) (by kernel_rfl) (fun _ _ _ h => h) (.inl ⟨by kernel_rfl, ?_⟩) hS0 ?_
          rotate_left
          · intro w' hw'; obtain ⟨hw1, hw2, hw3⟩ := hw'; go_simp; try with_reducible rfl
          try simp only [Act.put, List.setIfInBounds_toArray, List.set_cons_zero, List.set_cons_succ]
          refine wpAnyH_takeD (some 36) (i := 5) (v := ?_) rfl rfl (by kernel_rfl) (by kernel_rfl) (by kernel_rfl) (fun _ _ _ h => h) (.inl ⟨by kernel_rfl, ?_⟩) hS0 ?_
          rotate_left
          · intro w' hw'; obtain ⟨hw1, hw2, hw3⟩ := hw'; go_simp; try with_reducible rfl
          try simp only [Act.put, List.setIfInBounds_toArray, List.set_cons_zero, List.set_cons_succ]
          refine wpAnyH_takeD (some 37) (i := 6) (v := ?_) rfl rfl (by kernel_rfl) (by kernel_rfl) (by kernel_rfl) (fun _ _ _ h => h) (.inl ⟨by kernel_rfl, ?_⟩) hS0 ?_
          rotate_left
          · intro w' hw'; obtain ⟨hw1, hw2, hw3⟩ := hw'; go_simp; try with_reducible rfl
          try simp only [Act.put, List.setIfInBounds_toArray, List.set_cons_zero, List.set_cons_succ]
          refine wpAnyH_takeD (some 38) (i := 7) (v := ?_) rfl rfl (by kernel_rfl) (by kernel_rfl) (by kernel_rfl) (fun _ _ _ h => h) (.inl ⟨by kernel_rfl, ?_⟩) hS0 ?_
          rotate_left
          · intro w' hw'; obtain ⟨hw1, hw2, hw3⟩ := hw'; go_simp; try with_reducible rfl
          try simp only [Act.put, List.setIfInBounds_toArray, List.set_cons_zero, List.set_cons_succ]
          refine wpAnyH_takeD (some 39) (i := 8) (v := ?_) rfl rfl (by kernel_rfl) (by kernel_rfl) (by kernel_rfl) (fun _ _ _ h => h) (.inl ⟨by kernel_rfl, ?_⟩) hS0 ?_
          rotate_left
          · intro w' hw'; obtain ⟨hw1, hw2, hw3⟩ := hw'; go_simp; try with_reducible rfl
          try simp only [Act.put, List.setIfInBounds_toArray, List.set_cons_zero, List.set_cons_succ]
          refine wpAnyH_takeD (some 40) (i := 9) (v := ?_) rfl rfl (by kernel_rfl) (by kernel_rfl) (by kernel_rfl) (fun _ _ _ h => h) (.inl ⟨by kernel_rfl, ?_⟩) hS0 ?_
          rotate_left
          · intro w' hw'; obtain ⟨hw1, hw2, hw3⟩ := hw'; go_simp; try with_reducible rfl
          try simp only [Act.put, List.setIfInBounds_toArray, List.set_cons_zero, List.set_cons_succ]
          refine wpAnyH_takeD (some 41) (i := 10) (v := ?_) rfl rfl (by kernel_rfl) (by kernel_rfl) (by kernel_rfl) (fun _ _ _ h => h) (.inl ⟨by kernel_rfl, ?_⟩) hS0 ?_
          rotate_left
          · intro w' hw'; obtain ⟨hw1, hw2, hw3⟩ := hw'; go_simp; try with_reducible rfl
          try simp only [Act.put, List.setIfInBounds_toArray, List.set_cons_zero, List.set_cons_succ]
          refine wpAnyH_takeD (some 42) (i := 11) (v := ?_) rfl rfl (by kernel_rfl) (by kernel_rfl) (by kernel_rfl) (fun _ _ _ h => h) (.inl ⟨by kernel_rfl, ?_⟩) hS0 ?_
          rotate_left
          · intro w' hw'; obtain ⟨hw1, hw2, hw3⟩ := hw'; go_simp; try with_reducible rfl
          try simp only [Act.put, List.setIfInBounds_toArray, List.set_cons_zero, List.set_cons_succ]
          refine wpAnyH_takeD (some 43) (i := 12) (v := ?_) rfl rfl (by kernel_rfl) (by kernel_rfl) (by kernel_rfl) (fun _ _ _ h => h) (.inl ⟨by kernel_rfl, ?_⟩) hS0 ?_
          rotate_left
          · intro w' hw'; obtain ⟨hw1, hw2, hw3⟩ := hw'; go_simp; try with_reducible rfl
          try simp only [Act.put, List.setIfInBounds_toArray, List.set_cons_zero, List.set_cons_succ]
          refine wpAnyH_all (rs := [13]) (by kernel_rfl) (by simp) ?_
          intro i hi'; simp only [List.mem_singleton] at hi'; subst hi'
          refine wpOp_step rfl (fun K hK => ?_)
          go_simp
          with_reducible refine (HF.out _).mono ?_
          rintro e W' ⟨rfl, rfl⟩
          refine hK _ _ ⟨hS0, ?_⟩
          try simp only [Act.put, List.setIfInBounds_toArray, List.set_cons_zero, List.set_cons_succ]
          refine wpAnyH_takeD (some 45) (i := 14) (v := ?_) rfl rfl (by kernel_rfl) (by kernel_rfl) (by kernel_rfl) (fun _ _ _ h => h) (.inl ⟨by kernel_rfl, ?_⟩) hS0 ?_
          rotate_left
          · intro w' hw'; obtain ⟨hw1, hw2, hw3⟩ := hw'; go_simp; try with_reducible rfl
          try simp only [Act.put, List.setIfInBounds_toArray, List.set_cons_zero, List.set_cons_succ]
          refine wpAnyH_all (rs := [15]) (by kernel_rfl) (by simp) ?_
          intro i hi'; simp only [List.mem_singleton] at hi'; subst hi'
          refine wpOp_step rfl (fun K hK => ?_)
          go_simp
          refine hK _ _ ⟨hS2.out, ?_⟩
          try simp only [Act.put, List.setIfInBounds_toArray, List.set_cons_zero, List.set_cons_succ]
          refine wpAnyH_done (by kernel_rfl) ?_ _
          clear xk xz p0 w1 w2 w3 o1 f1 hS0 hS2
          have T1 := HRR'.out.there (([.int .i64 d0, .int .i64 d1, .int .i64 d2, .int .i64 d3, .int .i64 d4, .int .i64 d5, .int .i64 d6, .int .i64 d7] : List Value).set k (.int .i64 ((d + y) % (z * 1000)))).toArray.size (by simp)
          have R1 := hid (HRR'.out.setCells (ys := ([.int .i64 d0, .int .i64 d1, .int .i64 d2, .int .i64 d3, .int .i64 d4, .int .i64 d5, .int .i64 d6, .int .i64 d7] : List Value).set k (.int .i64 ((d + y) % (z * 1000)))) (by simp))
          have SB := hid (below_setCells (([.int .i64 d0, .int .i64 d1, .int .i64 d2, .int .i64 d3, .int .i64 d4, .int .i64 d5, .int .i64 d6, .int .i64 d7] : List Value).set k (.int .i64 ((d + y) % (z * 1000)))) 0 _ HB'.out (g := w.heap.size + 1 + 1) (by omega))
          have hi8 : (Try.prog.info? 37).map (·.size) = some (([.int .i64 d0, .int .i64 d1, .int .i64 d2, .int .i64 d3, .int .i64 d4, .int .i64 d5, .int .i64 d6, .int .i64 d7] : List Value).set k (.int .i64 ((d + y) % (z * 1000)))).toArray.size := by rw [hi]; simp
          clear HB' HRR'
          go_wp2_with (first | ((with_reducible refine wpList_store_mid rfl 37 _ _ rfl (w.heap.size + 1 + 1) 0 ((([.int .i64 d0, .int .i64 d1, .int .i64 d2, .int .i64 d3, .int .i64 d4, .int .i64 d5, .int .i64 d6, .int .i64 d7] : List Value).set k (.int .i64 ((d + y) % (z * 1000)))) : List Value).toArray ?_ ?_ ?_ ?_ (all_oneCell_toArray (one_of (ints_set d0 d1 d2 d3 d4 d5 d6 d7 _ k))) ?_); rfl; rfl; exact T1; exact hi8) | ((with_reducible refine wpList_load_row rfl 37 _ rfl gB ?_ 37 ((([.int .i64 d0, .int .i64 d1, .int .i64 d2, .int .i64 d3, .int .i64 d4, .int .i64 d5, .int .i64 d6, .int .i64 d7] : List Value).set k (.int .i64 ((d + y) % (z * 1000)))) : List Value).toArray (0, 0) _ ?_ Try.underlying37 ?_ ?_ ?_); rfl; exact HR'.out; rfl; exact hi8))
          exact bodyPost_ret (v := .tuple #[.agg ((([.int .i64 d0, .int .i64 d1, .int .i64 d2, .int .i64 d3, .int .i64 d4, .int .i64 d5, .int .i64 d6, .int .i64 d7] : List Value).set k (.int .i64 ((d + y) % (z * 1000)))) : List Value).toArray, .int .i64 0]) (results_cell_tmp2 (p := 8) (q := 9) (fn := Try.f19) rfl _ _ _ _ _ (0, 0) _ _ rfl rfl R1.out Try.underlying37 rfl hi8) rfl ⟨by rw [HV.out]; rfl, SB.out⟩
    · have HV := hid (bumpV_out hv (show okX zs x y = false by simp only [okX, Bool.and_eq_false_iff, decide_eq_false_iff_not]; left; omega))
      clear hv hn
      go_enter Try.func19, Try.ntmps19
      go_wp2_with ((with_reducible refine wpList_load_row rfl 37 _ rfl (w.heap.size + 1) ?_ 37 ([.int .i64 d0, .int .i64 d1, .int .i64 d2, .int .i64 d3, .int .i64 d4, .int .i64 d5, .int .i64 d6, .int .i64 d7] : List Value).toArray (0, 0) _ ?_ Try.underlying37 ?_ ?_ ?_); rfl; exact HRP.out; rfl; exact hi)
      clear HRP p0 p1
      with_reducible refine (HP.out _ M).mono ?_
      rintro e W1 ⟨rfl, hC⟩
      replace M := M.keep hC
      replace rP := rP.below hC rP.lt
      replace rR := rR.below hC rR.lt
      replace hB := hB.trans (hC.mono hB.size)
      clear hC
      obtain ⟨p0, p1⟩ := M.cells
      go_wp2_with fail
      with_reducible refine (hasWheel_no _ _ _ _ hw _).mono ?_
      rintro e W2 ⟨rfl, rfl⟩
      clear p0 p1
      have R1 := hid (rR.setCells (ys := [.int .i64 0, .int .i64 0, .int .i64 0, .int .i64 0, .int .i64 0, .int .i64 0, .int .i64 0, .int .i64 0]) rfl)
      have T1 := rR.there 8 rfl
      have SB := hid (below_setCells [.int .i64 0, .int .i64 0, .int .i64 0, .int .i64 0, .int .i64 0, .int .i64 0, .int .i64 0, .int .i64 0] 0 _ hB (g := w.heap.size + 1 + 1) (by omega))
      clear rP rR hB M
      go_wp2_with ((with_reducible refine wpList_store_mid rfl 37 _ _ rfl (w.heap.size + 1 + 1) 0 ([.int .i64 0, .int .i64 0, .int .i64 0, .int .i64 0, .int .i64 0, .int .i64 0, .int .i64 0, .int .i64 0] : List Value).toArray ?_ ?_ ?_ ?_ (all_oneCell_toArray (one_of zeros_int)) ?_); rfl; rfl; exact T1; exact hi)
      exact bodyPost_ret (v := .tuple #[.agg ([.int .i64 0, .int .i64 0, .int .i64 0, .int .i64 0, .int .i64 0, .int .i64 0, .int .i64 0, .int .i64 0] : List Value).toArray, .int .i64 2]) (results_cell_tmp2 (p := 8) (q := 9) (fn := Try.f19) rfl _ _ _ _ _ (0, 0) _ _ rfl rfl R1.out Try.underlying37 rfl hi) rfl ⟨by rw [HV.out], SB.out⟩
end Go.Proofs.Ytkgldcjbaghapaa
