/- WrongWheels: parts that are valid, the eyes, and what they read (drawn out of the texts of EyeReads). -/
import Derived.Test.YtomhmkdfhhmenaaMwS
import Derived.Test.YtomhmkdfhhmenaaHeld
import Derived.Deep.MidRow
import Derived.Deep.DeepCutAuto
namespace Go.Proofs.Ytomhmkdfhhmenaa
open Go.RowKit
set_option linter.unusedVariables false
set_option linter.unusedSimpArgs false
def endP (zs : List Int) (k : Nat) : Int := if k < zs.length then zs[k]?.getD 0 * 1000 else 1
def okPs (zs ps : List Int) : Bool := (List.range 8).all fun k => decide (0 ≤ ps[k]?.getD 0) && decide (ps[k]?.getD 0 < endP zs k)
def okPTo (zs ps : List Int) (k : Nat) : Prop := ∀ j, j < k → 0 ≤ ps[j]?.getD 0 ∧ ps[j]?.getD 0 < endP zs j
theorem okPTo_zero (zs ps : List Int) : okPTo zs ps 0 := fun _ h => absurd h (Nat.not_lt_zero _)
theorem okPTo_succ {zs ps : List Int} {k : Nat} (h : okPTo zs ps k) (h1 : 0 ≤ ps[k]?.getD 0) (h2 : ps[k]?.getD 0 < endP zs k) : okPTo zs ps (k + 1) := fun j hj => by
  by_cases e : j = k
  · subst e; exact ⟨h1, h2⟩
  · exact h j (by omega)
theorem okPs_of {zs ps : List Int} (h : okPTo zs ps 8) : okPs zs ps = true := by
  simp only [okPs, List.all_eq_true, List.mem_range, Bool.and_eq_true, decide_eq_true_eq]
  exact h
theorem okPs_out {zs ps : List Int} (h : okPs zs ps = true) (k : Nat) (hk : k < 8) : 0 ≤ ps[k]?.getD 0 ∧ ps[k]?.getD 0 < endP zs k := by
  simp only [okPs, List.all_eq_true, List.mem_range, Bool.and_eq_true, decide_eq_true_eq] at h
  exact h k hk
theorem okPs_at {zs ps : List Int} (k : Nat) (hk : k < 8) (h : ps[k]?.getD 0 < 0 ∨ endP zs k ≤ ps[k]?.getD 0) : okPs zs ps = false := by
  cases hb : okPs zs ps with
  | false => rfl
  | true =>
    have := okPs_out hb k hk
    omega
theorem endP_low {zs : List Int} {k : Nat} (h : k < zs.length) : endP zs k = zs[k]?.getD 0 * 1000 := by simp [endP, h]
theorem endP_high {zs : List Int} {k : Nat} (h : zs.length ≤ k) : endP zs k = 1 := by simp [endP]; omega
def hasR (zs : List Int) (js : List (Int × Int)) (ps : List Int) : Bool := okM zs js && okPs zs ps
theorem hasR_no {zs : List Int} {js : List (Int × Int)} {ps : List Int} (h : okM zs js = false) : hasR zs js ps = false := by simp [hasR, h]
theorem hasR_yes {zs : List Int} {js : List (Int × Int)} {ps : List Int} (h : okM zs js = true) : hasR zs js ps = okPs zs ps := by simp [hasR, h]
theorem parts_cell (d0 d1 d2 d3 d4 d5 d6 d7 : Int) (k : Nat) (hk : k < 8) : ([Value.int .i64 d0, Value.int .i64 d1, Value.int .i64 d2, Value.int .i64 d3, Value.int .i64 d4, Value.int .i64 d5, Value.int .i64 d6, Value.int .i64 d7] : List Value)[k]? = some (.int .i64 (([d0, d1, d2, d3, d4, d5, d6, d7] : List Int)[k]?.getD 0)) := by
  have h : k = 0 ∨ k = 1 ∨ k = 2 ∨ k = 3 ∨ k = 4 ∨ k = 5 ∨ k = 6 ∨ k = 7 := by omega
  rcases h with rfl | rfl | rfl | rfl | rfl | rfl | rfl | rfl <;> rfl
theorem wpList_load_rowG {P : Program} {ops : Array Oper} {rest : List Oper} {o : Oper} {a : Act} {w : World} {Q : Exit → Act → World → Prop} (hgd : Region.wanted o (yielded ops a.tmps) = true) (ty : TypeId) (x : Operand) (ho : o.op = .load ty x)
    (g : Nat) (hx : a.eval x = .pointer (some ⟨g, 0, none⟩)) (t : TypeId) (cs : Array Value) (fr : Nat × Nat) (d : TypeDesc) (hg : w.heap[g]? = some (.cells cs t fr))
    (hu : P.underlying ty = some d) (hd : (match d with | .struct _ | .array _ _ => true | _ => false) = true) (hi : (P.info? ty).map (·.size) = some cs.size)
    (h : wpList P ops Q rest (a.put o.dst (.agg cs)) w) : wpList P ops Q (o :: rest) a w :=
  BigFrame.wpList_want hgd fun _ hK => wp_load_row ty x ho g hx t cs fr d hg hu hd hi (hK _ _ h)
theorem results_cell_tmp2 {P : Program} {fn : Func} {p q : Tmp} {ty : TypeId} (h : fn.results = #[.cell p ty, .tmp q]) (tmps : Array Value) (w : World) (g : Nat) (t : TypeId) (cs : Array Value) (fr : Nat × Nat) (d : TypeDesc) (v : Value)
    (hp : tmps.getD p undef = .pointer (some ⟨g, 0, none⟩)) (hq : tmps.getD q undef = v) (hg : w.heap[g]? = some (.cells cs t fr))
    (hu : P.underlying ty = some d) (hd : (match d with | .struct _ | .array _ _ => true | _ => false) = true) (hi : (P.info? ty).map (·.size) = some cs.size) :
    (results fn tmps).run P w = .ok (.tuple #[.agg cs, v]) w := by
  have hp' : tmps[p]?.getD undef = .pointer (some ⟨g, 0, none⟩) := by simpa using hp
  have hq' : tmps[q]?.getD undef = v := by simpa using hq
  simp [results, h, hp', hq', asAddr, run_loadVar_row w g t ty cs fr d hg hu hd hi]
theorem Row.there {w : World} {g : Nat} {e : TypeId} {xs : List Value} (h : Row w g e xs) (n : Nat) (hn : n = xs.length) : w.there g 0 n := fun j hj => by
  rw [Nat.zero_add, h.cell]
  exact ⟨by rw [List.getElem?_eq_getElem (by omega)]; rfl, h.frozen j⟩
theorem Row.setCells_from {w : World} {g : Nat} {e : TypeId} : ∀ (ys xs : List Value) (o : Nat), Row w g e xs → o + ys.length = xs.length → Row (w.setCells g o ys) g e (xs.take o ++ ys)
  | [], xs, o, h, hl => by
    simp at hl
    rw [World.setCells, List.append_nil, List.take_of_length_le (by omega)]; exact h
  | y :: r, xs, o, h, hl => by
    simp at hl
    rw [World.setCells]
    have := Row.setCells_from (w := w.setCell ⟨g, o, none⟩ y) r (xs.set o y) (o + 1) (h.set o y) (by simp; omega)
    rwa [List.take_set, List.take_succ_eq_append_getElem (by omega), List.set_append_right _ _ (by simp; omega), show o - (xs.take o).length = 0 from by simp; omega, List.append_assoc, List.set_cons_zero, List.cons_append, List.nil_append] at this
theorem Row.setCells {w : World} {g : Nat} {e : TypeId} {xs ys : List Value} (h : Row w g e xs) (hl : ys.length = xs.length) : Row (w.setCells g 0 ys) g e ys := by
  have := Row.setCells_from ys xs 0 h (by omega)
  simpa using this
theorem below_setCells {n : Nat} {a : World} {g : Nat} : ∀ (ys : List Value) (o : Nat) (w : World), Below n a w → n ≤ g → Below n a (w.setCells g o ys)
  | [], _, _, h, _ => h
  | _ :: r, o, _, h, hg => by rw [World.setCells]; exact below_setCells r (o + 1) _ (h.setCell hg _) hg
theorem Try.infoParts : (Try.prog.info? 70).map (·.size) = some 8 := by kernel_rfl
theorem dp_at (d0 d1 d2 d3 d4 d5 d6 d7 : Int) (k : Nat) (hk : k < 8) : ([.int .i64 d0, .int .i64 d1, .int .i64 d2, .int .i64 d3, .int .i64 d4, .int .i64 d5, .int .i64 d6, .int .i64 d7] : List Value)[k]? = some (.int .i64 ([d0, d1, d2, d3, d4, d5, d6, d7][k]?.getD 0)) := parts_cell d0 d1 d2 d3 d4 d5 d6 d7 k hk
theorem hasR_out {zs : List Int} {js : List (Int × Int)} {ps : List Int} (h : hasR zs js ps = true) : okM zs js = true ∧ okPs zs ps = true := by simpa [hasR] using h
theorem okL_in {zs : List Int} (h : okL zs = true) : zs.length ≤ 8 ∧ ∀ k, k < zs.length → 2 ≤ zs[k]?.getD 0 ∧ zs[k]?.getD 0 ≤ 100 := by
  simp only [okL, decide_eq_true_eq] at h
  refine ⟨h.2.1, fun k hk => ?_⟩
  have := h.2.2.1 zs[k] (List.getElem_mem hk)
  simpa [hk] using this
theorem Try.infoDigits8 : (Try.prog.info? 65).map (·.size) = some 8 := by kernel_rfl
/-- what an eye sees of the parts d -/
def eyF (e : Nat) (d : Int) : Int := if e = 0 then d / 1000 else (d + 500) / 1000
def rdX (e : Nat) (zs ds : List Int) (j : Nat) : Int := eyF e (ds[j]?.getD 0) % zs[j]?.getD 0
def rdV (e : Nat) (zs ds : List Int) (k : Nat) : List Value := (List.range 8).map fun j => .int .u8 (if j < k then rdX e zs ds j else 0)
theorem rdV_zero (e : Nat) (zs ds : List Int) : rdV e zs ds 0 = [.int .u8 0, .int .u8 0, .int .u8 0, .int .u8 0, .int .u8 0, .int .u8 0, .int .u8 0, .int .u8 0] := by simp [rdV, List.range_succ]
theorem rdV_len (e : Nat) (zs ds : List Int) (k : Nat) : (rdV e zs ds k).length = 8 := by simp [rdV]
theorem rdV_set (e : Nat) (zs ds : List Int) (k : Nat) (hk : k < 8) : (rdV e zs ds k).set k (.int .u8 (rdX e zs ds k)) = rdV e zs ds (k + 1) := by
  apply List.ext_getElem?
  intro j
  simp only [rdV, List.getElem?_set, List.getElem?_map, List.length_map, List.length_range]
  by_cases hj : k = j
  · subst hj
    simp [hk]
  · rw [if_neg hj]
    by_cases h8 : j < 8
    · simp only [List.getElem?_range h8, Option.map_some]
      by_cases h : j < k
      · rw [if_pos h, if_pos (by omega)]
      · rw [if_neg h, if_neg (by omega)]
    · simp [List.getElem?_eq_none (show (List.range 8).length ≤ j by simp; omega)]
theorem rdV_at (e : Nat) (zs ds : List Int) (k : Nat) (hk : k < 8) : (rdV e zs ds k)[k]? = some (.int .u8 0) := by simp [rdV, hk]
theorem ints_rd (e : Nat) (zs ds : List Int) (k : Nat) : ∀ v ∈ rdV e zs ds k, ∃ x : Int, v = .int .u8 x := by
  intro v hv
  simp only [rdV, List.mem_map] at hv
  obtain ⟨j, _, rfl⟩ := hv
  exact ⟨_, rfl⟩
theorem one_of8 {l : List Value} (h : ∀ v ∈ l, ∃ e : Int, v = .int .u8 e) : ∀ v ∈ l, v.oneCell' = true := fun v hv => by
  obtain ⟨e, rfl⟩ := h v hv; rfl
theorem zeros_int8 : ∀ v ∈ ([.int .u8 0, .int .u8 0, .int .u8 0, .int .u8 0, .int .u8 0, .int .u8 0, .int .u8 0, .int .u8 0] : List Value), ∃ e : Int, v = .int .u8 e := by
  intro v hv
  simp only [List.mem_cons, List.not_mem_nil, or_false] at hv
  rcases hv with rfl | rfl | rfl | rfl | rfl | rfl | rfl | rfl <;> exact ⟨0, rfl⟩
theorem oct_of8 (l : List Value) (hl : l.length = 8) (h : ∀ v ∈ l, ∃ e : Int, v = .int .u8 e) : ∃ e0 e1 e2 e3 e4 e5 e6 e7 : Int, l = [.int .u8 e0, .int .u8 e1, .int .u8 e2, .int .u8 e3, .int .u8 e4, .int .u8 e5, .int .u8 e6, .int .u8 e7] := by
  match l, hl with
  | [a0, a1, a2, a3, a4, a5, a6, a7], _ =>
    obtain ⟨e0, rfl⟩ := h a0 (by simp)
    obtain ⟨e1, rfl⟩ := h a1 (by simp)
    obtain ⟨e2, rfl⟩ := h a2 (by simp)
    obtain ⟨e3, rfl⟩ := h a3 (by simp)
    obtain ⟨e4, rfl⟩ := h a4 (by simp)
    obtain ⟨e5, rfl⟩ := h a5 (by simp)
    obtain ⟨e6, rfl⟩ := h a6 (by simp)
    obtain ⟨e7, rfl⟩ := h a7 (by simp)
    exact ⟨e0, e1, e2, e3, e4, e5, e6, e7, rfl⟩
theorem eyF_bd (e : Nat) (d z : Int) (hz : 2 ≤ z ∧ z ≤ 100) (hd : 0 ≤ d ∧ d < z * 1000) : 0 ≤ eyF e d ∧ eyF e d ≤ 100 := by
  unfold eyF; split <;> omega
theorem eyF_zero (d z : Int) (hz : 2 ≤ z ∧ z ≤ 100) (hd : 0 ≤ d ∧ d < z * 1000) : eyF 0 d % z = d / 1000 := by
  show (if (0 : Nat) = 0 then d / 1000 else _) % z = d / 1000
  rw [if_pos rfl, Int.emod_eq_of_lt (by omega) (by omega)]
theorem eyF_one (d z : Int) : eyF 1 d % z = (d + 500) / 1000 % z := rfl
set_option maxHeartbeats 400000 in
theorem look_zero (w : World) : Calls Try.prog 21 #[.int .i64 0] w fun e w' => e = .returned (.tuple #[.func (Fn.func 39) #[] #[], .bool true]) ∧ Below w.heap.size w w' := by
  go_enter Try.func21, Try.ntmps21
  go_wp2
  go_ret2
  exact ⟨rfl, (Below.refl _ _).alloc (Nat.le_refl _) _⟩
set_option maxHeartbeats 400000 in
theorem look_one (w : World) : Calls Try.prog 21 #[.int .i64 1] w fun e w' => e = .returned (.tuple #[.func (Fn.func 40) #[] #[], .bool true]) ∧ Below w.heap.size w w' := by
  go_enter Try.func21, Try.ntmps21
  go_wp2
  go_ret2
  exact ⟨rfl, (Below.refl _ _).alloc (Nat.le_refl _) _⟩
set_option maxHeartbeats 400000 in
theorem look_no (y : Int) (w : World) (h : y < 0 ∨ 2 ≤ y) : Calls Try.prog 21 #[.int .i64 y] w fun e w' => e = .returned (.tuple #[.nilFunc, .bool false]) ∧ Below w.heap.size w w' := by
  rcases h with h | h
  · go_enter Try.func21, Try.ntmps21
    go_wp2
    go_ret2
    exact ⟨rfl, (Below.refl _ _).alloc (Nat.le_refl _) _⟩
  · have h0 : ¬ y < 0 := by omega
    go_enter Try.func21, Try.ntmps21
    go_wp2
    go_ret2
    exact ⟨rfl, (Below.refl _ _).alloc (Nat.le_refl _) _⟩
set_option maxHeartbeats 400000 in
theorem passed_any (d0 d1 d2 d3 d4 d5 d6 d7 : Int) (k : Nat) (d : Int) (w : World) (hk : k < 8) (hd : d = [d0, d1, d2, d3, d4, d5, d6, d7][k]?.getD 0) (hb : 0 ≤ d ∧ d ≤ 1000000) :
    Calls Try.prog 39 #[.agg ([.int .i64 d0, .int .i64 d1, .int .i64 d2, .int .i64 d3, .int .i64 d4, .int .i64 d5, .int .i64 d6, .int .i64 d7] : List Value).toArray, .int .i64 k] w fun e w' => e = .returned (.int .i64 (eyF 0 d)) ∧ Below w.heap.size w w' := by
  have r := Row.new w 70 [.int .i64 d0, .int .i64 d1, .int .i64 d2, .int .i64 d3, .int .i64 d4, .int .i64 d5, .int .i64 d6, .int .i64 d7]
  have c := (r.cell k).trans (dp_at d0 d1 d2 d3 d4 d5 d6 d7 k hk)
  rw [← hd] at c
  have hk0 : (k : Int) < 8 := by omega
  have h0 := hb.1
  have h9 := hb.2
  clear hd r hb
  go_enter Try.func39, Try.ntmps39
  go_wp2_with fail
  go_ret
  exact ⟨rfl, (Below.refl _ _).alloc (Nat.le_refl _) _⟩
set_option maxHeartbeats 400000 in
theorem nearest_any (d0 d1 d2 d3 d4 d5 d6 d7 : Int) (k : Nat) (d : Int) (w : World) (hk : k < 8) (hd : d = [d0, d1, d2, d3, d4, d5, d6, d7][k]?.getD 0) (hb : 0 ≤ d ∧ d ≤ 1000000) :
    Calls Try.prog 40 #[.agg ([.int .i64 d0, .int .i64 d1, .int .i64 d2, .int .i64 d3, .int .i64 d4, .int .i64 d5, .int .i64 d6, .int .i64 d7] : List Value).toArray, .int .i64 k] w fun e w' => e = .returned (.int .i64 (eyF 1 d)) ∧ Below w.heap.size w w' := by
  have r := Row.new w 70 [.int .i64 d0, .int .i64 d1, .int .i64 d2, .int .i64 d3, .int .i64 d4, .int .i64 d5, .int .i64 d6, .int .i64 d7]
  have c := (r.cell k).trans (dp_at d0 d1 d2 d3 d4 d5 d6 d7 k hk)
  rw [← hd] at c
  have hk0 : (k : Int) < 8 := by omega
  have h0 := hb.1
  have h9 := hb.2
  clear hd r hb
  go_enter Try.func40, Try.ntmps40
  go_wp2_with fail
  go_ret
  exact ⟨rfl, (Below.refl _ _).alloc (Nat.le_refl _) _⟩
set_option maxRecDepth 100000 in
set_option maxHeartbeats 1000000 in
theorem reads_zero (b n cap g m cap' : Nat) (zs : List Int) (js : List (Int × Int)) (d0 d1 d2 d3 d4 d5 d6 d7 : Int) (w : World) (hS : Stk w b zs) (hJ : Jst w g js) (hn : n = zs.length) (hR : hasR zs js [d0, d1, d2, d3, d4, d5, d6, d7] = true) :
    Calls Try.prog 42 #[.agg #[.slice (some ⟨b, 0, none⟩) n cap, .slice (some ⟨g, 0, none⟩) m cap'], .agg ([.int .i64 d0, .int .i64 d1, .int .i64 d2, .int .i64 d3, .int .i64 d4, .int .i64 d5, .int .i64 d6, .int .i64 d7] : List Value).toArray, .func (Fn.func 39) #[] #[]] w fun e w' => e = .returned (.agg (rdV 0 zs [d0, d1, d2, d3, d4, d5, d6, d7] n).toArray) ∧ Below w.heap.size w w' := by
  have bel1 : Below (w.alloc (.cells #[.slice (some ⟨b, 0, none⟩) n cap, .slice (some ⟨g, 0, none⟩) m cap'] 33)).heap.size (w.alloc (.cells #[.slice (some ⟨b, 0, none⟩) n cap, .slice (some ⟨g, 0, none⟩) m cap'] 33)) ((((w.alloc (.cells #[.slice (some ⟨b, 0, none⟩) n cap, .slice (some ⟨g, 0, none⟩) m cap'] 33)).alloc (.cells #[.int .i64 d0, .int .i64 d1, .int .i64 d2, .int .i64 d3, .int .i64 d4, .int .i64 d5, .int .i64 d6, .int .i64 d7] 70)).alloc (.cells #[.int .u8 0, .int .u8 0, .int .u8 0, .int .u8 0, .int .u8 0, .int .u8 0, .int .u8 0, .int .u8 0] 65)).alloc (.cells #[.int .u8 0, .int .u8 0, .int .u8 0, .int .u8 0, .int .u8 0, .int .u8 0, .int .u8 0, .int .u8 0] 65)) := (((Below.refl _ _).alloc (Nat.le_refl _) _).alloc (by simp) _).alloc (by first | (simp; done) | (simp; omega)) _
  have hB : Below w.heap.size w ((((w.alloc (.cells #[.slice (some ⟨b, 0, none⟩) n cap, .slice (some ⟨g, 0, none⟩) m cap'] 33)).alloc (.cells #[.int .i64 d0, .int .i64 d1, .int .i64 d2, .int .i64 d3, .int .i64 d4, .int .i64 d5, .int .i64 d6, .int .i64 d7] 70)).alloc (.cells #[.int .u8 0, .int .u8 0, .int .u8 0, .int .u8 0, .int .u8 0, .int .u8 0, .int .u8 0, .int .u8 0] 65)).alloc (.cells #[.int .u8 0, .int .u8 0, .int .u8 0, .int .u8 0, .int .u8 0, .int .u8 0, .int .u8 0, .int .u8 0] 65)) := ((((Below.refl _ _).alloc (Nat.le_refl _) _).alloc (by simp) _).alloc (by first | (simp; done) | (simp; omega)) _).alloc (by first | (simp; done) | (simp; omega)) _
  have M := (MoAt.new w b n cap g m cap' zs js hS hJ).keep bel1
  have rP := ((Row.new (w.alloc (.cells #[.slice (some ⟨b, 0, none⟩) n cap, .slice (some ⟨g, 0, none⟩) m cap'] 33)) 70 [.int .i64 d0, .int .i64 d1, .int .i64 d2, .int .i64 d3, .int .i64 d4, .int .i64 d5, .int .i64 d6, .int .i64 d7]).alloc (.cells #[.int .u8 0, .int .u8 0, .int .u8 0, .int .u8 0, .int .u8 0, .int .u8 0, .int .u8 0, .int .u8 0] 65)).alloc (.cells #[.int .u8 0, .int .u8 0, .int .u8 0, .int .u8 0, .int .u8 0, .int .u8 0, .int .u8 0, .int .u8 0] 65)
  have rR := (Row.new ((w.alloc (.cells #[.slice (some ⟨b, 0, none⟩) n cap, .slice (some ⟨g, 0, none⟩) m cap'] 33)).alloc (.cells #[.int .i64 d0, .int .i64 d1, .int .i64 d2, .int .i64 d3, .int .i64 d4, .int .i64 d5, .int .i64 d6, .int .i64 d7] 70)) 65 [.int .u8 0, .int .u8 0, .int .u8 0, .int .u8 0, .int .u8 0, .int .u8 0, .int .u8 0, .int .u8 0]).alloc (.cells #[.int .u8 0, .int .u8 0, .int .u8 0, .int .u8 0, .int .u8 0, .int .u8 0, .int .u8 0, .int .u8 0] 65)
  have rD := Row.new (((w.alloc (.cells #[.slice (some ⟨b, 0, none⟩) n cap, .slice (some ⟨g, 0, none⟩) m cap'] 33)).alloc (.cells #[.int .i64 d0, .int .i64 d1, .int .i64 d2, .int .i64 d3, .int .i64 d4, .int .i64 d5, .int .i64 d6, .int .i64 d7] 70)).alloc (.cells #[.int .u8 0, .int .u8 0, .int .u8 0, .int .u8 0, .int .u8 0, .int .u8 0, .int .u8 0, .int .u8 0] 65)) 65 [.int .u8 0, .int .u8 0, .int .u8 0, .int .u8 0, .int .u8 0, .int .u8 0, .int .u8 0, .int .u8 0]
  simp only [World.size_alloc] at rP rR rD
  have hi := Try.infoParts
  have hd := Try.infoDigits8
  obtain ⟨hv1, hv2⟩ := hasR_out hR
  obtain ⟨hz1, _, _⟩ := okM_out hv1
  have hn8 : n ≤ 8 := by have := (okL_in hz1).1; omega
  have HZ := hid (okL_in hz1).2
  have HQ := hid hv2
  have HN := hid hn
  obtain ⟨p0, p1⟩ := M.cells
  have hS0 := hS.1; have hG0 := hJ.1
  clear hS hJ bel1 hn hR hv1 hv2 hz1
  go_enter Try.func42, Try.ntmps42
  go_wp2_with fail
  clear p0 p1
  go_loopw [13] (fun i wr => ∃ k : Nat, k ≤ n ∧ i = .int .i64 k ∧ MoAt wr w.heap.size b n cap g m cap' zs js ∧ Row wr (w.heap.size + 1) 70 [.int .i64 d0, .int .i64 d1, .int .i64 d2, .int .i64 d3, .int .i64 d4, .int .i64 d5, .int .i64 d6, .int .i64 d7] ∧ Row wr (w.heap.size + 1 + 1) 65 [.int .u8 0, .int .u8 0, .int .u8 0, .int .u8 0, .int .u8 0, .int .u8 0, .int .u8 0, .int .u8 0] ∧ Row wr (w.heap.size + 1 + 1 + 1) 65 (rdV 0 zs [d0, d1, d2, d3, d4, d5, d6, d7] k) ∧ Below w.heap.size w wr) (fun i _ => n - (intOf i).toNat)
  case atStart => exact ⟨0, Nat.zero_le _, rfl, M, rP, rR, by rw [rdV_zero]; exact rD, hB⟩
  case round =>
    clear M rP rR rD hB
    obtain ⟨k, hk, rfl, M, rP, rR, rD, hB⟩ := hrel
    by_cases hlt : k < n
    · have hkz : k < zs.length := by rw [← HN.out]; exact hlt
      have hk8 : k < 8 := by omega
      have xz := M.2.1.2.1 k hkz
      have hzb := HZ.out k hkz
      have hdb := okPs_out HQ.out k hk8
      rw [endP_low hkz] at hdb
      have hX0 : rdX 0 zs [d0, d1, d2, d3, d4, d5, d6, d7] k = eyF 0 ([d0, d1, d2, d3, d4, d5, d6, d7][k]?.getD 0) % zs[k]?.getD 0 := rfl
      obtain ⟨z, hz⟩ : ∃ z, z = zs[k]?.getD 0 := ⟨_, rfl⟩
      obtain ⟨d, hdd⟩ : ∃ d, d = [d0, d1, d2, d3, d4, d5, d6, d7][k]?.getD 0 := ⟨_, rfl⟩
      rw [← hz] at xz hzb hdb hX0
      rw [← hdd] at hdb hX0
      have hv := eyF_bd 0 d z hzb hdb
      have HC := hid (fun w => passed_any d0 d1 d2 d3 d4 d5 d6 d7 k d w hk8 hdd ⟨hdb.1, by omega⟩)
      obtain ⟨v, hvv⟩ : ∃ v, v = eyF 0 d := ⟨_, rfl⟩
      rw [← hvv] at hv hX0 HC
      have HX := hid hX0
      have hz2 := hzb.1
      have hz9 := hzb.2
      have hv0 := hv.1
      have hv9 := hv.2
      have hm0 : 0 ≤ v % z := Int.emod_nonneg _ (by omega)
      have hm9 : v % z < z := Int.emod_lt_of_pos _ (by omega)
      have hm99 : v % z ≤ 255 := by omega
      have hk0 : (k : Int) < 8 := by omega
      have hlt0 : (k : Int) < (n : Int) := by omega
      have HM := hid M; have HP := hid rP; have HR := hid rR; have HD := hid rD; have HB := hid hB
      have hzr := hB.size
      have l3 := rD.lt
      clear hX0 hdd hz hzb hdb hvv hv M rP rR rD hB hkz
      go_wp2_with ((with_reducible refine wpList_load_row rfl 70 _ rfl (w.heap.size + 1) ?_ 70 ([.int .i64 d0, .int .i64 d1, .int .i64 d2, .int .i64 d3, .int .i64 d4, .int .i64 d5, .int .i64 d6, .int .i64 d7] : List Value).toArray (0, 0) _ ?_ Try.underlying70 ?_ ?_ ?_); rfl; exact HP.out; rfl; exact hi)
      with_reducible refine (HC.out _).mono ?_
      rintro e w1 ⟨rfl, hC⟩
      clear xz
      have M := HM.out.keep hC
      have rP := HP.out.below hC HP.out.lt
      have rR := HR.out.below hC HR.out.lt
      have rD := HD.out.below hC HD.out.lt
      have hB := HB.out.trans (hC.mono hzr)
      have o1 := (rD.cell k).trans (rdV_at 0 zs [d0, d1, d2, d3, d4, d5, d6, d7] k hk8)
      have f1 := rD.frozen k
      have hX : Below (w.heap.size + 1 + 1 + 1) w1 (w1.setCell ⟨w.heap.size + 1 + 1 + 1, k, none⟩ (.int .u8 (v % z))) := (Below.refl _ _).setCell (p := ⟨w.heap.size + 1 + 1 + 1, k, none⟩) (Nat.le_refl _) _
      have SD := rD.set k (.int .u8 (rdX 0 zs [d0, d1, d2, d3, d4, d5, d6, d7] k))
      rw [rdV_set 0 zs [d0, d1, d2, d3, d4, d5, d6, d7] k hk8, HX.out] at SD
      have SP := rP.other (a := ⟨w.heap.size + 1 + 1 + 1, k, none⟩) (by first | (simp; done) | (simp; omega)) (.int .u8 (v % z))
      have SR := rR.other (a := ⟨w.heap.size + 1 + 1 + 1, k, none⟩) (by simp) (.int .u8 (v % z))
      have SM : MoAt (w1.setCell ⟨w.heap.size + 1 + 1 + 1, k, none⟩ (.int .u8 (v % z))) w.heap.size b n cap g m cap' zs js := ⟨M.1.other (by first | (simp; done) | (simp; omega)) _, M.2.1.below hX (by have := hS0; omega), M.2.2.below hX (by have := hG0; omega)⟩
      have SB := hB.trans (hX.mono (by omega))
      clear M rP rR rD hB hX hC
      go_wp2_with fail
      go_roundw
      case rel => exact ⟨k + 1, by omega, by go_num, SM, SP, SR, SD, SB⟩
      case measure => simp [intOf]; omega
    · obtain rfl : n = k := by omega
      have T1 := rR.there (rdV 0 zs [d0, d1, d2, d3, d4, d5, d6, d7] n).toArray.size (by simp [rdV])
      have R1 := hid (rR.setCells (ys := rdV 0 zs [d0, d1, d2, d3, d4, d5, d6, d7] n) (by simp [rdV]))
      have SB := hid (below_setCells (rdV 0 zs [d0, d1, d2, d3, d4, d5, d6, d7] n) 0 _ hB (g := w.heap.size + 1 + 1) (by omega))
      have HD := hid rD
      have hd8 : (Try.prog.info? 65).map (·.size) = some (rdV 0 zs [d0, d1, d2, d3, d4, d5, d6, d7] n).toArray.size := by rw [hd]; simp [rdV]
      clear M rP rR rD hB
      go_wp2_with (first | ((with_reducible refine wpList_store_mid rfl 65 _ _ rfl (w.heap.size + 1 + 1) 0 (rdV 0 zs [d0, d1, d2, d3, d4, d5, d6, d7] n : List Value).toArray ?_ ?_ ?_ ?_ (all_oneCell_toArray (one_of8 (ints_rd _ _ _ _))) ?_); rfl; rfl; exact T1; exact hd8) | ((with_reducible refine wpList_load_row rfl 65 _ rfl (w.heap.size + 1 + 1 + 1) ?_ 65 (rdV 0 zs [d0, d1, d2, d3, d4, d5, d6, d7] n : List Value).toArray (0, 0) _ ?_ Try.underlying65 ?_ ?_ ?_); rfl; exact HD.out; rfl; exact hd8))
      exact bodyPost_ret (v := .agg (rdV 0 zs [d0, d1, d2, d3, d4, d5, d6, d7] n).toArray) (results_cell_row (fn := Try.f42) rfl _ _ _ _ _ (0, 0) _ rfl R1.out Try.underlying65 rfl hd8) rfl ⟨rfl, SB.out⟩
set_option maxRecDepth 100000 in
set_option maxHeartbeats 1000000 in
theorem reads_one (b n cap g m cap' : Nat) (zs : List Int) (js : List (Int × Int)) (d0 d1 d2 d3 d4 d5 d6 d7 : Int) (w : World) (hS : Stk w b zs) (hJ : Jst w g js) (hn : n = zs.length) (hR : hasR zs js [d0, d1, d2, d3, d4, d5, d6, d7] = true) :
    Calls Try.prog 42 #[.agg #[.slice (some ⟨b, 0, none⟩) n cap, .slice (some ⟨g, 0, none⟩) m cap'], .agg ([.int .i64 d0, .int .i64 d1, .int .i64 d2, .int .i64 d3, .int .i64 d4, .int .i64 d5, .int .i64 d6, .int .i64 d7] : List Value).toArray, .func (Fn.func 40) #[] #[]] w fun e w' => e = .returned (.agg (rdV 1 zs [d0, d1, d2, d3, d4, d5, d6, d7] n).toArray) ∧ Below w.heap.size w w' := by
  have bel1 : Below (w.alloc (.cells #[.slice (some ⟨b, 0, none⟩) n cap, .slice (some ⟨g, 0, none⟩) m cap'] 33)).heap.size (w.alloc (.cells #[.slice (some ⟨b, 0, none⟩) n cap, .slice (some ⟨g, 0, none⟩) m cap'] 33)) ((((w.alloc (.cells #[.slice (some ⟨b, 0, none⟩) n cap, .slice (some ⟨g, 0, none⟩) m cap'] 33)).alloc (.cells #[.int .i64 d0, .int .i64 d1, .int .i64 d2, .int .i64 d3, .int .i64 d4, .int .i64 d5, .int .i64 d6, .int .i64 d7] 70)).alloc (.cells #[.int .u8 0, .int .u8 0, .int .u8 0, .int .u8 0, .int .u8 0, .int .u8 0, .int .u8 0, .int .u8 0] 65)).alloc (.cells #[.int .u8 0, .int .u8 0, .int .u8 0, .int .u8 0, .int .u8 0, .int .u8 0, .int .u8 0, .int .u8 0] 65)) := (((Below.refl _ _).alloc (Nat.le_refl _) _).alloc (by simp) _).alloc (by first | (simp; done) | (simp; omega)) _
  have hB : Below w.heap.size w ((((w.alloc (.cells #[.slice (some ⟨b, 0, none⟩) n cap, .slice (some ⟨g, 0, none⟩) m cap'] 33)).alloc (.cells #[.int .i64 d0, .int .i64 d1, .int .i64 d2, .int .i64 d3, .int .i64 d4, .int .i64 d5, .int .i64 d6, .int .i64 d7] 70)).alloc (.cells #[.int .u8 0, .int .u8 0, .int .u8 0, .int .u8 0, .int .u8 0, .int .u8 0, .int .u8 0, .int .u8 0] 65)).alloc (.cells #[.int .u8 0, .int .u8 0, .int .u8 0, .int .u8 0, .int .u8 0, .int .u8 0, .int .u8 0, .int .u8 0] 65)) := ((((Below.refl _ _).alloc (Nat.le_refl _) _).alloc (by simp) _).alloc (by first | (simp; done) | (simp; omega)) _).alloc (by first | (simp; done) | (simp; omega)) _
  have M := (MoAt.new w b n cap g m cap' zs js hS hJ).keep bel1
  have rP := ((Row.new (w.alloc (.cells #[.slice (some ⟨b, 0, none⟩) n cap, .slice (some ⟨g, 0, none⟩) m cap'] 33)) 70 [.int .i64 d0, .int .i64 d1, .int .i64 d2, .int .i64 d3, .int .i64 d4, .int .i64 d5, .int .i64 d6, .int .i64 d7]).alloc (.cells #[.int .u8 0, .int .u8 0, .int .u8 0, .int .u8 0, .int .u8 0, .int .u8 0, .int .u8 0, .int .u8 0] 65)).alloc (.cells #[.int .u8 0, .int .u8 0, .int .u8 0, .int .u8 0, .int .u8 0, .int .u8 0, .int .u8 0, .int .u8 0] 65)
  have rR := (Row.new ((w.alloc (.cells #[.slice (some ⟨b, 0, none⟩) n cap, .slice (some ⟨g, 0, none⟩) m cap'] 33)).alloc (.cells #[.int .i64 d0, .int .i64 d1, .int .i64 d2, .int .i64 d3, .int .i64 d4, .int .i64 d5, .int .i64 d6, .int .i64 d7] 70)) 65 [.int .u8 0, .int .u8 0, .int .u8 0, .int .u8 0, .int .u8 0, .int .u8 0, .int .u8 0, .int .u8 0]).alloc (.cells #[.int .u8 0, .int .u8 0, .int .u8 0, .int .u8 0, .int .u8 0, .int .u8 0, .int .u8 0, .int .u8 0] 65)
  have rD := Row.new (((w.alloc (.cells #[.slice (some ⟨b, 0, none⟩) n cap, .slice (some ⟨g, 0, none⟩) m cap'] 33)).alloc (.cells #[.int .i64 d0, .int .i64 d1, .int .i64 d2, .int .i64 d3, .int .i64 d4, .int .i64 d5, .int .i64 d6, .int .i64 d7] 70)).alloc (.cells #[.int .u8 0, .int .u8 0, .int .u8 0, .int .u8 0, .int .u8 0, .int .u8 0, .int .u8 0, .int .u8 0] 65)) 65 [.int .u8 0, .int .u8 0, .int .u8 0, .int .u8 0, .int .u8 0, .int .u8 0, .int .u8 0, .int .u8 0]
  simp only [World.size_alloc] at rP rR rD
  have hi := Try.infoParts
  have hd := Try.infoDigits8
  obtain ⟨hv1, hv2⟩ := hasR_out hR
  obtain ⟨hz1, _, _⟩ := okM_out hv1
  have hn8 : n ≤ 8 := by have := (okL_in hz1).1; omega
  have HZ := hid (okL_in hz1).2
  have HQ := hid hv2
  have HN := hid hn
  obtain ⟨p0, p1⟩ := M.cells
  have hS0 := hS.1; have hG0 := hJ.1
  clear hS hJ bel1 hn hR hv1 hv2 hz1
  go_enter Try.func42, Try.ntmps42
  go_wp2_with fail
  clear p0 p1
  go_loopw [13] (fun i wr => ∃ k : Nat, k ≤ n ∧ i = .int .i64 k ∧ MoAt wr w.heap.size b n cap g m cap' zs js ∧ Row wr (w.heap.size + 1) 70 [.int .i64 d0, .int .i64 d1, .int .i64 d2, .int .i64 d3, .int .i64 d4, .int .i64 d5, .int .i64 d6, .int .i64 d7] ∧ Row wr (w.heap.size + 1 + 1) 65 [.int .u8 0, .int .u8 0, .int .u8 0, .int .u8 0, .int .u8 0, .int .u8 0, .int .u8 0, .int .u8 0] ∧ Row wr (w.heap.size + 1 + 1 + 1) 65 (rdV 1 zs [d0, d1, d2, d3, d4, d5, d6, d7] k) ∧ Below w.heap.size w wr) (fun i _ => n - (intOf i).toNat)
  case atStart => exact ⟨0, Nat.zero_le _, rfl, M, rP, rR, by rw [rdV_zero]; exact rD, hB⟩
  case round =>
    clear M rP rR rD hB
    obtain ⟨k, hk, rfl, M, rP, rR, rD, hB⟩ := hrel
    by_cases hlt : k < n
    · have hkz : k < zs.length := by rw [← HN.out]; exact hlt
      have hk8 : k < 8 := by omega
      have xz := M.2.1.2.1 k hkz
      have hzb := HZ.out k hkz
      have hdb := okPs_out HQ.out k hk8
      rw [endP_low hkz] at hdb
      have hX0 : rdX 1 zs [d0, d1, d2, d3, d4, d5, d6, d7] k = eyF 1 ([d0, d1, d2, d3, d4, d5, d6, d7][k]?.getD 0) % zs[k]?.getD 0 := rfl
      obtain ⟨z, hz⟩ : ∃ z, z = zs[k]?.getD 0 := ⟨_, rfl⟩
      obtain ⟨d, hdd⟩ : ∃ d, d = [d0, d1, d2, d3, d4, d5, d6, d7][k]?.getD 0 := ⟨_, rfl⟩
      rw [← hz] at xz hzb hdb hX0
      rw [← hdd] at hdb hX0
      have hv := eyF_bd 1 d z hzb hdb
      have HC := hid (fun w => nearest_any d0 d1 d2 d3 d4 d5 d6 d7 k d w hk8 hdd ⟨hdb.1, by omega⟩)
      obtain ⟨v, hvv⟩ : ∃ v, v = eyF 1 d := ⟨_, rfl⟩
      rw [← hvv] at hv hX0 HC
      have HX := hid hX0
      have hz2 := hzb.1
      have hz9 := hzb.2
      have hv0 := hv.1
      have hv9 := hv.2
      have hm0 : 0 ≤ v % z := Int.emod_nonneg _ (by omega)
      have hm9 : v % z < z := Int.emod_lt_of_pos _ (by omega)
      have hm99 : v % z ≤ 255 := by omega
      have hk0 : (k : Int) < 8 := by omega
      have hlt0 : (k : Int) < (n : Int) := by omega
      have HM := hid M; have HP := hid rP; have HR := hid rR; have HD := hid rD; have HB := hid hB
      have hzr := hB.size
      have l3 := rD.lt
      clear hX0 hdd hz hzb hdb hvv hv M rP rR rD hB hkz
      go_wp2_with ((with_reducible refine wpList_load_row rfl 70 _ rfl (w.heap.size + 1) ?_ 70 ([.int .i64 d0, .int .i64 d1, .int .i64 d2, .int .i64 d3, .int .i64 d4, .int .i64 d5, .int .i64 d6, .int .i64 d7] : List Value).toArray (0, 0) _ ?_ Try.underlying70 ?_ ?_ ?_); rfl; exact HP.out; rfl; exact hi)
      with_reducible refine (HC.out _).mono ?_
      rintro e w1 ⟨rfl, hC⟩
      clear xz
      have M := HM.out.keep hC
      have rP := HP.out.below hC HP.out.lt
      have rR := HR.out.below hC HR.out.lt
      have rD := HD.out.below hC HD.out.lt
      have hB := HB.out.trans (hC.mono hzr)
      have o1 := (rD.cell k).trans (rdV_at 1 zs [d0, d1, d2, d3, d4, d5, d6, d7] k hk8)
      have f1 := rD.frozen k
      have hX : Below (w.heap.size + 1 + 1 + 1) w1 (w1.setCell ⟨w.heap.size + 1 + 1 + 1, k, none⟩ (.int .u8 (v % z))) := (Below.refl _ _).setCell (p := ⟨w.heap.size + 1 + 1 + 1, k, none⟩) (Nat.le_refl _) _
      have SD := rD.set k (.int .u8 (rdX 1 zs [d0, d1, d2, d3, d4, d5, d6, d7] k))
      rw [rdV_set 1 zs [d0, d1, d2, d3, d4, d5, d6, d7] k hk8, HX.out] at SD
      have SP := rP.other (a := ⟨w.heap.size + 1 + 1 + 1, k, none⟩) (by first | (simp; done) | (simp; omega)) (.int .u8 (v % z))
      have SR := rR.other (a := ⟨w.heap.size + 1 + 1 + 1, k, none⟩) (by simp) (.int .u8 (v % z))
      have SM : MoAt (w1.setCell ⟨w.heap.size + 1 + 1 + 1, k, none⟩ (.int .u8 (v % z))) w.heap.size b n cap g m cap' zs js := ⟨M.1.other (by first | (simp; done) | (simp; omega)) _, M.2.1.below hX (by have := hS0; omega), M.2.2.below hX (by have := hG0; omega)⟩
      have SB := hB.trans (hX.mono (by omega))
      clear M rP rR rD hB hX hC
      go_wp2_with fail
      go_roundw
      case rel => exact ⟨k + 1, by omega, by go_num, SM, SP, SR, SD, SB⟩
      case measure => simp [intOf]; omega
    · obtain rfl : n = k := by omega
      have T1 := rR.there (rdV 1 zs [d0, d1, d2, d3, d4, d5, d6, d7] n).toArray.size (by simp [rdV])
      have R1 := hid (rR.setCells (ys := rdV 1 zs [d0, d1, d2, d3, d4, d5, d6, d7] n) (by simp [rdV]))
      have SB := hid (below_setCells (rdV 1 zs [d0, d1, d2, d3, d4, d5, d6, d7] n) 0 _ hB (g := w.heap.size + 1 + 1) (by omega))
      have HD := hid rD
      have hd8 : (Try.prog.info? 65).map (·.size) = some (rdV 1 zs [d0, d1, d2, d3, d4, d5, d6, d7] n).toArray.size := by rw [hd]; simp [rdV]
      clear M rP rR rD hB
      go_wp2_with (first | ((with_reducible refine wpList_store_mid rfl 65 _ _ rfl (w.heap.size + 1 + 1) 0 (rdV 1 zs [d0, d1, d2, d3, d4, d5, d6, d7] n : List Value).toArray ?_ ?_ ?_ ?_ (all_oneCell_toArray (one_of8 (ints_rd _ _ _ _))) ?_); rfl; rfl; exact T1; exact hd8) | ((with_reducible refine wpList_load_row rfl 65 _ rfl (w.heap.size + 1 + 1 + 1) ?_ 65 (rdV 1 zs [d0, d1, d2, d3, d4, d5, d6, d7] n : List Value).toArray (0, 0) _ ?_ Try.underlying65 ?_ ?_ ?_); rfl; exact HD.out; rfl; exact hd8))
      exact bodyPost_ret (v := .agg (rdV 1 zs [d0, d1, d2, d3, d4, d5, d6, d7] n).toArray) (results_cell_row (fn := Try.f42) rfl _ _ _ _ _ (0, 0) _ rfl R1.out Try.underlying65 rfl hd8) rfl ⟨rfl, SB.out⟩
set_option maxRecDepth 100000 in
set_option maxHeartbeats 1500000 in
theorem l02Reads_zero (B b n cap g m cap' : Nat) (zs : List Int) (js : List (Int × Int)) (d0 d1 d2 d3 d4 d5 d6 d7 : Int) (w : World) (hM : MoAt w B b n cap g m cap' zs js) (hn : n = zs.length) (hR : hasR zs js [d0, d1, d2, d3, d4, d5, d6, d7] = true) :
    Calls Try.prog 34 #[.pointer (some ⟨B, 0, none⟩), .agg ([.int .i64 d0, .int .i64 d1, .int .i64 d2, .int .i64 d3, .int .i64 d4, .int .i64 d5, .int .i64 d6, .int .i64 d7] : List Value).toArray, .int .i64 0] w fun e w' => e = .returned (.agg (rdV 0 zs [d0, d1, d2, d3, d4, d5, d6, d7] n).toArray) ∧ Below w.heap.size w w' := by
  have hB : Below w.heap.size w (((w.alloc (.cells #[.int .i64 d0, .int .i64 d1, .int .i64 d2, .int .i64 d3, .int .i64 d4, .int .i64 d5, .int .i64 d6, .int .i64 d7] 70)).alloc (.cells #[.int .u8 0, .int .u8 0, .int .u8 0, .int .u8 0, .int .u8 0, .int .u8 0, .int .u8 0, .int .u8 0] 65)).alloc (.cells #[.int .u8 0, .int .u8 0, .int .u8 0, .int .u8 0, .int .u8 0, .int .u8 0, .int .u8 0, .int .u8 0] 65)) := (((Below.refl _ _).alloc (Nat.le_refl _) _).alloc (by simp) _).alloc (by first | (simp; done) | (simp; omega)) _
  have M := hM.keep hB
  have rP := ((Row.new w 70 [.int .i64 d0, .int .i64 d1, .int .i64 d2, .int .i64 d3, .int .i64 d4, .int .i64 d5, .int .i64 d6, .int .i64 d7]).alloc (.cells #[.int .u8 0, .int .u8 0, .int .u8 0, .int .u8 0, .int .u8 0, .int .u8 0, .int .u8 0, .int .u8 0] 65)).alloc (.cells #[.int .u8 0, .int .u8 0, .int .u8 0, .int .u8 0, .int .u8 0, .int .u8 0, .int .u8 0, .int .u8 0] 65)
  have rR := (Row.new (w.alloc (.cells #[.int .i64 d0, .int .i64 d1, .int .i64 d2, .int .i64 d3, .int .i64 d4, .int .i64 d5, .int .i64 d6, .int .i64 d7] 70)) 65 [.int .u8 0, .int .u8 0, .int .u8 0, .int .u8 0, .int .u8 0, .int .u8 0, .int .u8 0, .int .u8 0]).alloc (.cells #[.int .u8 0, .int .u8 0, .int .u8 0, .int .u8 0, .int .u8 0, .int .u8 0, .int .u8 0, .int .u8 0] 65)
  have rD := Row.new ((w.alloc (.cells #[.int .i64 d0, .int .i64 d1, .int .i64 d2, .int .i64 d3, .int .i64 d4, .int .i64 d5, .int .i64 d6, .int .i64 d7] 70)).alloc (.cells #[.int .u8 0, .int .u8 0, .int .u8 0, .int .u8 0, .int .u8 0, .int .u8 0, .int .u8 0, .int .u8 0] 65)) 65 [.int .u8 0, .int .u8 0, .int .u8 0, .int .u8 0, .int .u8 0, .int .u8 0, .int .u8 0, .int .u8 0]
  simp only [World.size_alloc] at rR rD
  have hd := Try.infoDigits8
  obtain ⟨hv1, hv2⟩ := hasR_out hR
  obtain ⟨hz1, _, _⟩ := okM_out hv1
  have hn8 : n ≤ 8 := by have := (okL_in hz1).1; omega
  have HZ := hid (okL_in hz1).2
  have HQ := hid hv2
  have HN := hid hn
  have lB := hM.1.lt
  have hS0 := hM.2.1.1
  have hG0 := hM.2.2.1
  clear hM hn hR hv1 hv2 hz1
  go_enter Try.func34, Try.ntmps34
  go_wp2_with fail
  go_loopw [8, 9] (fun i _ wr => ∃ k : Nat, k ≤ n ∧ i = .int .i64 k ∧ MoAt wr B b n cap g m cap' zs js ∧ Row wr w.heap.size 70 [.int .i64 d0, .int .i64 d1, .int .i64 d2, .int .i64 d3, .int .i64 d4, .int .i64 d5, .int .i64 d6, .int .i64 d7] ∧ Row wr (w.heap.size + 1) 65 [.int .u8 0, .int .u8 0, .int .u8 0, .int .u8 0, .int .u8 0, .int .u8 0, .int .u8 0, .int .u8 0] ∧ Row wr (w.heap.size + 1 + 1) 65 (rdV 0 zs [d0, d1, d2, d3, d4, d5, d6, d7] k) ∧ Below w.heap.size w wr) (fun i _ _ => n - (intOf i).toNat)
  case atStart => exact ⟨0, Nat.zero_le _, rfl, M, rP, rR, by rw [rdV_zero]; exact rD, hB⟩
  case round =>
    clear M rP rR rD hB
    obtain ⟨k, hk, rfl, M, rP, rR, rD, hB⟩ := hrel
    obtain ⟨p0, p1⟩ := M.cells
    by_cases hlt : k < n
    · have hkz : k < zs.length := by rw [← HN.out]; exact hlt
      have hk8 : k < 8 := by omega
      have xz := M.2.1.2.1 k hkz
      have xk := (rP.cell k).trans (dp_at d0 d1 d2 d3 d4 d5 d6 d7 k hk8)
      have hzb := HZ.out k hkz
      have hdb := okPs_out HQ.out k hk8
      rw [endP_low hkz] at hdb
      have hX0 : rdX 0 zs [d0, d1, d2, d3, d4, d5, d6, d7] k = eyF 0 ([d0, d1, d2, d3, d4, d5, d6, d7][k]?.getD 0) % zs[k]?.getD 0 := rfl
      obtain ⟨z, hz⟩ : ∃ z, z = zs[k]?.getD 0 := ⟨_, rfl⟩
      obtain ⟨d, hdd⟩ : ∃ d, d = [d0, d1, d2, d3, d4, d5, d6, d7][k]?.getD 0 := ⟨_, rfl⟩
      rw [← hz] at xz hzb hdb hX0
      rw [← hdd] at xk hdb hX0
      rw [eyF_zero d z hzb hdb] at hX0
      have HX := hid hX0
      have hz2 := hzb.1
      have hz9 := hzb.2
      have hd0 := hdb.1
      have hd9 := hdb.2
      have hv0 : 0 ≤ d / 1000 := by omega
      have hv9 : d / 1000 ≤ 255 := by omega
      
      
      
      
      
      
      
      
      have hk0 : (0 : Int) ≤ (k : Int) := by omega
      have hk80 : (k : Int) < 8 := by omega
      have hlt0 : (k : Int) < (n : Int) := by omega
      have o1 := (rD.cell k).trans (rdV_at 0 zs [d0, d1, d2, d3, d4, d5, d6, d7] k hk8)
      have f1 := rD.frozen k
      have hX : Below (w.heap.size + 1 + 1) wr (wr.setCell ⟨w.heap.size + 1 + 1, k, none⟩ (.int .u8 (d / 1000))) := (Below.refl _ _).setCell (p := ⟨w.heap.size + 1 + 1, k, none⟩) (Nat.le_refl _) _
      have SD0 := rD.set k (.int .u8 (rdX 0 zs [d0, d1, d2, d3, d4, d5, d6, d7] k))
      rw [rdV_set 0 zs [d0, d1, d2, d3, d4, d5, d6, d7] k hk8, HX.out] at SD0
      have SD : Row (wr.setCell ⟨w.heap.size + 1 + 1, k, none⟩ (.int .u8 (d / 1000))) (w.heap.size + 1 + 1) 65 (rdV 0 zs [d0, d1, d2, d3, d4, d5, d6, d7] (k + 1)) := SD0
      have SP : Row (wr.setCell ⟨w.heap.size + 1 + 1, k, none⟩ (.int .u8 (d / 1000))) w.heap.size 70 [.int .i64 d0, .int .i64 d1, .int .i64 d2, .int .i64 d3, .int .i64 d4, .int .i64 d5, .int .i64 d6, .int .i64 d7] := rP.below hX (by omega)
      have SR : Row (wr.setCell ⟨w.heap.size + 1 + 1, k, none⟩ (.int .u8 (d / 1000))) (w.heap.size + 1) 65 [.int .u8 0, .int .u8 0, .int .u8 0, .int .u8 0, .int .u8 0, .int .u8 0, .int .u8 0, .int .u8 0] := rR.below hX (by omega)
      have SM : MoAt (wr.setCell ⟨w.heap.size + 1 + 1, k, none⟩ (.int .u8 (d / 1000))) B b n cap g m cap' zs js := M.below hX (by omega) (by omega) (by omega)
      have SB : Below w.heap.size w (wr.setCell ⟨w.heap.size + 1 + 1, k, none⟩ (.int .u8 (d / 1000))) := hB.trans (hX.mono (by omega))
      clear SD0 hX0 hdd hz hzb hdb M rP rR rD hB hkz hX p1
      go_wp2_with fail
      
      go_roundw
      case rel => exact ⟨k + 1, by omega, by go_num, SM, SP, SR, SD, SB⟩
      case measure => simp [intOf]; omega
    · obtain rfl : n = k := by omega
      have T1 := rR.there (rdV 0 zs [d0, d1, d2, d3, d4, d5, d6, d7] n).toArray.size (by simp [rdV])
      have R1 := hid (rR.setCells (ys := rdV 0 zs [d0, d1, d2, d3, d4, d5, d6, d7] n) (by simp [rdV]))
      have SB := hid (below_setCells (rdV 0 zs [d0, d1, d2, d3, d4, d5, d6, d7] n) 0 _ hB (g := w.heap.size + 1) (by omega))
      have HD := hid rD
      have hd8 : (Try.prog.info? 65).map (·.size) = some (rdV 0 zs [d0, d1, d2, d3, d4, d5, d6, d7] n).toArray.size := by rw [hd]; simp [rdV]
      clear M rP rR rD hB
      go_wp2_with (first | ((with_reducible refine wpList_store_mid rfl 65 _ _ rfl (w.heap.size + 1) 0 (rdV 0 zs [d0, d1, d2, d3, d4, d5, d6, d7] n : List Value).toArray ?_ ?_ ?_ ?_ (all_oneCell_toArray (one_of8 (ints_rd _ _ _ _))) ?_); rfl; rfl; exact T1; exact hd8) | ((with_reducible refine wpList_load_row rfl 65 _ rfl (w.heap.size + 1 + 1) ?_ 65 (rdV 0 zs [d0, d1, d2, d3, d4, d5, d6, d7] n : List Value).toArray (0, 0) _ ?_ Try.underlying65 ?_ ?_ ?_); rfl; exact HD.out; rfl; exact hd8))
      exact bodyPost_ret (v := .agg (rdV 0 zs [d0, d1, d2, d3, d4, d5, d6, d7] n).toArray) (results_cell_row (fn := Try.f34) rfl _ _ _ _ _ (0, 0) _ rfl R1.out Try.underlying65 rfl hd8) rfl ⟨rfl, SB.out⟩
set_option maxRecDepth 100000 in
set_option maxHeartbeats 1500000 in
theorem l02Reads_one (B b n cap g m cap' : Nat) (zs : List Int) (js : List (Int × Int)) (d0 d1 d2 d3 d4 d5 d6 d7 : Int) (w : World) (hM : MoAt w B b n cap g m cap' zs js) (hn : n = zs.length) (hR : hasR zs js [d0, d1, d2, d3, d4, d5, d6, d7] = true) :
    Calls Try.prog 34 #[.pointer (some ⟨B, 0, none⟩), .agg ([.int .i64 d0, .int .i64 d1, .int .i64 d2, .int .i64 d3, .int .i64 d4, .int .i64 d5, .int .i64 d6, .int .i64 d7] : List Value).toArray, .int .i64 1] w fun e w' => e = .returned (.agg (rdV 1 zs [d0, d1, d2, d3, d4, d5, d6, d7] n).toArray) ∧ Below w.heap.size w w' := by
  have hB : Below w.heap.size w (((w.alloc (.cells #[.int .i64 d0, .int .i64 d1, .int .i64 d2, .int .i64 d3, .int .i64 d4, .int .i64 d5, .int .i64 d6, .int .i64 d7] 70)).alloc (.cells #[.int .u8 0, .int .u8 0, .int .u8 0, .int .u8 0, .int .u8 0, .int .u8 0, .int .u8 0, .int .u8 0] 65)).alloc (.cells #[.int .u8 0, .int .u8 0, .int .u8 0, .int .u8 0, .int .u8 0, .int .u8 0, .int .u8 0, .int .u8 0] 65)) := (((Below.refl _ _).alloc (Nat.le_refl _) _).alloc (by simp) _).alloc (by first | (simp; done) | (simp; omega)) _
  have M := hM.keep hB
  have rP := ((Row.new w 70 [.int .i64 d0, .int .i64 d1, .int .i64 d2, .int .i64 d3, .int .i64 d4, .int .i64 d5, .int .i64 d6, .int .i64 d7]).alloc (.cells #[.int .u8 0, .int .u8 0, .int .u8 0, .int .u8 0, .int .u8 0, .int .u8 0, .int .u8 0, .int .u8 0] 65)).alloc (.cells #[.int .u8 0, .int .u8 0, .int .u8 0, .int .u8 0, .int .u8 0, .int .u8 0, .int .u8 0, .int .u8 0] 65)
  have rR := (Row.new (w.alloc (.cells #[.int .i64 d0, .int .i64 d1, .int .i64 d2, .int .i64 d3, .int .i64 d4, .int .i64 d5, .int .i64 d6, .int .i64 d7] 70)) 65 [.int .u8 0, .int .u8 0, .int .u8 0, .int .u8 0, .int .u8 0, .int .u8 0, .int .u8 0, .int .u8 0]).alloc (.cells #[.int .u8 0, .int .u8 0, .int .u8 0, .int .u8 0, .int .u8 0, .int .u8 0, .int .u8 0, .int .u8 0] 65)
  have rD := Row.new ((w.alloc (.cells #[.int .i64 d0, .int .i64 d1, .int .i64 d2, .int .i64 d3, .int .i64 d4, .int .i64 d5, .int .i64 d6, .int .i64 d7] 70)).alloc (.cells #[.int .u8 0, .int .u8 0, .int .u8 0, .int .u8 0, .int .u8 0, .int .u8 0, .int .u8 0, .int .u8 0] 65)) 65 [.int .u8 0, .int .u8 0, .int .u8 0, .int .u8 0, .int .u8 0, .int .u8 0, .int .u8 0, .int .u8 0]
  simp only [World.size_alloc] at rR rD
  have hd := Try.infoDigits8
  obtain ⟨hv1, hv2⟩ := hasR_out hR
  obtain ⟨hz1, _, _⟩ := okM_out hv1
  have hn8 : n ≤ 8 := by have := (okL_in hz1).1; omega
  have HZ := hid (okL_in hz1).2
  have HQ := hid hv2
  have HN := hid hn
  have lB := hM.1.lt
  have hS0 := hM.2.1.1
  have hG0 := hM.2.2.1
  clear hM hn hR hv1 hv2 hz1
  go_enter Try.func34, Try.ntmps34
  go_wp2_with fail
  go_loopw [8, 9] (fun i _ wr => ∃ k : Nat, k ≤ n ∧ i = .int .i64 k ∧ MoAt wr B b n cap g m cap' zs js ∧ Row wr w.heap.size 70 [.int .i64 d0, .int .i64 d1, .int .i64 d2, .int .i64 d3, .int .i64 d4, .int .i64 d5, .int .i64 d6, .int .i64 d7] ∧ Row wr (w.heap.size + 1) 65 [.int .u8 0, .int .u8 0, .int .u8 0, .int .u8 0, .int .u8 0, .int .u8 0, .int .u8 0, .int .u8 0] ∧ Row wr (w.heap.size + 1 + 1) 65 (rdV 1 zs [d0, d1, d2, d3, d4, d5, d6, d7] k) ∧ Below w.heap.size w wr) (fun i _ _ => n - (intOf i).toNat)
  case atStart => exact ⟨0, Nat.zero_le _, rfl, M, rP, rR, by rw [rdV_zero]; exact rD, hB⟩
  case round =>
    clear M rP rR rD hB
    obtain ⟨k, hk, rfl, M, rP, rR, rD, hB⟩ := hrel
    obtain ⟨p0, p1⟩ := M.cells
    by_cases hlt : k < n
    · have hkz : k < zs.length := by rw [← HN.out]; exact hlt
      have hk8 : k < 8 := by omega
      have xz := M.2.1.2.1 k hkz
      have xk := (rP.cell k).trans (dp_at d0 d1 d2 d3 d4 d5 d6 d7 k hk8)
      have hzb := HZ.out k hkz
      have hdb := okPs_out HQ.out k hk8
      rw [endP_low hkz] at hdb
      have hX0 : rdX 1 zs [d0, d1, d2, d3, d4, d5, d6, d7] k = eyF 1 ([d0, d1, d2, d3, d4, d5, d6, d7][k]?.getD 0) % zs[k]?.getD 0 := rfl
      obtain ⟨z, hz⟩ : ∃ z, z = zs[k]?.getD 0 := ⟨_, rfl⟩
      obtain ⟨d, hdd⟩ : ∃ d, d = [d0, d1, d2, d3, d4, d5, d6, d7][k]?.getD 0 := ⟨_, rfl⟩
      rw [← hz] at xz hzb hdb hX0
      rw [← hdd] at xk hdb hX0
      rw [eyF_one d z] at hX0
      have HX := hid hX0
      have hz2 := hzb.1
      have hz9 := hzb.2
      have hd0 := hdb.1
      have hd9 := hdb.2
      have hv0 : 0 ≤ (d + 500) / 1000 % z := by exact Int.emod_nonneg _ (by omega)
      have hv9 : (d + 500) / 1000 % z ≤ 255 := by have := Int.emod_lt_of_pos ((d + 500) / 1000) (show 0 < z by omega); omega
      have hq0 : 0 ≤ (d + 500) / 1000 := by omega
      have w1 : IntKind.i64.wrap (d + 500) = d + 500 := IntWalk.i64_in _ (by omega)
      have w2 : IntKind.i64.wrap z = z := IntWalk.i64_in _ (by omega)
      have w4 : (d + 500).tdiv 1000 = (d + 500) / 1000 := Int.tdiv_eq_ediv_of_nonneg (by omega)
      have w5 : ((d + 500) / 1000).tmod z = (d + 500) / 1000 % z := Int.tmod_eq_emod_of_nonneg (by omega)
      have hzz : z ≠ 0 := by omega
      have w6 : IntKind.i64.wrap ((d + 500) / 1000) = (d + 500) / 1000 := IntWalk.i64_in _ (by omega)
      have w7 : IntKind.i64.wrap ((d + 500) / 1000 % z) = (d + 500) / 1000 % z := IntWalk.i64_in _ (by omega)
      have hk0 : (0 : Int) ≤ (k : Int) := by omega
      have hk80 : (k : Int) < 8 := by omega
      have hlt0 : (k : Int) < (n : Int) := by omega
      have o1 := (rD.cell k).trans (rdV_at 1 zs [d0, d1, d2, d3, d4, d5, d6, d7] k hk8)
      have f1 := rD.frozen k
      have hX : Below (w.heap.size + 1 + 1) wr (wr.drew.setCell ⟨w.heap.size + 1 + 1, k, none⟩ (.int .u8 ((d + 500) / 1000 % z))) := (Below.refl _ _).drew.setCell (p := ⟨w.heap.size + 1 + 1, k, none⟩) (Nat.le_refl _) _
      have SD0 := (rD.below (Below.refl (w.heap.size + 1 + 1).succ wr).drew (Nat.lt_succ_self _)).set k (.int .u8 (rdX 1 zs [d0, d1, d2, d3, d4, d5, d6, d7] k))
      rw [rdV_set 1 zs [d0, d1, d2, d3, d4, d5, d6, d7] k hk8, HX.out] at SD0
      have SD : Row (wr.drew.setCell ⟨w.heap.size + 1 + 1, k, none⟩ (.int .u8 ((d + 500) / 1000 % z))) (w.heap.size + 1 + 1) 65 (rdV 1 zs [d0, d1, d2, d3, d4, d5, d6, d7] (k + 1)) := SD0
      have SP : Row (wr.drew.setCell ⟨w.heap.size + 1 + 1, k, none⟩ (.int .u8 ((d + 500) / 1000 % z))) w.heap.size 70 [.int .i64 d0, .int .i64 d1, .int .i64 d2, .int .i64 d3, .int .i64 d4, .int .i64 d5, .int .i64 d6, .int .i64 d7] := rP.below hX (by omega)
      have SR : Row (wr.drew.setCell ⟨w.heap.size + 1 + 1, k, none⟩ (.int .u8 ((d + 500) / 1000 % z))) (w.heap.size + 1) 65 [.int .u8 0, .int .u8 0, .int .u8 0, .int .u8 0, .int .u8 0, .int .u8 0, .int .u8 0, .int .u8 0] := rR.below hX (by omega)
      have SM : MoAt (wr.drew.setCell ⟨w.heap.size + 1 + 1, k, none⟩ (.int .u8 ((d + 500) / 1000 % z))) B b n cap g m cap' zs js := M.below hX (by omega) (by omega) (by omega)
      have SB : Below w.heap.size w (wr.drew.setCell ⟨w.heap.size + 1 + 1, k, none⟩ (.int .u8 ((d + 500) / 1000 % z))) := hB.trans (hX.mono (by omega))
      clear SD0 hX0 hdd hz hzb hdb M rP rR rD hB hkz hX p1
      go_wp2_with fail
      refine wp_region_held (S := fun W' : World => W'.cell? ⟨w.heap.size, k, none⟩ = some (.int .i64 d) ∧ W'.cell? ⟨B, 0, none⟩ = some (.slice (some ⟨b, 0, none⟩) n cap) ∧ W'.cell? ⟨b, k, none⟩ = some (.int .u8 z)) (by kernel_rfl) ?_
      change wpAnyH _ _ _ _ _ _ _ _ (World.drew _)
      have hS0 : (fun W' : World => W'.cell? ⟨w.heap.size, k, none⟩ = some (.int .i64 d) ∧ W'.cell? ⟨B, 0, none⟩ = some (.slice (some ⟨b, 0, none⟩) n cap) ∧ W'.cell? ⟨b, k, none⟩ = some (.int .u8 z)) wr.drew := ⟨xk, p0, xz⟩
      refine wpAnyH_takeD (some 26) (i := 0) (v := ?_) rfl rfl (by kernel_rfl) (by kernel_rfl) (by kernel_rfl) (fun _ _ _ h => h) (.inl ⟨by kernel_rfl, ?_⟩) hS0 ?_
      rotate_left
      · intro w' hw'; obtain ⟨hw1, hw2, hw3⟩ := hw'; go_simp; try with_reducible rfl
      try simp only [Act.put, List.setIfInBounds_toArray, List.set_cons_zero, List.set_cons_succ]
      refine wpAnyH_takeD (some 27) (i := 1) (v := ?_) rfl rfl (by kernel_rfl) (by kernel_rfl) (by kernel_rfl) (fun _ _ _ h => h) (.inl ⟨by kernel_rfl, ?_⟩) hS0 ?_
      rotate_left
      · intro w' hw'; obtain ⟨hw1, hw2, hw3⟩ := hw'; go_simp; try with_reducible rfl
      try simp only [Act.put, List.setIfInBounds_toArray, List.set_cons_zero, List.set_cons_succ]
      refine wpAnyH_takeD (some 28) (i := 2) (v := ?_) rfl rfl (by kernel_rfl) (by kernel_rfl) (by kernel_rfl) (fun _ _ _ h => h) (.inl ⟨by kernel_rfl, ?_⟩) hS0 ?_
      rotate_left
      · intro w' hw'; obtain ⟨hw1, hw2, hw3⟩ := hw'; go_simp; try with_reducible rfl
      try simp only [Act.put, List.setIfInBounds_toArray, List.set_cons_zero, List.set_cons_succ]
      refine wpAnyH_takeD (some 29) (i := 3) (v := ?_) rfl rfl (by kernel_rfl) (by kernel_rfl) (by kernel_rfl) (fun _ _ _ h => h) (.inl ⟨by kernel_rfl, ?_⟩) hS0 ?_
      rotate_left
      · intro w' hw'; obtain ⟨hw1, hw2, hw3⟩ := hw'; go_simp; try with_reducible rfl
      try simp only [Act.put, List.setIfInBounds_toArray, List.set_cons_zero, List.set_cons_succ]
      refine wpAnyH_takeD (some 30) (i := 4) (v := ?_) rfl rfl (by kernel_rfl) (by kernel_rfl) (by kernel_rfl) (fun _ _ _ h => h) (.inl ⟨by kernel_rfl, ?_⟩) hS0 ?_
      rotate_left
      · intro w' hw'; obtain ⟨hw1, hw2, hw3⟩ := hw'; go_simp; try with_reducible rfl
      try simp only [Act.put, List.setIfInBounds_toArray, List.set_cons_zero, List.set_cons_succ]
      refine wpAnyH_takeD (some 31) (i := 5) (v := ?_) rfl rfl (by kernel_rfl) (by kernel_rfl) (by kernel_rfl) (fun _ _ _ h => h) (.inl ⟨by kernel_rfl, ?_⟩) hS0 ?_
      rotate_left
      · intro w' hw'; obtain ⟨hw1, hw2, hw3⟩ := hw'; go_simp; try with_reducible rfl
      try simp only [Act.put, List.setIfInBounds_toArray, List.set_cons_zero, List.set_cons_succ]
      refine wpAnyH_takeD (some 32) (i := 6) (v := ?_) rfl rfl (by kernel_rfl) (by kernel_rfl) (by kernel_rfl) (fun _ _ _ h => h) (.inl ⟨by kernel_rfl, ?_⟩) hS0 ?_
      rotate_left
      · intro w' hw'; obtain ⟨hw1, hw2, hw3⟩ := hw'; go_simp; try with_reducible rfl
      try simp only [Act.put, List.setIfInBounds_toArray, List.set_cons_zero, List.set_cons_succ]
      refine wpAnyH_takeD (some 33) (i := 7) (v := ?_) rfl rfl (by kernel_rfl) (by kernel_rfl) (by kernel_rfl) (fun _ _ _ h => h) (.inl ⟨by kernel_rfl, ?_⟩) hS0 ?_
      rotate_left
      · intro w' hw'; obtain ⟨hw1, hw2, hw3⟩ := hw'; go_simp; try with_reducible rfl
      try simp only [Act.put, List.setIfInBounds_toArray, List.set_cons_zero, List.set_cons_succ]
      refine wpAnyH_takeD (some 34) (i := 8) (v := ?_) rfl rfl (by kernel_rfl) (by kernel_rfl) (by kernel_rfl) (fun _ _ _ h => h) (.inl ⟨by kernel_rfl, ?_⟩) hS0 ?_
      rotate_left
      · intro w' hw'; obtain ⟨hw1, hw2, hw3⟩ := hw'; go_simp; try with_reducible rfl
      try simp only [Act.put, List.setIfInBounds_toArray, List.set_cons_zero, List.set_cons_succ]
      refine wpAnyH_takeD (some 35) (i := 9) (v := ?_) rfl rfl (by kernel_rfl) (by kernel_rfl) (by kernel_rfl) (fun _ _ _ h => h) (.inl ⟨by kernel_rfl, ?_⟩) hS0 ?_
      rotate_left
      · intro w' hw'; obtain ⟨hw1, hw2, hw3⟩ := hw'; go_simp; try with_reducible rfl
      try simp only [Act.put, List.setIfInBounds_toArray, List.set_cons_zero, List.set_cons_succ]
      refine wpAnyH_takeD (some 36) (i := 10) (v := ?_) rfl rfl (by kernel_rfl) (by kernel_rfl) (by kernel_rfl) (fun _ _ _ h => h) (.inl ⟨by kernel_rfl, ?_⟩) hS0 ?_
      rotate_left
      · intro w' hw'; obtain ⟨hw1, hw2, hw3⟩ := hw'; go_simp; try with_reducible rfl
      try simp only [Act.put, List.setIfInBounds_toArray, List.set_cons_zero, List.set_cons_succ]
      refine wpAnyH_takeD (some 37) (i := 11) (v := ?_) rfl rfl (by kernel_rfl) (by kernel_rfl) (by kernel_rfl) (fun _ _ _ h => h) (.inl ⟨by kernel_rfl, ?_⟩) hS0 ?_
      rotate_left
      · intro w' hw'; obtain ⟨hw1, hw2, hw3⟩ := hw'; go_simp; try with_reducible rfl
      try simp only [Act.put, List.setIfInBounds_toArray, List.set_cons_zero, List.set_cons_succ]
      refine wpAnyH_takeD (some 38) (i := 12) (v := ?_) rfl rfl (by kernel_rfl) (by kernel_rfl) (by kernel_rfl) (fun _ _ _ h => h) (.inl ⟨by kernel_rfl, ?_⟩) hS0 ?_
      rotate_left
      · intro w' hw'; obtain ⟨hw1, hw2, hw3⟩ := hw'; go_simp; try with_reducible rfl
      try simp only [Act.put, List.setIfInBounds_toArray, List.set_cons_zero, List.set_cons_succ]
      refine wpAnyH_takeD (some 39) (i := 13) (v := ?_) rfl rfl (by kernel_rfl) (by kernel_rfl) (by kernel_rfl) (fun _ _ _ h => h) (.inl ⟨by kernel_rfl, ?_⟩) hS0 ?_
      rotate_left
      · intro w' hw'; obtain ⟨hw1, hw2, hw3⟩ := hw'; go_simp; try with_reducible rfl
      try simp only [Act.put, List.setIfInBounds_toArray, List.set_cons_zero, List.set_cons_succ]
      refine wpAnyH_takeD (some 9) (i := 14) (v := ?_) rfl rfl (by kernel_rfl) (by kernel_rfl) (by kernel_rfl) (fun _ _ _ h => h) (.inl ⟨by kernel_rfl, ?_⟩) hS0 ?_
      rotate_left
      · intro w' hw'; go_simp; try with_reducible rfl
      try simp only [Act.put, List.setIfInBounds_toArray, List.set_cons_zero, List.set_cons_succ]
      refine wpAnyH_done (by kernel_rfl) ?_ _
      go_wp2_with fail
      go_roundw
      case rel => exact ⟨k + 1, by omega, by go_num, SM, SP, SR, SD, SB⟩
      case measure => simp [intOf]; omega
    · obtain rfl : n = k := by omega
      have T1 := rR.there (rdV 1 zs [d0, d1, d2, d3, d4, d5, d6, d7] n).toArray.size (by simp [rdV])
      have R1 := hid (rR.setCells (ys := rdV 1 zs [d0, d1, d2, d3, d4, d5, d6, d7] n) (by simp [rdV]))
      have SB := hid (below_setCells (rdV 1 zs [d0, d1, d2, d3, d4, d5, d6, d7] n) 0 _ hB (g := w.heap.size + 1) (by omega))
      have HD := hid rD
      have hd8 : (Try.prog.info? 65).map (·.size) = some (rdV 1 zs [d0, d1, d2, d3, d4, d5, d6, d7] n).toArray.size := by rw [hd]; simp [rdV]
      clear M rP rR rD hB
      go_wp2_with (first | ((with_reducible refine wpList_store_mid rfl 65 _ _ rfl (w.heap.size + 1) 0 (rdV 1 zs [d0, d1, d2, d3, d4, d5, d6, d7] n : List Value).toArray ?_ ?_ ?_ ?_ (all_oneCell_toArray (one_of8 (ints_rd _ _ _ _))) ?_); rfl; rfl; exact T1; exact hd8) | ((with_reducible refine wpList_load_row rfl 65 _ rfl (w.heap.size + 1 + 1) ?_ 65 (rdV 1 zs [d0, d1, d2, d3, d4, d5, d6, d7] n : List Value).toArray (0, 0) _ ?_ Try.underlying65 ?_ ?_ ?_); rfl; exact HD.out; rfl; exact hd8))
      exact bodyPost_ret (v := .agg (rdV 1 zs [d0, d1, d2, d3, d4, d5, d6, d7] n).toArray) (results_cell_row (fn := Try.f34) rfl _ _ _ _ _ (0, 0) _ rfl R1.out Try.underlying65 rfl hd8) rfl ⟨rfl, SB.out⟩
theorem hasR_parts {zs : List Int} {js : List (Int × Int)} {turn : Int} (h : okM zs js = true) : hasR zs js (partsL zs js turn) = true := by
  rw [hasR_yes h]
  obtain ⟨h1, h2, h3⟩ := okM_out h
  obtain ⟨_, h8, hin, _, _⟩ := okL_out h1
  refine okPs_of fun j hj => ?_
  have e : (partsL zs js turn)[j]?.getD 0 = dg (partsL zs js turn) j := rfl
  rw [e, dg_parts zs js turn j hj]
  by_cases hz : j < zs.length
  · rw [if_pos hz, endP_low hz]
    exact pL_bd (turn := turn) hin (fun j hj => okJs_out h3 j hj) h2 j hz
  · rw [if_neg hz, endP_high (by omega)]
    omega
/-- those of the first k wheels whose digits differ -/
def wrE (fs gs : List Int) : Nat → List Int
  | 0 => []
  | k + 1 => if dg fs k = dg gs k then wrE fs gs k else wrE fs gs k ++ [(k : Int)]
theorem wrE_yes {fs gs : List Int} {k : Nat} (h : dg fs k = dg gs k) : wrE fs gs (k + 1) = wrE fs gs k := if_pos h
theorem wrE_no {fs gs : List Int} {k : Nat} (h : ¬ dg fs k = dg gs k) : wrE fs gs (k + 1) = wrE fs gs k ++ [(k : Int)] := if_neg h
theorem wrE_len (fs gs : List Int) : ∀ k, (wrE fs gs k).length ≤ k
  | 0 => Nat.le_refl _
  | k + 1 => by
    have := wrE_len fs gs k
    unfold wrE
    split
    · omega
    · rw [List.length_append]; simp; omega
end Go.Proofs.Ytomhmkdfhhmenaa
