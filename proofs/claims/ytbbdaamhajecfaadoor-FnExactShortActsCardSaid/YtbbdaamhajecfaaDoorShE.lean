/- Sentinels, errors.Is, codeBehind; acts in laws as rows. -/
import Derived.Test.YtbbdaamhajecfaaDoorShC
import Derived.Test.YtbbdaamhajecfaaDoorActL
import Derived.Deep.MidRow
import Derived.LaidEql
import Derived.OneCell
import Derived.Stop.Asserts
import Derived.RowKitTokens
namespace Go.Proofs.YtbbdaamhajecfaaDoor
open Go.RowKit
set_option linter.unusedVariables false
set_option linter.unusedSimpArgs false
/-- one block alone has been written over -/
def OnlyB (g : Nat) (w w' : World) : Prop := w'.heap.size = w.heap.size ∧ (∀ q, q ≠ g → w'.heap[q]? = w.heap[q]?) ∧ Below g w w'
theorem OnlyB.refl (g : Nat) (w : World) : OnlyB g w w := ⟨rfl, fun _ _ => rfl, Below.refl _ _⟩
theorem OnlyB.set {g : Nat} {w w' : World} (h : OnlyB g w w') (j : Nat) (u : Value) : OnlyB g w (w'.setCell ⟨g, j, none⟩ u) :=
  ⟨by simpa using h.1, fun q hq => (Below.heap_setCell w' ⟨g, j, none⟩ u q (fun e => hq e)).trans (h.2.1 q hq), h.2.2.setCell (p := ⟨g, j, none⟩) (Nat.le_refl _) _⟩
theorem OnlyB.row {g q : Nat} {w w' : World} {e : TypeId} {xs : List Value} (h : OnlyB g w w') (r : Row w q e xs) (hq : q ≠ g) : Row w' q e xs := (h.2.1 q hq).trans r
def ES (a : Addr) : Value := .iface 77 (.pointer (some a))
theorem cell_ltE {w : World} {a : Addr} {v : Value} (h : w.cell? a = some v) : a.block < w.heap.size := by
  unfold World.cell? at h
  by_cases k : a.block < w.heap.size
  · exact k
  · simp [Array.getElem?_eq_none (by omega : w.heap.size ≤ a.block)] at h
/-- the four sentinels lie in their variables, and are four -/
def SN (w : World) (a0 a1 a2 a3 : Addr) : Prop := True ∧ (w.cell? ⟨0, 0, none⟩ = some (ES a0) ∧ w.cell? ⟨1, 0, none⟩ = some (ES a1) ∧ w.cell? ⟨2, 0, none⟩ = some (ES a2) ∧ w.cell? ⟨3, 0, none⟩ = some (ES a3)) ∧ (a0 ≠ a1 ∧ a0 ≠ a2 ∧ a0 ≠ a3 ∧ a1 ≠ a2 ∧ a1 ≠ a3 ∧ a2 ≠ a3) ∧
  ((∃ c t, w.heap[a0.block]? = some (.cells c t (0, 0))) ∧ (∃ c t, w.heap[a1.block]? = some (.cells c t (0, 0))) ∧ (∃ c t, w.heap[a2.block]? = some (.cells c t (0, 0))) ∧ (∃ c t, w.heap[a3.block]? = some (.cells c t (0, 0))))
theorem SN.below {w w' : World} {a0 a1 a2 a3 : Addr} (h : SN w a0 a1 a2 a3) (hb : Below w.heap.size w w') (_ : True) : SN w' a0 a1 a2 a3 := by
  obtain ⟨_, ⟨c0, c1, c2, c3⟩, hd, ⟨x0, y0, h0⟩, ⟨x1, y1, h1⟩, ⟨x2, y2, h2⟩, ⟨x3, y3, h3⟩⟩ := h
  exact ⟨trivial, ⟨(hb.cell (cell_ltE c0)).trans c0, (hb.cell (cell_ltE c1)).trans c1, (hb.cell (cell_ltE c2)).trans c2, (hb.cell (cell_ltE c3)).trans c3⟩, hd,
    ⟨x0, y0, (hb.block _ (lt_of_block h0)).trans h0⟩, ⟨x1, y1, (hb.block _ (lt_of_block h1)).trans h1⟩, ⟨x2, y2, (hb.block _ (lt_of_block h2)).trans h2⟩, ⟨x3, y3, (hb.block _ (lt_of_block h3)).trans h3⟩⟩
theorem Row.thereO {w : World} {g : Nat} {e : TypeId} {xs : List Value} (h : Row w g e xs) (o n : Nat) (hn : o + n ≤ xs.length) : w.there g o n := fun j hj => by
  rw [h.cell]
  exact ⟨by rw [List.getElem?_eq_getElem (by omega)]; rfl, h.frozen (o + j)⟩
theorem Row.setCells_mid {w : World} {g : Nat} {e : TypeId} : ∀ (ys xs : List Value) (o : Nat), Row w g e xs → o + ys.length ≤ xs.length → Row (w.setCells g o ys) g e (xs.take o ++ ys ++ xs.drop (o + ys.length))
  | [], xs, o, h, hl => by
    rw [World.setCells, List.append_nil, List.length_nil, Nat.add_zero, List.take_append_drop]; exact h
  | y :: r, xs, o, h, hl => by
    simp at hl
    rw [World.setCells]
    have := Row.setCells_mid (w := w.setCell ⟨g, o, none⟩ y) r (xs.set o y) (o + 1) (h.set o y) (by simp; omega)
    rw [List.take_set, List.take_succ_eq_append_getElem (by omega), List.set_append_right _ _ (by simp; omega), show o - (xs.take o).length = 0 from by simp; omega, List.set_cons_zero, List.drop_set_of_lt (by omega)] at this
    rw [List.length_cons, show o + (r.length + 1) = o + 1 + r.length by omega]
    simpa [List.append_assoc] using this
theorem below_setCellsD {n : Nat} {a : World} {g : Nat} : ∀ (ys : List Value) (o : Nat) (w : World), Below n a w → n ≤ g → Below n a (w.setCells g o ys)
  | [], _, _, h, _ => h
  | _ :: r, o, _, h, hg => by rw [World.setCells]; exact below_setCellsD r (o + 1) _ (h.setCell hg _) hg
theorem size_setCellsD {g : Nat} : ∀ (ys : List Value) (o : Nat) (w : World), (w.setCells g o ys).heap.size = w.heap.size
  | [], _, _ => rfl
  | y :: r, o, w => by rw [World.setCells, size_setCellsD r (o + 1)]; simp
theorem other_setCellsD {g q : Nat} (hq : q ≠ g) : ∀ (ys : List Value) (o : Nat) (w : World), (w.setCells g o ys).heap[q]? = w.heap[q]?
  | [], _, _ => rfl
  | y :: r, o, w => by rw [World.setCells, other_setCellsD hq r (o + 1)]; exact Below.heap_setCell w _ _ _ hq
theorem Row.setCellsO {w : World} {g q : Nat} {e : TypeId} {xs : List Value} (h : Row w q e xs) (hq : q ≠ g) (ys : List Value) (o : Nat) : Row (w.setCells g o ys) q e xs := (other_setCellsD hq ys o w).trans h
theorem Row.setAll {w : World} {g : Nat} {e : TypeId} {xs ys : List Value} (h : Row w g e xs) (hl : ys.length = xs.length) : Row (w.setCells g 0 ys) g e ys := by
  have := Row.setCells_mid ys xs 0 h (by omega)
  simpa [hl] using this
set_option maxHeartbeats 1000000 in
theorem toActsR_some (b off len cap : Nat) (js : List (Int × Int)) (hl : len ≤ 1048576) (hz : len = js.length) (w : World) (hbs : b < w.heap.size) (hc : ∀ j, j < len → w.cell? ⟨b, off + j * 2, none⟩ = some (.int .i8 (ak js j)) ∧ w.cell? ⟨b, off + j * 2 + 1, none⟩ = some (.int .i64 (an js j))) :
    Calls Tryd.prog 6 #[.slice (some ⟨b, off, none⟩) len cap] w fun e w' => e = .returned (.slice (some ⟨w.heap.size, 0, none⟩) len len) ∧ Below w.heap.size w w' ∧ Ast w' w.heap.size js ∧ ∃ ya : List Value, ya.length = len * 2 ∧ Row w' w.heap.size 34 ya := by
  obtain ⟨i0, hi, hz0, hz1, hz2⟩ := info_parts Tryd.infoActL
  have HC := hid hc
  have HZ := hid hz
  clear hc hz
  go_enter Tryd.func6, Tryd.ntmps6
  go_wp2_with (at_make; refine wpList_make_full _ rfl _ _ 24 rfl w.heap.size 34 i0 (.agg #[.int .i8 0, .int .i64 0]) 2 Tryd.underlying24 hi hz0 hz1 .i64 .i64 _ _ len rfl rfl rfl rfl (by rw [hz2]; omega) (by unfold maxLen; omega) (Nat.le_refl _) ?_; intro w1 hown hgrow)
  have hrow := Row.of_ownsAc hown rfl
  rw [accp_zero js len] at hrow
  have hB1 : Below w.heap.size w w1 := (Below.refl _ w).grown hgrow (Nat.le_refl _) (fun k e => by cases e)
  clear hown hgrow
  go_loopw [4] (fun i wr => ∃ k : Nat, k ≤ len ∧ i = .int .i64 k ∧ Row wr w.heap.size 34 (accp js len k) ∧ Below w.heap.size w wr) (fun i _ => len - (intOf i).toNat)
  case atStart => exact ⟨0, Nat.zero_le _, rfl, hrow, hB1⟩
  case round =>
    clear hrow hB1
    obtain ⟨k, hk, rfl, hrow, hB⟩ := hrel
    by_cases hlt : k < len
    · have c0 : wr.cell? ⟨b, off + k * 2, none⟩ = some (.int .i8 (ak js k)) := (hB.cell (p := ⟨b, off + k * 2, none⟩) hbs).trans (HC.out k hlt).1
      have c1 : wr.cell? ⟨b, off + k * 2 + 1, none⟩ = some (.int .i64 (an js k)) := (hB.cell (p := ⟨b, off + k * 2 + 1, none⟩) hbs).trans (HC.out k hlt).2
      have hlr := hrow.lt
      obtain ⟨x, hx⟩ : ∃ x, x = ak js k := ⟨_, rfl⟩
      obtain ⟨y, hy⟩ : ∃ y, y = an js k := ⟨_, rfl⟩
      rw [← hx] at c0
      rw [← hy] at c1
      have HS := hid (accp_set js len k hlt)
      rw [← hx, ← hy] at HS
      clear hx hy
      have HR := hid hrow
      clear hrow
      go_wp2_with fail
      refine (toAct_any x y _).mono ?_
      rintro e w2 ⟨rfl, hB2⟩
      have hz2 := hB2.size
      have r1 := HR.out.below hB2 hlr
      have f0 := r1.frozen (k * 2)
      have f1 := r1.frozen (k * 2 + 1)
      obtain ⟨o0, h0⟩ : ∃ v, w2.cell? ⟨w.heap.size, k * 2, none⟩ = some v := ⟨_, (r1.cell (k * 2)).trans (List.getElem?_eq_getElem (by rw [accp_len]; omega))⟩
      obtain ⟨o1, h1⟩ : ∃ v, w2.cell? ⟨w.heap.size, k * 2 + 1, none⟩ = some v := ⟨_, (r1.cell (k * 2 + 1)).trans (List.getElem?_eq_getElem (by rw [accp_len]; omega))⟩
      have r2 := hid ((r1.set (k * 2) (.int .i8 x)).set (k * 2 + 1) (.int .i64 y))
      rw [HS.out] at r2
      have b2 := hid (((hB.trans (hB2.mono (by omega))).setCell (p := ⟨w.heap.size, k * 2, none⟩) (Nat.le_refl _) (.int .i8 x)).setCell (p := ⟨w.heap.size, k * 2 + 1, none⟩) (Nat.le_refl _) (.int .i64 y))
      clear r1
      go_wp2_with fail
      go_roundw
      case rel => exact ⟨k + 1, by omega, by go_num, r2.out, b2.out⟩
      case measure => simp [intOf]; omega
    · obtain rfl : k = len := by omega
      have hlr := hrow.lt
      have HR := hid hrow
      clear hrow
      go_wp2_with fail
      go_ret
      exact ⟨rfl, hB, ⟨hlr, fun j hj => ⟨(HR.out.cell _).trans (accp_get js k j (by have := HZ.out; omega)).1, (HR.out.cell _).trans (accp_get js k j (by have := HZ.out; omega)).2⟩, by have := HZ.out; omega⟩, _, accp_len js k k, HR.out⟩
set_option maxHeartbeats 400000 in
theorem toActsR_none (a : Option Addr) (cap : Nat) (w : World) :
    Calls Tryd.prog 6 #[.slice a 0 cap] w fun e w' => e = .returned (.slice (some ⟨w.heap.size, 0, none⟩) 0 0) ∧ Below w.heap.size w w' ∧ Ast w' w.heap.size [] ∧ ∃ ya : List Value, ya.length = 0 * 2 ∧ Row w' w.heap.size 34 ya := by
  obtain ⟨i0, hi, hz0, hz1, hz2⟩ := info_parts Tryd.infoActL
  go_enter Tryd.func6, Tryd.ntmps6
  go_wp2_with (at_make; refine wpList_make_full _ rfl _ _ 24 rfl w.heap.size 34 i0 (.agg #[.int .i8 0, .int .i64 0]) 2 Tryd.underlying24 hi hz0 hz1 .i64 .i64 _ _ 0 rfl rfl rfl rfl (by rw [hz2]; omega) (by unfold maxLen; omega) (Nat.le_refl _) ?_; intro w1 hown hgrow)
  have hrow := Row.of_ownsAc hown rfl
  have hB : Below w.heap.size w w1 := (Below.refl _ w).grown hgrow (Nat.le_refl _) (fun k e => by cases e)
  clear hown hgrow
  refine wp_loop_rounds 1 ?_
  rw [rounds_succ]
  go_wp2
  go_ret
  exact ⟨rfl, hB, ⟨hrow.lt, fun j hj => by simp at hj, by simp⟩, _, by rw [accp_zero [] 0]; exact accp_len [] 0 0, hrow⟩
/-- laws.toActS at whatever argument. -/
theorem toActsR_any (a : Option Addr) (len cap : Nat) (js : List (Int × Int)) (w : World) (h : InAc w a len js) (hl : len ≤ 1048576) :
    Calls Tryd.prog 6 #[.slice a len cap] w fun e w' => e = .returned (.slice (some ⟨w.heap.size, 0, none⟩) len len) ∧ Below w.heap.size w w' ∧ Ast w' w.heap.size js ∧ ∃ ya : List Value, ya.length = len * 2 ∧ Row w' w.heap.size 34 ya := by
  by_cases h0 : len = 0
  · have hz := h.1
    subst h0
    obtain rfl : js = [] := List.length_eq_zero_iff.1 hz
    exact toActsR_none a cap w
  · rcases h.2.2 with h0' | ⟨b, off, rfl, hb, hc⟩
    · exact absurd h0' h0
    · exact toActsR_some b off len cap js hl h.1.symm w hb hc

set_option maxHeartbeats 2000000 in
theorem markActS_any (g n cap : Nat) (k0 : Int) (xs : List Value) (hx : xs.length = n * 2) (hb : 0 ≤ k0 ∧ k0 ≤ 4611686018427387904) (hn : n ≤ 1048576) (w : World) (hR : Row w g 34 xs) :
    Calls Tryd.prog 9 #[.slice (some ⟨g, 0, none⟩) n cap, .int .i64 k0] w fun e w' => e = .returned (.int .i64 (k0 + 2 * (n : Int))) ∧ OnlyB g w w' := by
  go_enter Tryd.func9, Tryd.ntmps9
  go_wp2_with fail
  go_loopw [1, 5] (fun m i wr => ∃ (k : Nat) (ys : List Value), k ≤ n ∧ i = .int .i64 k ∧ m = .int .i64 (k0 + 2 * (k : Int)) ∧ ys.length = n * 2 ∧ Row wr g 34 ys ∧ OnlyB g w wr) (fun _ i _ => n - (intOf i).toNat)
  case atStart => exact ⟨0, xs, Nat.zero_le _, rfl, by simp, hx, hR, OnlyB.refl _ _⟩
  case round =>
    clear hR hx
    obtain ⟨k, ys, hk, rfl, rfl, hy, hrow, hO⟩ := hrel
    by_cases hlt : k < n
    · have hlt' : (k : Int) < (n : Int) := by omega
      have hk0 : (0 : Int) ≤ (k : Int) := by omega
      have f0 := hrow.frozen (k * 2)
      have f1 := hrow.frozen (k * 2 + 1)
      obtain ⟨o0, h0⟩ : ∃ u, wr.cell? ⟨g, k * 2, none⟩ = some u := ⟨_, (hrow.cell (k * 2)).trans (List.getElem?_eq_getElem (by omega))⟩
      obtain ⟨o1, h1⟩ : ∃ u, wr.cell? ⟨g, k * 2 + 1, none⟩ = some u := ⟨_, (hrow.cell (k * 2 + 1)).trans (List.getElem?_eq_getElem (by omega))⟩
      have R3 := hid (fun u u' => (hrow.set (k * 2) u).set (k * 2 + 1) u')
      have O3 := hid (fun u u' => (hO.set (k * 2) u).set (k * 2 + 1) u')
      have HY := hid hy
      obtain ⟨m, hm⟩ : ∃ y, k0 + 2 * (k : Int) = y := ⟨_, rfl⟩
      have hmb : 0 ≤ m ∧ m ≤ 4611686018429485056 := by omega
      have HM := hid hm
      rw [hm]
      have t2 : IntKind.i64.wrap (m + 1) = m + 1 := IntWalk.i64_in _ (by omega)
      have t3 : IntKind.i64.wrap (m + 1 + 1) = m + 1 + 1 := IntWalk.i64_in _ (by omega)
      clear hrow hO hy hm
      go_wp2_with fail
      go_roundw
      case rel => exact ⟨k + 1, _, by omega, by go_num, by have := HM.out; congr 1; omega, by rw [List.length_set, List.length_set]; exact HY.out, R3.out _ _, O3.out _ _⟩
      case measure => simp [intOf]; omega
    · obtain rfl : k = n := by omega
      have O3 := hid hO
      clear hrow hO hy
      go_wp2_with fail
      go_ret
      exact ⟨rfl, O3.out⟩
section
open Go.Extern.Stop Go.Stop Go.Extern
theorem Tryd.isTypeOf (v : Value) (w : World) : (Extern.ReflectliteType.typeOf #[.iface 77 v]).run Tryd.prog w = .ok (.iface 65 (.agg #[.pointer (some ⟨4, 77, none⟩)])) w := by kernel_rfl
def rcF : Array Value → Sem Value := Extern.ReflectliteType.method fun t => do Extern.Rtype.noPackHeld "Comparable" t; pure (.bool (← typeInfo t).comparable)
theorem Tryd.isComparable (w : World) : (rcF #[.agg #[.pointer (some ⟨4, 77, none⟩)]]).run Tryd.prog w = .ok (.bool true) w := by kernel_rfl
theorem Tryd.isMethodComparable (v : Value) (w : World) : (Go.method 223 65 v "Comparable").run Tryd.prog w = .ok (55, v) w := by kernel_rfl
theorem Tryd.isComp : (Tryd.prog.info? 77).map (·.comparable) = some true := by kernel_rfl
theorem Tryd.isSize : (Tryd.prog.info? 104).map (·.size) = some 1 := by kernel_rfl
theorem Tryd.noIsE (v : Value) (xT : TypeId) (w : World) : (Instr.typeAssert (.iface 77 v) xT 67 true).run Tryd.prog w = .ok (.tuple #[.nilIface, .bool false]) w := run_typeAssert_lacksB Tryd.underlying67 (by kernel_rfl) (by kernel_rfl) v xT w
theorem Tryd.noUnwrapE (v : Value) (xT : TypeId) (w : World) : (Instr.typeAssert (.iface 77 v) xT 70 true).run Tryd.prog w = .ok (.tuple #[.nilIface, .bool false]) w := run_typeAssert_lacksB Tryd.underlying70 (by kernel_rfl) (by kernel_rfl) v xT w
theorem Tryd.noUnwrapsE (v : Value) (xT : TypeId) (w : World) : (Instr.typeAssert (.iface 77 v) xT 72 true).run Tryd.prog w = .ok (.tuple #[.nilIface, .bool false]) w := run_typeAssert_lacksB Tryd.underlying72 (by kernel_rfl) (by kernel_rfl) v xT w
theorem is_same (a : Addr) (w : World) : Calls Tryd.prog 21 #[ES a, ES a] w fun e w' => e = .returned (.bool true) ∧ w' = w := by
  unfold ES
  obtain ⟨i, hi, hcmp⟩ := Option.map_eq_some_iff.1 Tryd.isComp
  obtain ⟨j, hj, hjs⟩ := Option.map_eq_some_iff.1 Tryd.isSize
  have h8 := @run_callFunc_extern Tryd.prog 26 _ Extern.ReflectliteType.typeOf Tryd.func26 (by kernel_rfl) (by kernel_rfl) (by kernel_rfl) (by kernel_rfl)
  have h32 := @run_callFunc_extern Tryd.prog 55 _ rcF Tryd.func55 (by kernel_rfl) (by kernel_rfl) (by kernel_rfl) (by kernel_rfl)
  have tT := Tryd.isTypeOf
  have cT := Tryd.isComparable
  have mR := Tryd.isMethodComparable
  have heq := run_eql_iface_ptr_same (P := Tryd.prog) w a Tryd.underlying38 Tryd.underlying77 hi hcmp hj
  go_enter Tryd.func21, Tryd.ntmps21
  go_wp2
  refine wp_loop_rounds 1 ?_
  rw [rounds_succ]
  go_wp2
  go_ret
  exact ⟨rfl, rfl⟩
theorem is_nil (b : Addr) (w : World) : Calls Tryd.prog 21 #[.nilIface, ES b] w fun e w' => e = .returned (.bool false) ∧ w' = w := by
  unfold ES
  have hn := run_eql_iface_nil_left (P := Tryd.prog) w 77 (.pointer (some b)) Tryd.underlying38
  go_enter Tryd.func21, Tryd.ntmps21
  go_wp2
  go_ret
  exact ⟨rfl, rfl⟩
theorem is_other (a b : Addr) (w : World) (hne : a ≠ b) (ha' : ∃ c t, w.heap[a.block]? = some (.cells c t (0, 0))) (hb' : ∃ c t, w.heap[b.block]? = some (.cells c t (0, 0))) : Calls Tryd.prog 21 #[ES a, ES b] w fun e w' => e = .returned (.bool false) ∧ w' = w := by
  unfold ES
  obtain ⟨ca, ta, ha⟩ := ha'
  obtain ⟨cb, tb, hb⟩ := hb'
  obtain ⟨i, hi, hcmp⟩ := Option.map_eq_some_iff.1 Tryd.isComp
  obtain ⟨j, hj, hjs⟩ := Option.map_eq_some_iff.1 Tryd.isSize
  have h8 := @run_callFunc_extern Tryd.prog 26 _ Extern.ReflectliteType.typeOf Tryd.func26 (by kernel_rfl) (by kernel_rfl) (by kernel_rfl) (by kernel_rfl)
  have h32 := @run_callFunc_extern Tryd.prog 55 _ rcF Tryd.func55 (by kernel_rfl) (by kernel_rfl) (by kernel_rfl) (by kernel_rfl)
  have tT := Tryd.isTypeOf
  have cT := Tryd.isComparable
  have mR := Tryd.isMethodComparable
  have nE := Tryd.noIsE
  have uE := Tryd.noUnwrapE
  have vE := Tryd.noUnwrapsE
  have heq := run_eql_iface_ptr_other (P := Tryd.prog) w Tryd.underlying38 Tryd.underlying77 hi hcmp hj (by rw [hjs]; decide) hne ha hb
  go_enter Tryd.func21, Tryd.ntmps21
  go_wp2
  refine wp_loop_rounds 1 ?_
  rw [rounds_succ]
  go_wp2
  go_ret
  exact ⟨rfl, rfl⟩
/-- the error of a code: 0 none, 1 invalid, 2 range, 3 limit, 4 state -/
def errV (c : Int) (a0 a1 a2 a3 : Addr) : Value := if c = 0 then .nilIface else if c = 1 then ES a0 else if c = 2 then ES a2 else if c = 3 then ES a1 else ES a3
set_option maxRecDepth 100000 in
set_option maxHeartbeats 4000000 in
theorem code_0 (a0 a1 a2 a3 : Addr) (w : World) (hSN : SN w a0 a1 a2 a3) : Calls Tryd.prog 14 #[.nilIface] w fun e w' => e = .returned (.int .i64 0) ∧ w = w' := by
  obtain ⟨_, ⟨c0, c1, c2, c3⟩, ⟨d01, d02, d03, d12, d13, d23⟩, b0, b1, b2, b3⟩ := hSN
  have I0 := hid (is_nil a0 w)
  have I1 := hid (is_nil a1 w)
  have I2 := hid (is_nil a2 w)
  have I3 := hid (is_nil a3 w)
  clear b0 b1 b2 b3 d01 d02 d03 d12 d13 d23
  go_enter Tryd.func14, Tryd.ntmps14
  go_wp2_with fail
  refine I0.out.mono ?_
  rintro e w1 ⟨rfl, rfl⟩
  go_wp2_with fail
  refine I1.out.mono ?_
  rintro e w1 ⟨rfl, rfl⟩
  go_wp2_with fail
  refine I2.out.mono ?_
  rintro e w1 ⟨rfl, rfl⟩
  go_wp2_with fail
  refine I3.out.mono ?_
  rintro e w1 ⟨rfl, rfl⟩
  go_wp2_with fail
  go_ret
  exact ⟨rfl, rfl⟩
set_option maxRecDepth 100000 in
set_option maxHeartbeats 4000000 in
theorem code_1 (a0 a1 a2 a3 : Addr) (w : World) (hSN : SN w a0 a1 a2 a3) : Calls Tryd.prog 14 #[(ES a0)] w fun e w' => e = .returned (.int .i64 1) ∧ w = w' := by
  obtain ⟨_, ⟨c0, c1, c2, c3⟩, ⟨d01, d02, d03, d12, d13, d23⟩, b0, b1, b2, b3⟩ := hSN
  have I0 := hid (is_same a0 w)
  clear b0 b1 b2 b3 d01 d02 d03 d12 d13 d23
  go_enter Tryd.func14, Tryd.ntmps14
  go_wp2_with fail
  refine I0.out.mono ?_
  rintro e w1 ⟨rfl, rfl⟩
  go_wp2_with fail
  go_ret
  exact ⟨rfl, rfl⟩
set_option maxRecDepth 100000 in
set_option maxHeartbeats 4000000 in
theorem code_3 (a0 a1 a2 a3 : Addr) (w : World) (hSN : SN w a0 a1 a2 a3) : Calls Tryd.prog 14 #[(ES a1)] w fun e w' => e = .returned (.int .i64 3) ∧ w = w' := by
  obtain ⟨_, ⟨c0, c1, c2, c3⟩, ⟨d01, d02, d03, d12, d13, d23⟩, b0, b1, b2, b3⟩ := hSN
  have I0 := hid (is_other a1 a0 w (Ne.symm d01) b1 b0)
  have I1 := hid (is_same a1 w)
  clear b0 b1 b2 b3 d01 d02 d03 d12 d13 d23
  go_enter Tryd.func14, Tryd.ntmps14
  go_wp2_with fail
  refine I0.out.mono ?_
  rintro e w1 ⟨rfl, rfl⟩
  go_wp2_with fail
  refine I1.out.mono ?_
  rintro e w1 ⟨rfl, rfl⟩
  go_wp2_with fail
  go_ret
  exact ⟨rfl, rfl⟩
set_option maxRecDepth 100000 in
set_option maxHeartbeats 4000000 in
theorem code_2 (a0 a1 a2 a3 : Addr) (w : World) (hSN : SN w a0 a1 a2 a3) : Calls Tryd.prog 14 #[(ES a2)] w fun e w' => e = .returned (.int .i64 2) ∧ w = w' := by
  obtain ⟨_, ⟨c0, c1, c2, c3⟩, ⟨d01, d02, d03, d12, d13, d23⟩, b0, b1, b2, b3⟩ := hSN
  have I0 := hid (is_other a2 a0 w (Ne.symm d02) b2 b0)
  have I1 := hid (is_other a2 a1 w (Ne.symm d12) b2 b1)
  have I2 := hid (is_same a2 w)
  clear b0 b1 b2 b3 d01 d02 d03 d12 d13 d23
  go_enter Tryd.func14, Tryd.ntmps14
  go_wp2_with fail
  refine I0.out.mono ?_
  rintro e w1 ⟨rfl, rfl⟩
  go_wp2_with fail
  refine I1.out.mono ?_
  rintro e w1 ⟨rfl, rfl⟩
  go_wp2_with fail
  refine I2.out.mono ?_
  rintro e w1 ⟨rfl, rfl⟩
  go_wp2_with fail
  go_ret
  exact ⟨rfl, rfl⟩
set_option maxRecDepth 100000 in
set_option maxHeartbeats 4000000 in
theorem code_4 (a0 a1 a2 a3 : Addr) (w : World) (hSN : SN w a0 a1 a2 a3) : Calls Tryd.prog 14 #[(ES a3)] w fun e w' => e = .returned (.int .i64 4) ∧ w = w' := by
  obtain ⟨_, ⟨c0, c1, c2, c3⟩, ⟨d01, d02, d03, d12, d13, d23⟩, b0, b1, b2, b3⟩ := hSN
  have I0 := hid (is_other a3 a0 w (Ne.symm d03) b3 b0)
  have I1 := hid (is_other a3 a1 w (Ne.symm d13) b3 b1)
  have I2 := hid (is_other a3 a2 w (Ne.symm d23) b3 b2)
  have I3 := hid (is_same a3 w)
  clear b0 b1 b2 b3 d01 d02 d03 d12 d13 d23
  go_enter Tryd.func14, Tryd.ntmps14
  go_wp2_with fail
  refine I0.out.mono ?_
  rintro e w1 ⟨rfl, rfl⟩
  go_wp2_with fail
  refine I1.out.mono ?_
  rintro e w1 ⟨rfl, rfl⟩
  go_wp2_with fail
  refine I2.out.mono ?_
  rintro e w1 ⟨rfl, rfl⟩
  go_wp2_with fail
  refine I3.out.mono ?_
  rintro e w1 ⟨rfl, rfl⟩
  go_wp2_with fail
  go_ret
  exact ⟨rfl, rfl⟩
theorem codeBehind_any (c : Int) (hc : c = 0 ∨ c = 1 ∨ c = 2 ∨ c = 3 ∨ c = 4) (a0 a1 a2 a3 : Addr) (w : World) (hSN : SN w a0 a1 a2 a3) : Calls Tryd.prog 14 #[errV c a0 a1 a2 a3] w fun e w' => e = .returned (.int .i64 c) ∧ w = w' := by
  rcases hc with rfl | rfl | rfl | rfl | rfl
  · exact code_0 a0 a1 a2 a3 w hSN
  · exact code_1 a0 a1 a2 a3 w hSN
  · exact code_2 a0 a1 a2 a3 w hSN
  · exact code_3 a0 a1 a2 a3 w hSN
  · exact code_4 a0 a1 a2 a3 w hSN

end
end Go.Proofs.YtbbdaamhajecfaaDoor
