/- Stacks that are copied to be written over. -/
import Derived.Test.YtomhmkdfhhmenaaOpen
import Derived.Test.YtomhmkdfhhmenaaOwnI
import Derived.OwnWalk
import Derived.Deep.QuietTactic
namespace Go.Proofs.Ytomhmkdfhhmenaa
open Go.RowKit
set_option linter.unusedVariables false
set_option linter.unusedSimpArgs false
set_option maxHeartbeats 400000 in
/-- laws.toStack at an argument with elements: a new block holds them. -/
theorem toStackR_some (b off len cap : Nat) (zs : List Int) (hl : len ≤ 1048576) (hz : len ≤ zs.length) (hb : ∀ z ∈ zs, 0 ≤ z ∧ z ≤ 255) (w : World) (hbs : b < w.heap.size) (hc : ∀ j, j < len → w.cell? ⟨b, off + j, none⟩ = some (.int .u8 (zs[j]?.getD 0))) :
    Calls Try.prog 18 #[.slice (some ⟨b, off, none⟩) len cap] w fun e w' => e = .returned (.slice (some ⟨w.heap.size, 0, none⟩) len len) ∧ Below w.heap.size w w' ∧ Row w' w.heap.size 5 ((zs.take len).map (Value.int .u8)) ∧ w.heap.size < w'.heap.size := by
  obtain ⟨i0, hi, hz0, hz1, hz2⟩ := info_parts Try.infoU8
  go_enter Try.func18, Try.ntmps18
  go_wp2_with (at_make; refine wpList_make_full _ rfl _ _ 30 rfl w.heap.size 5 i0 (.int .u8 0) 1 Try.underlying30 hi hz0 hz1 .i64 .i64 _ _ len rfl rfl rfl rfl (by rw [hz2]; omega) (by unfold maxLen; omega) (Nat.le_refl _) ?_; intro w1 hown hgrow)
  have hrow := Row.of_owns hown rfl
  rw [show (madeCells (Value.int .u8 0).cells (len * 1)).toList = cpy zs len 0 from by rw [cpy_zero, Nat.mul_one]; exact toList_madeCells_one _ _] at hrow
  have hB1 : Below w.heap.size w w1 := (Below.refl _ w).grown hgrow (Nat.le_refl _) (fun k e => by cases e)
  clear hown hgrow
  go_wp2
  go_loopw [4] (fun i wr => ∃ k : Nat, k ≤ len ∧ i = .int .i64 k ∧ Row wr w.heap.size 5 (cpy zs len k) ∧ Below w.heap.size w wr) (fun i _ => len - (intOf i).toNat)
  case atStart => exact ⟨0, Nat.zero_le _, rfl, hrow, hB1⟩
  case round =>
    clear hrow hB1
    obtain ⟨k, hk, rfl, hrow, hB⟩ := hrel
    by_cases hlt : k < len
    · have hcx : wr.cell? ⟨b, off + k, none⟩ = some (.int .u8 (zs[k]?.getD 0)) := (hB.cell (p := ⟨b, off + k, none⟩) hbs).trans (hc k hlt)
      have hfz := hrow.frozen k
      have hlen := cpy_len zs len k hk hz
      obtain ⟨old, hold⟩ : ∃ v, wr.cell? ⟨w.heap.size, k, none⟩ = some v := ⟨_, (hrow.cell k).trans (List.getElem?_eq_getElem (by omega))⟩
      have hR2 := hrow.set k (.int .u8 (zs[k]?.getD 0))
      rw [cpy_set zs len k hlt hz] at hR2
      have hB2 : Below w.heap.size w (wr.setCell ⟨w.heap.size, k, none⟩ (.int .u8 (zs[k]?.getD 0))) := hB.setCell (p := ⟨w.heap.size, k, none⟩) (Nat.le_refl _) _
      clear hlen
      go_wp2
      go_roundw
      case rel => exact ⟨k + 1, by omega, by go_num, hR2, hB2⟩
      case measure => simp [intOf]; omega
    · obtain rfl : k = len := by omega
      rw [cpy_all] at hrow
      go_wp2
      go_ret
      exact ⟨rfl, hB, hrow, hrow.lt⟩
set_option maxHeartbeats 400000 in
/-- .. at an argument without elements: a new block without cells. -/
theorem toStackR_none (a : Option Addr) (cap : Nat) (w : World) :
    Calls Try.prog 18 #[.slice a 0 cap] w fun e w' => e = .returned (.slice (some ⟨w.heap.size, 0, none⟩) 0 0) ∧ Below w.heap.size w w' ∧ Row w' w.heap.size 5 (([] : List Int).map (Value.int .u8)) ∧ w.heap.size < w'.heap.size := by
  obtain ⟨i0, hi, hz0, hz1, hz2⟩ := info_parts Try.infoU8
  go_enter Try.func18, Try.ntmps18
  go_wp2_with (at_make; refine wpList_make_full _ rfl _ _ 30 rfl w.heap.size 5 i0 (.int .u8 0) 1 Try.underlying30 hi hz0 hz1 .i64 .i64 _ _ 0 rfl rfl rfl rfl (by rw [hz2]; omega) (by unfold maxLen; omega) (Nat.le_refl _) ?_; intro w1 hown hgrow)
  have hrow := Row.of_owns hown rfl
  have hB : Below w.heap.size w w1 := (Below.refl _ w).grown hgrow (Nat.le_refl _) (fun k e => by cases e)
  clear hown hgrow
  go_wp2
  refine wp_loop_rounds 1 ?_
  rw [rounds_succ]
  go_wp2
  go_ret
  exact ⟨rfl, hB, by simpa [madeCells] using hrow, hrow.lt⟩

/-- laws.toStack at whatever argument. -/
theorem toStackR_any (a : Option Addr) (len cap : Nat) (zs : List Int) (w : World) (h : InB w a len zs) (hl : len ≤ 1048576) :
    Calls Try.prog 18 #[.slice a len cap] w fun e w' => e = .returned (.slice (some ⟨w.heap.size, 0, none⟩) len len) ∧ Below w.heap.size w w' ∧ Row w' w.heap.size 5 (zs.map (Value.int .u8)) ∧ w.heap.size < w'.heap.size := by
  by_cases h0 : len = 0
  · have hz := h.1
    subst h0
    obtain rfl : zs = [] := List.length_eq_zero_iff.1 hz
    exact toStackR_none a cap w
  · rcases h.2.2 with h0' | ⟨b, off, rfl, hb, hc⟩
    · exact absurd h0' h0
    · have := toStackR_some b off len cap zs hl (by rw [h.1]; exact Nat.le_refl _) h.2.1 w hb hc
      rwa [List.take_of_length_le (by rw [h.1]; exact Nat.le_refl _)] at this

/-- one block alone has been written over -/
def OnlyB (g : Nat) (w w' : World) : Prop := w'.heap.size = w.heap.size ∧ (∀ q, q ≠ g → w'.heap[q]? = w.heap[q]?) ∧ Below g w w'
theorem OnlyB.refl (g : Nat) (w : World) : OnlyB g w w := ⟨rfl, fun _ _ => rfl, Below.refl _ _⟩
theorem OnlyB.set {g : Nat} {w w' : World} (h : OnlyB g w w') (j : Nat) (u : Value) : OnlyB g w (w'.setCell ⟨g, j, none⟩ u) :=
  ⟨by simpa using h.1, fun q hq => (Below.heap_setCell w' ⟨g, j, none⟩ u q (fun e => hq e)).trans (h.2.1 q hq), h.2.2.setCell (p := ⟨g, j, none⟩) (Nat.le_refl _) _⟩
theorem OnlyB.row {g q : Nat} {w w' : World} {e : TypeId} {xs : List Value} (h : OnlyB g w w') (r : Row w q e xs) (hq : q ≠ g) : Row w' q e xs := (h.2.1 q hq).trans r
set_option maxHeartbeats 1000000 in
theorem markStack_any (g n cap : Nat) (xs : List Value) (hx : xs.length = n) (hn : n ≤ 1048576) (w : World) (hR : Row w g 5 xs) :
    Calls Try.prog 28 #[.slice (some ⟨g, 0, none⟩) n cap, .int .i64 1] w fun e w' => e = .returned (.int .i64 (1 + (n : Int))) ∧ OnlyB g w w' := by
  go_enter Try.func28, Try.ntmps28
  go_wp2_with fail
  go_loopw [1, 5] (fun m i wr => ∃ (k : Nat) (ys : List Value), k ≤ n ∧ i = .int .i64 k ∧ m = .int .i64 (1 + (k : Int)) ∧ ys.length = n ∧ Row wr g 5 ys ∧ OnlyB g w wr) (fun _ i _ => n - (intOf i).toNat)
  case atStart => exact ⟨0, xs, Nat.zero_le _, rfl, rfl, hx, hR, OnlyB.refl _ _⟩
  case round =>
    clear hR hx
    obtain ⟨k, ys, hk, rfl, rfl, hy, hrow, hO⟩ := hrel
    by_cases hlt : k < n
    · have hlt' : (k : Int) < (n : Int) := by omega
      have hk0 : (0 : Int) ≤ (k : Int) := by omega
      have hfz := hrow.frozen k
      obtain ⟨old, hold⟩ : ∃ u, wr.cell? ⟨g, k, none⟩ = some u := ⟨_, (hrow.cell k).trans (List.getElem?_eq_getElem (by omega))⟩
      have R3 := hid (fun u => hrow.set k u)
      have O3 := hid (fun u => hO.set k u)
      have HY := hid hy
      clear hrow hO hy
      go_wp2_with fail
      go_roundw
      case rel => exact ⟨k + 1, _, by omega, by go_num, by first | go_num | (congr 1; done) | (congr 1; omega), by rw [List.length_set]; exact HY.out, R3.out _, O3.out _⟩
      case measure => simp [intOf]; omega
    · obtain rfl : k = n := by omega
      have O3 := hid hO
      clear hrow hO hy
      go_wp2_with fail
      go_ret
      exact ⟨rfl, O3.out⟩
end Go.Proofs.Ytomhmkdfhhmenaa
