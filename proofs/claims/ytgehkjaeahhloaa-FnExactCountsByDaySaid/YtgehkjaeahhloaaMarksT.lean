/- What the laws write over: totals that they have copied. -/
import Derived.Test.YtgehkjaeahhloaaTots
import Derived.Test.YtgehkjaeahhloaaMarks
namespace Go.Proofs.Ytgehkjaeahhloaa
open Go.RowKit
set_option linter.unusedVariables false
set_option linter.unusedSimpArgs false
set_option maxHeartbeats 1000000 in
theorem toTotsR_some (b off len cap : Nat) (js : List (Int × Int)) (hl : len ≤ 1048576) (hz : len = js.length) (w : World) (hbs : b < w.heap.size) (hc : ∀ j, j < len → w.cell? ⟨b, off + j * 2, none⟩ = some (.int .i64 (rd js j)) ∧ w.cell? ⟨b, off + j * 2 + 1, none⟩ = some (.int .i64 (rv js j))) :
    Calls Try.prog 30 #[.slice (some ⟨b, off, none⟩) len cap] w fun e w' => e = .returned (.slice (some ⟨w.heap.size, 0, none⟩) len len) ∧ Below w.heap.size w w' ∧ Row w' w.heap.size 99 (rcp js len len) ∧ w.heap.size < w'.heap.size := by
  obtain ⟨i0, hi, hz0, hz1, hz2⟩ := info_parts Try.infoTotal
  have HC := hid hc
  have HZ := hid hz
  clear hc hz
  go_enter Try.func30, Try.ntmps30
  go_wp2_with (at_make; refine wpList_make_full _ rfl _ _ 51 rfl w.heap.size 99 i0 (.agg #[.int .i64 0, .int .i64 0]) 2 Try.underlying51 hi hz0 hz1 .i64 .i64 _ _ len rfl rfl rfl rfl (by rw [hz2]; omega) (by unfold maxLen; omega) (Nat.le_refl _) ?_; intro w1 hown hgrow)
  have hrow := Row.of_ownsN hown rfl
  rw [rcp_zero js len] at hrow
  have hB1 : Below w.heap.size w w1 := (Below.refl _ w).grown hgrow (Nat.le_refl _) (fun k e => by cases e)
  clear hown hgrow
  go_loopw [4] (fun i wr => ∃ k : Nat, k ≤ len ∧ i = .int .i64 k ∧ Row wr w.heap.size 99 (rcp js len k) ∧ Below w.heap.size w wr) (fun i _ => len - (intOf i).toNat)
  case atStart => exact ⟨0, Nat.zero_le _, rfl, hrow, hB1⟩
  case round =>
    clear hrow hB1
    obtain ⟨k, hk, rfl, hrow, hB⟩ := hrel
    by_cases hlt : k < len
    · have c0 : wr.cell? ⟨b, off + k * 2, none⟩ = some (.int .i64 (rd js k)) := (hB.cell (p := ⟨b, off + k * 2, none⟩) hbs).trans (HC.out k hlt).1
      have c1 : wr.cell? ⟨b, off + k * 2 + 1, none⟩ = some (.int .i64 (rv js k)) := (hB.cell (p := ⟨b, off + k * 2 + 1, none⟩) hbs).trans (HC.out k hlt).2
      have hlr := hrow.lt
      obtain ⟨x, hx⟩ : ∃ x, x = rd js k := ⟨_, rfl⟩
      obtain ⟨y, hy⟩ : ∃ y, y = rv js k := ⟨_, rfl⟩
      rw [← hx] at c0
      rw [← hy] at c1
      have HS := hid (rcp_set js len k hlt)
      rw [← hx, ← hy] at HS
      clear hx hy
      have HR := hid hrow
      clear hrow
      go_wp2_with fail
      refine (toTotal_any x y _).mono ?_
      rintro e w2 ⟨rfl, hB2⟩
      have hz2 := hB2.size
      have r1 := HR.out.below hB2 hlr
      have f0 := r1.frozen (k * 2)
      have f1 := r1.frozen (k * 2 + 1)
      obtain ⟨o0, h0⟩ : ∃ v, w2.cell? ⟨w.heap.size, k * 2, none⟩ = some v := ⟨_, (r1.cell (k * 2)).trans (List.getElem?_eq_getElem (by rw [rcp_len]; omega))⟩
      obtain ⟨o1, h1⟩ : ∃ v, w2.cell? ⟨w.heap.size, k * 2 + 1, none⟩ = some v := ⟨_, (r1.cell (k * 2 + 1)).trans (List.getElem?_eq_getElem (by rw [rcp_len]; omega))⟩
      have r2 := hid ((r1.set (k * 2) (.int .i64 x)).set (k * 2 + 1) (.int .i64 y))
      rw [HS.out] at r2
      have b2 := hid (((hB.trans (hB2.mono (by omega))).setCell (p := ⟨w.heap.size, k * 2, none⟩) (Nat.le_refl _) (.int .i64 x)).setCell (p := ⟨w.heap.size, k * 2 + 1, none⟩) (Nat.le_refl _) (.int .i64 y))
      clear r1
      go_wp2_with fail
      go_roundw
      case rel => exact ⟨k + 1, by omega, by go_num, r2.out, b2.out⟩
      case measure => simp [intOf]; omega
    · obtain rfl : k = len := by omega
      have hlr := hrow.lt
      have HR := hid hrow
      clear hrow
      go_wp2_with fail
      go_ret
      exact ⟨rfl, hB, HR.out, hlr⟩
set_option maxHeartbeats 400000 in
theorem toTotsR_none (a : Option Addr) (cap : Nat) (w : World) :
    Calls Try.prog 30 #[.slice a 0 cap] w fun e w' => e = .returned (.slice (some ⟨w.heap.size, 0, none⟩) 0 0) ∧ Below w.heap.size w w' ∧ Row w' w.heap.size 99 (rcp [] 0 0) ∧ w.heap.size < w'.heap.size := by
  obtain ⟨i0, hi, hz0, hz1, hz2⟩ := info_parts Try.infoTotal
  go_enter Try.func30, Try.ntmps30
  go_wp2_with (at_make; refine wpList_make_full _ rfl _ _ 51 rfl w.heap.size 99 i0 (.agg #[.int .i64 0, .int .i64 0]) 2 Try.underlying51 hi hz0 hz1 .i64 .i64 _ _ 0 rfl rfl rfl rfl (by rw [hz2]; omega) (by unfold maxLen; omega) (Nat.le_refl _) ?_; intro w1 hown hgrow)
  have hrow := Row.of_ownsN hown rfl
  have hB : Below w.heap.size w w1 := (Below.refl _ w).grown hgrow (Nat.le_refl _) (fun k e => by cases e)
  clear hown hgrow
  refine wp_loop_rounds 1 ?_
  rw [rounds_succ]
  go_wp2
  go_ret
  exact ⟨rfl, hB, by simpa [madeCells, rcp] using hrow, hrow.lt⟩
/-- laws.toTotalS at whatever argument. -/
theorem toTotsR_any (a : Option Addr) (len cap : Nat) (js : List (Int × Int)) (w : World) (h : InR w a len js) (hl : len ≤ 1048576) :
    Calls Try.prog 30 #[.slice a len cap] w fun e w' => e = .returned (.slice (some ⟨w.heap.size, 0, none⟩) len len) ∧ Below w.heap.size w w' ∧ Row w' w.heap.size 99 (rcp js len len) ∧ w.heap.size < w'.heap.size := by
  by_cases h0 : len = 0
  · have hz := h.1
    subst h0
    obtain rfl : js = [] := List.length_eq_zero_iff.1 hz
    exact toTotsR_none a cap w
  · rcases h.2.2 with h0' | ⟨b, off, rfl, hb, hc⟩
    · exact absurd h0' h0
    · exact toTotsR_some b off len cap js hl h.1.symm w hb hc
theorem Row.rstT {w : World} {g : Nat} {js : List (Int × Int)} (h : Row w g 99 (rcp js js.length js.length)) (hl : js.length ≤ 1048576) : Rst w g js :=
  ⟨h.lt, fun j hj => ⟨(h.cell _).trans (rcp_get js js.length j hj).1, (h.cell _).trans (rcp_get js js.length j hj).2⟩, hl⟩
set_option maxHeartbeats 1000000 in
theorem markTots_any (g n cap : Nat) (xs : List Value) (hx : xs.length = n * 2) (hn : n ≤ 1048576) (k0 : Int) (hk0 : 0 ≤ k0 ∧ k0 ≤ 10000000) (w : World) (hR : Row w g 99 xs) :
    Calls Try.prog 44 #[.slice (some ⟨g, 0, none⟩) n cap, .int .i64 k0] w fun e w' => e = .returned (.int .i64 (k0 + 2 * (n : Int))) ∧ OnlyB g w w' := by
  go_enter Try.func44, Try.ntmps44
  go_wp2_with fail
  go_loopw [1, 5] (fun m i wr => ∃ (k : Nat) (ys : List Value) (z : Int), k ≤ n ∧ i = .int .i64 k ∧ m = .int .i64 z ∧ z = k0 + 2 * (k : Int) ∧ ys.length = n * 2 ∧ Row wr g 99 ys ∧ OnlyB g w wr) (fun _ i _ => n - (intOf i).toNat)
  case atStart => exact ⟨0, xs, k0, Nat.zero_le _, rfl, rfl, by simp, hx, hR, OnlyB.refl _ _⟩
  case round =>
    clear hR hx
    obtain ⟨k, ys, z, hk, rfl, rfl, hz, hy, hrow, hO⟩ := hrel
    by_cases hlt : k < n
    · have hlt' : (k : Int) < (n : Int) := by omega
      have hk1 : (0 : Int) ≤ (k : Int) := by omega
      have zb : 0 ≤ z ∧ z ≤ 20000000 := by omega
      have f0 := hrow.frozen (k * 2)
      have f1 := hrow.frozen (k * 2 + 1)
      obtain ⟨o0, h0⟩ : ∃ v, wr.cell? ⟨g, k * 2, none⟩ = some v := ⟨_, (hrow.cell (k * 2)).trans (List.getElem?_eq_getElem (by omega))⟩
      obtain ⟨o1, h1⟩ : ∃ v, wr.cell? ⟨g, k * 2 + 1, none⟩ = some v := ⟨_, (hrow.cell (k * 2 + 1)).trans (List.getElem?_eq_getElem (by omega))⟩
      have R3 := hid (fun u v => (hrow.set (k * 2) u).set (k * 2 + 1) v)
      have O3 := hid (fun u v => (hO.set (k * 2) u).set (k * 2 + 1) v)
      have HY := hid hy
      have HZ := hid hz
      have t1 : IntKind.i64.wrap (z + 1) = z + 1 := IntWalk.i64_in _ (by omega)
      have t2 : IntKind.i64.wrap (z + 1 + 1) = z + 1 + 1 := IntWalk.i64_in _ (by omega)
      clear hrow hO hy hz
      go_wp2_with fail
      go_roundw
      case rel => exact ⟨k + 1, _, z + 1 + 1, by omega, by go_num, rfl, by have := HZ.out; omega, by rw [List.length_set, List.length_set]; exact HY.out, R3.out _ _, O3.out _ _⟩
      case measure => simp [intOf]; omega
    · obtain rfl : k = n := by omega
      have O3 := hid hO
      have HZ := hid hz
      clear hrow hO hy hz
      go_wp2_with fail
      go_ret
      exact ⟨by rw [← HZ.out]; rfl, O3.out⟩
end Go.Proofs.Ytgehkjaeahhloaa
