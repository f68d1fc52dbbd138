/- Totals: slices of structs of two numbers, copied, compared. -/
import Derived.Test.YtkdndejfdlbcbaaDoorReads
namespace Go.Proofs.YtkdndejfdlbcbaaDoor
open Go.RowKit Go.ChangeShapes Go.WideShapes Go.ChangeAt
theorem toTotal_any (k f : Int) (w : World) :
    Calls Tryd.prog 30 #[.agg #[.int .i64 k, .int .i64 f]] w fun e w' => e = .returned (.agg #[.int .i64 k, .int .i64 f]) ∧ Below w.heap.size w w' := by
  go_enter Tryd.func30, Tryd.ntmps30
  go_wp2
  exact bodyPost_ret (v := .agg #[.int .i64 k, .int .i64 f]) (by simp [results, Tryd.results30, go_sem]) rfl ⟨rfl, (((Below.refl _ _).alloc (Nat.le_refl _) _).alloc (by simp) _).alloc (by simp; omega) _⟩
theorem eqTotal_same (k f : Int) (w : World) :
    Calls Tryd.prog 35 #[.agg #[.int .i64 k, .int .i64 f], .agg #[.int .i64 k, .int .i64 f]] w fun e w' => e = .returned (.bool true) ∧ Below w.heap.size w w' := by
  have h1 : (k != k) = false := by simp
  have h2 : (f != f) = false := by simp
  go_enter Tryd.func35, Tryd.ntmps35
  go_wp2
  go_ret
  exact ⟨rfl, ((Below.refl _ _).alloc (Nat.le_refl _) _).alloc (by simp) _⟩

theorem Tryd.infoTotal : (Tryd.prog.info? 63).map (fun i => (i.zero, i.size, i.bytes)) = some (some (.agg #[.int .i64 0, .int .i64 0]), 2, 16) := by kernel_rfl

set_option maxHeartbeats 1000000 in
theorem toTots_some (b off len cap : Nat) (js : List (Int × Int)) (hl : len ≤ 1048576) (hz : len = js.length) (w : World) (hbs : b < w.heap.size) (hc : ∀ j, j < len → w.cell? ⟨b, off + j * 2, none⟩ = some (.int .i64 (rd js j)) ∧ w.cell? ⟨b, off + j * 2 + 1, none⟩ = some (.int .i64 (rv js j))) :
    Calls Tryd.prog 13 #[.slice (some ⟨b, off, none⟩) len cap] w fun e w' => e = .returned (.slice (some ⟨w.heap.size, 0, none⟩) len len) ∧ Below w.heap.size w w' ∧ Rst w' w.heap.size js ∧ w.heap.size < w'.heap.size := by
  obtain ⟨i0, hi, hz0, hz1, hz2⟩ := info_parts Tryd.infoTotal
  have HC := hid hc
  have HZ := hid hz
  clear hc hz
  go_enter Tryd.func13, Tryd.ntmps13
  go_wp2_with (at_make; refine wpList_make_full _ rfl _ _ 33 rfl w.heap.size 63 i0 (.agg #[.int .i64 0, .int .i64 0]) 2 Tryd.underlying33 hi hz0 hz1 .i64 .i64 _ _ len rfl rfl rfl rfl (by rw [hz2]; omega) (by unfold maxLen; omega) (Nat.le_refl _) ?_; intro w1 hown hgrow)
  have hrow := Row.of_ownsN hown rfl
  rw [rcp_zero js len] at hrow
  have hB1 : Below w.heap.size w w1 := (Below.refl _ w).grown hgrow (Nat.le_refl _) (fun k e => by cases e)
  clear hown hgrow
  go_loopw [4] (fun i wr => ∃ k : Nat, k ≤ len ∧ i = .int .i64 k ∧ Row wr w.heap.size 63 (rcp js len k) ∧ Below w.heap.size w wr) (fun i _ => len - (intOf i).toNat)
  case atStart => exact ⟨0, Nat.zero_le _, rfl, hrow, hB1⟩
  case round =>
    clear hrow hB1
    obtain ⟨k, hk, rfl, hrow, hB⟩ := hrel
    by_cases hlt : k < len
    · have c0 : wr.cell? ⟨b, off + k * 2, none⟩ = some (.int .i64 (rd js k)) := (hB.cell (p := ⟨b, off + k * 2, none⟩) hbs).trans (HC.out k hlt).1
      have c1 : wr.cell? ⟨b, off + k * 2 + 1, none⟩ = some (.int .i64 (rv js k)) := (hB.cell (p := ⟨b, off + k * 2 + 1, none⟩) hbs).trans (HC.out k hlt).2
      have hlr := hrow.lt
      obtain ⟨x, hx⟩ : ∃ x, x = rd js k := ⟨_, rfl⟩
      obtain ⟨y, hy⟩ : ∃ y, y = rv js k := ⟨_, rfl⟩
      rw [← hx] at c0
      rw [← hy] at c1
      have HS := hid (rcp_set js len k hlt)
      rw [← hx, ← hy] at HS
      clear hx hy
      have HR := hid hrow
      clear hrow
      go_wp2_with fail
      refine (toTotal_any x y _).mono ?_
      rintro e w2 ⟨rfl, hB2⟩
      have hz2 := hB2.size
      have r1 := HR.out.below hB2 hlr
      have f0 := r1.frozen (k * 2)
      have f1 := r1.frozen (k * 2 + 1)
      obtain ⟨o0, h0⟩ : ∃ v, w2.cell? ⟨w.heap.size, k * 2, none⟩ = some v := ⟨_, (r1.cell (k * 2)).trans (List.getElem?_eq_getElem (by rw [rcp_len]; omega))⟩
      obtain ⟨o1, h1⟩ : ∃ v, w2.cell? ⟨w.heap.size, k * 2 + 1, none⟩ = some v := ⟨_, (r1.cell (k * 2 + 1)).trans (List.getElem?_eq_getElem (by rw [rcp_len]; omega))⟩
      have r2 := hid ((r1.set (k * 2) (.int .i64 x)).set (k * 2 + 1) (.int .i64 y))
      rw [HS.out] at r2
      have b2 := hid (((hB.trans (hB2.mono (by omega))).setCell (p := ⟨w.heap.size, k * 2, none⟩) (Nat.le_refl _) (.int .i64 x)).setCell (p := ⟨w.heap.size, k * 2 + 1, none⟩) (Nat.le_refl _) (.int .i64 y))
      clear r1
      go_wp2_with fail
      go_roundw
      case rel => exact ⟨k + 1, by omega, by go_num, r2.out, b2.out⟩
      case measure => simp [intOf]; omega
    · obtain rfl : k = len := by omega
      have hlr := hrow.lt
      have HR := hid hrow
      clear hrow
      go_wp2_with fail
      go_ret
      exact ⟨rfl, hB, ⟨hlr, fun j hj => ⟨(HR.out.cell _).trans (rcp_get js k j (by have := HZ.out; omega)).1, (HR.out.cell _).trans (rcp_get js k j (by have := HZ.out; omega)).2⟩, by have := HZ.out; omega⟩, hlr⟩
set_option maxHeartbeats 400000 in
theorem toTots_none (a : Option Addr) (cap : Nat) (w : World) :
    Calls Tryd.prog 13 #[.slice a 0 cap] w fun e w' => e = .returned (.slice (some ⟨w.heap.size, 0, none⟩) 0 0) ∧ Below w.heap.size w w' ∧ Rst w' w.heap.size [] ∧ w.heap.size < w'.heap.size := by
  obtain ⟨i0, hi, hz0, hz1, hz2⟩ := info_parts Tryd.infoTotal
  go_enter Tryd.func13, Tryd.ntmps13
  go_wp2_with (at_make; refine wpList_make_full _ rfl _ _ 33 rfl w.heap.size 63 i0 (.agg #[.int .i64 0, .int .i64 0]) 2 Tryd.underlying33 hi hz0 hz1 .i64 .i64 _ _ 0 rfl rfl rfl rfl (by rw [hz2]; omega) (by unfold maxLen; omega) (Nat.le_refl _) ?_; intro w1 hown hgrow)
  have hrow := Row.of_ownsN hown rfl
  have hB : Below w.heap.size w w1 := (Below.refl _ w).grown hgrow (Nat.le_refl _) (fun k e => by cases e)
  clear hown hgrow
  refine wp_loop_rounds 1 ?_
  rw [rounds_succ]
  go_wp2
  go_ret
  exact ⟨rfl, hB, ⟨hrow.lt, fun j hj => by simp at hj, by simp⟩, hrow.lt⟩
/-- laws.toTotalS at whatever argument. -/
theorem toTots_any (a : Option Addr) (len cap : Nat) (js : List (Int × Int)) (w : World) (h : InR w a len js) (hl : len ≤ 1048576) :
    Calls Tryd.prog 13 #[.slice a len cap] w fun e w' => e = .returned (.slice (some ⟨w.heap.size, 0, none⟩) len len) ∧ Below w.heap.size w w' ∧ Rst w' w.heap.size js ∧ w.heap.size < w'.heap.size := by
  by_cases h0 : len = 0
  · have hz := h.1
    subst h0
    obtain rfl : js = [] := List.length_eq_zero_iff.1 hz
    exact toTots_none a cap w
  · rcases h.2.2 with h0' | ⟨b, off, rfl, hb, hc⟩
    · exact absurd h0' h0
    · exact toTots_some b off len cap js hl h.1.symm w hb hc
set_option maxHeartbeats 1000000 in
theorem eqTots_same (b1 b2 n c1 c2 : Nat) (js : List (Int × Int)) (w : World) (h1 : Rst w b1 js) (h2 : Rst w b2 js) (hn : n = js.length) :
    Calls Tryd.prog 15 #[.slice (some ⟨b1, 0, none⟩) n c1, .slice (some ⟨b2, 0, none⟩) n c2] w fun e w' => e = .returned (.bool true) ∧ Below w.heap.size w w' := by
  have hl := h1.2.2
  have hC1 := hid h1.2.1
  have hC2 := hid h2.2.1
  have hb1 := h1.1
  have hb2 := h2.1
  have hN := hid hn
  rw [← hn] at hl
  clear h1 h2 hn
  have hne : ((n : Int) != (n : Int)) = false := by simp
  go_enter Tryd.func15, Tryd.ntmps15
  go_wp2
  go_loopw [5] (fun i wr => ∃ k : Nat, k ≤ n ∧ i = .int .i64 k ∧ Below w.heap.size w wr) (fun i _ => n - (intOf i).toNat)
  case atStart => exact ⟨0, Nat.zero_le _, rfl, Below.refl _ _⟩
  case round =>
    obtain ⟨k, hk, rfl, hB⟩ := hrel
    by_cases hlt : k < n
    · have x1 := (hB.cell (p := ⟨b1, k * 2, none⟩) hb1).trans (hC1.out k (by rw [← hN.out]; exact hlt)).1
      have x2 := (hB.cell (p := ⟨b1, k * 2 + 1, none⟩) hb1).trans (hC1.out k (by rw [← hN.out]; exact hlt)).2
      have y1 := (hB.cell (p := ⟨b2, k * 2, none⟩) hb2).trans (hC2.out k (by rw [← hN.out]; exact hlt)).1
      have y2 := (hB.cell (p := ⟨b2, k * 2 + 1, none⟩) hb2).trans (hC2.out k (by rw [← hN.out]; exact hlt)).2
      have hlt' : (k : Int) < (n : Int) := by omega
      have hk0 : (0 : Int) ≤ (k : Int) := by omega
      have hzr := hB.size
      obtain ⟨x, hx⟩ : ∃ x, x = rd js k := ⟨_, rfl⟩
      obtain ⟨y, hy⟩ : ∃ y, y = rv js k := ⟨_, rfl⟩
      rw [← hx] at x1 y1
      rw [← hy] at x2 y2
      clear hx hy
      go_wp2_with fail
      go_region_held3 (fun w' => w'.cell? ⟨b1, k * 2, none⟩ = some (.int .i64 x) ∧ w'.cell? ⟨b1, k * 2 + 1, none⟩ = some (.int .i64 y) ∧ w'.cell? ⟨b2, k * 2, none⟩ = some (.int .i64 x) ∧ w'.cell? ⟨b2, k * 2 + 1, none⟩ = some (.int .i64 y)) (first | exact hq | exact ⟨x1, x2, y1, y2⟩) ((go_at_call 35; have hX := eqTotal_same x y wr.drew; refine hX.mono ?_; clear hX; rintro e w1 ⟨rfl, hB1⟩; have hq := And.intro ((hB1.cell (p := ⟨b1, k * 2, none⟩) (Nat.lt_of_lt_of_le hb1 hzr)).trans x1) (And.intro ((hB1.cell (p := ⟨b1, k * 2 + 1, none⟩) (Nat.lt_of_lt_of_le hb1 hzr)).trans x2) (And.intro ((hB1.cell (p := ⟨b2, k * 2, none⟩) (Nat.lt_of_lt_of_le hb2 hzr)).trans y1) ((hB1.cell (p := ⟨b2, k * 2 + 1, none⟩) (Nat.lt_of_lt_of_le hb2 hzr)).trans y2)))))
      go_wp2_with fail
      all_goals go_roundw
      case rel => exact ⟨k + 1, by omega, by go_num, hB.trans ((Below.refl wr.heap.size wr).drew.mono hzr |>.trans (hB1.mono hzr))⟩
      case measure => simp [intOf]; omega
    · obtain rfl : k = n := by omega
      go_wp2_with fail
      go_ret
      exact ⟨rfl, hB⟩

end Go.Proofs.YtkdndejfdlbcbaaDoor
