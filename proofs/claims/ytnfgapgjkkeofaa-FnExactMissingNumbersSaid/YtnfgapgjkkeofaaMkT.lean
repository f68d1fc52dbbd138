/- Tickets that are copied to be written over. -/
import Derived.Test.YtnfgapgjkkeofaaTicks
import Derived.Test.YtnfgapgjkkeofaaDevR
import Derived.Test.YtnfgapgjkkeofaaOwnI
namespace Go.Proofs.Ytnfgapgjkkeofaa
open Go.RowKit
set_option linter.unusedVariables false
set_option linter.unusedSimpArgs false
theorem OwnI.only {g base : Nat} {w w' : World} {v : Value} {zs : List Int} (h : OwnI w base v zs) (o : OnlyB g w w') (hg : g < base) : OwnI w' base v zs := by
  obtain ⟨a, cap, h1, h2, h3⟩ := h
  refine ⟨a, cap, h1, h2, ?_⟩
  rcases h3 with h0 | ⟨q, rest, e, hq, hr⟩
  · exact .inl h0
  · exact .inr ⟨q, rest, e, hq, o.row hr (by omega)⟩
theorem OwnI.later {w w' : World} {base : Nat} {v : Value} {zs : List Int} (h : OwnI w base v zs) (hb : Below w.heap.size w w') : OwnI w' base v zs := h.low (Below.refl _ _) (Nat.le_refl _) hb
theorem Row.tst {w : World} {g n : Nat} {ts : List (Nat → Int)} (h : Row w g 48 (tcp ts n n)) (hn : n = ts.length) (hl : n ≤ 1048576) : Tst w g ts :=
  ⟨h.lt, fun j hj i hi => (h.cell _).trans (tcp_get ts n j i (by omega) hi), by omega⟩
set_option maxRecDepth 100000 in
set_option maxHeartbeats 4000000 in
theorem toTicksR_some (b off len cap : Nat) (ts : List (Nat → Int)) (hl : len ≤ 1048576) (hz : len = ts.length) (w : World) (hbs : b < w.heap.size) (hc : ∀ j, j < len → ∀ i, i < 10 → w.cell? ⟨b, off + j * 10 + i, none⟩ = some (tkv i (tk ts j i))) :
    Calls Try.prog 8 #[.slice (some ⟨b, off, none⟩) len cap] w fun e w' => e = .returned (.slice (some ⟨w.heap.size, 0, none⟩) len len) ∧ Below w.heap.size w w' ∧ Row w' w.heap.size 48 (tcp ts len len) ∧ w.heap.size < w'.heap.size := by
  obtain ⟨i0, hi, hz0, hz1, hz2⟩ := info_parts Try.infoTicket
  have HC := hid hc
  have HZ := hid hz
  clear hc hz
  go_enter Try.func8, Try.ntmps8
  go_wp2_with (at_make; refine wpList_make_full _ rfl _ _ 29 rfl w.heap.size 48 i0 (.agg #[.int .i64 0, .int .u8 0, .int .u8 0, .int .u8 0, .int .u8 0, .int .u8 0, .int .u8 0, .int .u8 0, .int .u8 0, .int .u16 0]) 10 Try.underlying29 hi hz0 hz1 .i64 .i64 _ _ len rfl rfl rfl rfl (by rw [hz2]; omega) (by unfold maxLen; omega) (Nat.le_refl _) ?_; intro w1 hown hgrow)
  have hrow := Row.of_ownsT hown rfl
  rw [tcp_zero ts len] at hrow
  have hB1 : Below w.heap.size w w1 := (Below.refl _ w).grown hgrow (Nat.le_refl _) (fun k e => by cases e)
  clear hown hgrow
  go_loopw [4] (fun i wr => ∃ k : Nat, k ≤ len ∧ i = .int .i64 k ∧ Row wr w.heap.size 48 (tcp ts len k) ∧ Below w.heap.size w wr) (fun i _ => len - (intOf i).toNat)
  case atStart => exact ⟨0, Nat.zero_le _, rfl, hrow, hB1⟩
  case round =>
    clear hrow hB1
    obtain ⟨k, hk, rfl, hrow, hB⟩ := hrel
    by_cases hlt : k < len
    · have c0 : wr.cell? ⟨b, off + k * 10, none⟩ = some (.int .i64 (tk ts k 0)) := (hB.cell (p := ⟨b, off + k * 10, none⟩) hbs).trans (HC.out k hlt 0 (by omega))
      have c1 : wr.cell? ⟨b, off + k * 10 + 1, none⟩ = some (.int .u8 (tk ts k 1)) := (hB.cell (p := ⟨b, off + k * 10 + 1, none⟩) hbs).trans (HC.out k hlt 1 (by omega))
      have c2 : wr.cell? ⟨b, off + k * 10 + 2, none⟩ = some (.int .u8 (tk ts k 2)) := (hB.cell (p := ⟨b, off + k * 10 + 2, none⟩) hbs).trans (HC.out k hlt 2 (by omega))
      have c3 : wr.cell? ⟨b, off + k * 10 + 3, none⟩ = some (.int .u8 (tk ts k 3)) := (hB.cell (p := ⟨b, off + k * 10 + 3, none⟩) hbs).trans (HC.out k hlt 3 (by omega))
      have c4 : wr.cell? ⟨b, off + k * 10 + 4, none⟩ = some (.int .u8 (tk ts k 4)) := (hB.cell (p := ⟨b, off + k * 10 + 4, none⟩) hbs).trans (HC.out k hlt 4 (by omega))
      have c5 : wr.cell? ⟨b, off + k * 10 + 5, none⟩ = some (.int .u8 (tk ts k 5)) := (hB.cell (p := ⟨b, off + k * 10 + 5, none⟩) hbs).trans (HC.out k hlt 5 (by omega))
      have c6 : wr.cell? ⟨b, off + k * 10 + 6, none⟩ = some (.int .u8 (tk ts k 6)) := (hB.cell (p := ⟨b, off + k * 10 + 6, none⟩) hbs).trans (HC.out k hlt 6 (by omega))
      have c7 : wr.cell? ⟨b, off + k * 10 + 7, none⟩ = some (.int .u8 (tk ts k 7)) := (hB.cell (p := ⟨b, off + k * 10 + 7, none⟩) hbs).trans (HC.out k hlt 7 (by omega))
      have c8 : wr.cell? ⟨b, off + k * 10 + 8, none⟩ = some (.int .u8 (tk ts k 8)) := (hB.cell (p := ⟨b, off + k * 10 + 8, none⟩) hbs).trans (HC.out k hlt 8 (by omega))
      have c9 : wr.cell? ⟨b, off + k * 10 + 9, none⟩ = some (.int .u16 (tk ts k 9)) := (hB.cell (p := ⟨b, off + k * 10 + 9, none⟩) hbs).trans (HC.out k hlt 9 (by omega))
      have hlr := hrow.lt
      have HS := hid (tcp_set ts len k hlt)
      obtain ⟨x0, hx0⟩ : ∃ x, x = tk ts k 0 := ⟨_, rfl⟩
      obtain ⟨x1, hx1⟩ : ∃ x, x = tk ts k 1 := ⟨_, rfl⟩
      obtain ⟨x2, hx2⟩ : ∃ x, x = tk ts k 2 := ⟨_, rfl⟩
      obtain ⟨x3, hx3⟩ : ∃ x, x = tk ts k 3 := ⟨_, rfl⟩
      obtain ⟨x4, hx4⟩ : ∃ x, x = tk ts k 4 := ⟨_, rfl⟩
      obtain ⟨x5, hx5⟩ : ∃ x, x = tk ts k 5 := ⟨_, rfl⟩
      obtain ⟨x6, hx6⟩ : ∃ x, x = tk ts k 6 := ⟨_, rfl⟩
      obtain ⟨x7, hx7⟩ : ∃ x, x = tk ts k 7 := ⟨_, rfl⟩
      obtain ⟨x8, hx8⟩ : ∃ x, x = tk ts k 8 := ⟨_, rfl⟩
      obtain ⟨x9, hx9⟩ : ∃ x, x = tk ts k 9 := ⟨_, rfl⟩
      rw [← hx0] at c0
      rw [← hx1] at c1
      rw [← hx2] at c2
      rw [← hx3] at c3
      rw [← hx4] at c4
      rw [← hx5] at c5
      rw [← hx6] at c6
      rw [← hx7] at c7
      rw [← hx8] at c8
      rw [← hx9] at c9
      have HS := hid (show (((((((((((tcp ts len k).set (k * 10) (.int .i64 x0)).set (k * 10 + 1) (.int .u8 x1)).set (k * 10 + 2) (.int .u8 x2)).set (k * 10 + 3) (.int .u8 x3)).set (k * 10 + 4) (.int .u8 x4)).set (k * 10 + 5) (.int .u8 x5)).set (k * 10 + 6) (.int .u8 x6)).set (k * 10 + 7) (.int .u8 x7)).set (k * 10 + 8) (.int .u8 x8)).set (k * 10 + 9) (.int .u16 x9)) = tcp ts len (k + 1) by rw [← HS.out, hx0, hx1, hx2, hx3, hx4, hx5, hx6, hx7, hx8, hx9]; rfl)
      clear hx0 hx1 hx2 hx3 hx4 hx5 hx6 hx7 hx8 hx9
      have HR := hid hrow
      clear hrow
      go_wp2_with fail
      refine (toTicket_any x0 x1 x2 x3 x4 x5 x6 x7 x8 x9 _).mono ?_
      rintro e w2 ⟨rfl, hB2⟩
      have hz2 := hB2.size
      have r1 := HR.out.below hB2 hlr
      have f0 := r1.frozen (k * 10)
      have f1 := r1.frozen (k * 10 + 1)
      have f2 := r1.frozen (k * 10 + 2)
      have f3 := r1.frozen (k * 10 + 3)
      have f4 := r1.frozen (k * 10 + 4)
      have f5 := r1.frozen (k * 10 + 5)
      have f6 := r1.frozen (k * 10 + 6)
      have f7 := r1.frozen (k * 10 + 7)
      have f8 := r1.frozen (k * 10 + 8)
      have f9 := r1.frozen (k * 10 + 9)
      obtain ⟨o0, h0⟩ : ∃ v, w2.cell? ⟨w.heap.size, k * 10, none⟩ = some v := ⟨_, (r1.cell (k * 10)).trans (List.getElem?_eq_getElem (by rw [tcp_len]; omega))⟩
      obtain ⟨o1, h1⟩ : ∃ v, w2.cell? ⟨w.heap.size, k * 10 + 1, none⟩ = some v := ⟨_, (r1.cell (k * 10 + 1)).trans (List.getElem?_eq_getElem (by rw [tcp_len]; omega))⟩
      obtain ⟨o2, h2⟩ : ∃ v, w2.cell? ⟨w.heap.size, k * 10 + 2, none⟩ = some v := ⟨_, (r1.cell (k * 10 + 2)).trans (List.getElem?_eq_getElem (by rw [tcp_len]; omega))⟩
      obtain ⟨o3, h3⟩ : ∃ v, w2.cell? ⟨w.heap.size, k * 10 + 3, none⟩ = some v := ⟨_, (r1.cell (k * 10 + 3)).trans (List.getElem?_eq_getElem (by rw [tcp_len]; omega))⟩
      obtain ⟨o4, h4⟩ : ∃ v, w2.cell? ⟨w.heap.size, k * 10 + 4, none⟩ = some v := ⟨_, (r1.cell (k * 10 + 4)).trans (List.getElem?_eq_getElem (by rw [tcp_len]; omega))⟩
      obtain ⟨o5, h5⟩ : ∃ v, w2.cell? ⟨w.heap.size, k * 10 + 5, none⟩ = some v := ⟨_, (r1.cell (k * 10 + 5)).trans (List.getElem?_eq_getElem (by rw [tcp_len]; omega))⟩
      obtain ⟨o6, h6⟩ : ∃ v, w2.cell? ⟨w.heap.size, k * 10 + 6, none⟩ = some v := ⟨_, (r1.cell (k * 10 + 6)).trans (List.getElem?_eq_getElem (by rw [tcp_len]; omega))⟩
      obtain ⟨o7, h7⟩ : ∃ v, w2.cell? ⟨w.heap.size, k * 10 + 7, none⟩ = some v := ⟨_, (r1.cell (k * 10 + 7)).trans (List.getElem?_eq_getElem (by rw [tcp_len]; omega))⟩
      obtain ⟨o8, h8⟩ : ∃ v, w2.cell? ⟨w.heap.size, k * 10 + 8, none⟩ = some v := ⟨_, (r1.cell (k * 10 + 8)).trans (List.getElem?_eq_getElem (by rw [tcp_len]; omega))⟩
      obtain ⟨o9, h9⟩ : ∃ v, w2.cell? ⟨w.heap.size, k * 10 + 9, none⟩ = some v := ⟨_, (r1.cell (k * 10 + 9)).trans (List.getElem?_eq_getElem (by rw [tcp_len]; omega))⟩
      have r2 := hid ((((((((((r1.set (k * 10) (.int .i64 x0)).set (k * 10 + 1) (.int .u8 x1)).set (k * 10 + 2) (.int .u8 x2)).set (k * 10 + 3) (.int .u8 x3)).set (k * 10 + 4) (.int .u8 x4)).set (k * 10 + 5) (.int .u8 x5)).set (k * 10 + 6) (.int .u8 x6)).set (k * 10 + 7) (.int .u8 x7)).set (k * 10 + 8) (.int .u8 x8)).set (k * 10 + 9) (.int .u16 x9))
      rw [HS.out] at r2
      have b2 := hid (((((((((((hB.trans (hB2.mono (by omega))).setCell (p := ⟨w.heap.size, k * 10, none⟩) (Nat.le_refl _) (.int .i64 x0)).setCell (p := ⟨w.heap.size, k * 10 + 1, none⟩) (Nat.le_refl _) (.int .u8 x1)).setCell (p := ⟨w.heap.size, k * 10 + 2, none⟩) (Nat.le_refl _) (.int .u8 x2)).setCell (p := ⟨w.heap.size, k * 10 + 3, none⟩) (Nat.le_refl _) (.int .u8 x3)).setCell (p := ⟨w.heap.size, k * 10 + 4, none⟩) (Nat.le_refl _) (.int .u8 x4)).setCell (p := ⟨w.heap.size, k * 10 + 5, none⟩) (Nat.le_refl _) (.int .u8 x5)).setCell (p := ⟨w.heap.size, k * 10 + 6, none⟩) (Nat.le_refl _) (.int .u8 x6)).setCell (p := ⟨w.heap.size, k * 10 + 7, none⟩) (Nat.le_refl _) (.int .u8 x7)).setCell (p := ⟨w.heap.size, k * 10 + 8, none⟩) (Nat.le_refl _) (.int .u8 x8)).setCell (p := ⟨w.heap.size, k * 10 + 9, none⟩) (Nat.le_refl _) (.int .u16 x9))
      clear r1 c0 c1 c2 c3 c4 c5 c6 c7 c8 c9
      go_wp2_with fail
      go_roundw
      case rel => exact ⟨k + 1, by omega, by go_num, r2.out, b2.out⟩
      case measure => simp [intOf]; omega
    · obtain rfl : k = len := by omega
      have hlr := hrow.lt
      have HR := hid hrow
      clear hrow
      go_wp2_with fail
      go_ret
      exact ⟨rfl, hB, HR.out, hlr⟩
theorem toTicksR_none (a : Option Addr) (cap : Nat) (w : World) :
    Calls Try.prog 8 #[.slice a 0 cap] w fun e w' => e = .returned (.slice (some ⟨w.heap.size, 0, none⟩) 0 0) ∧ Below w.heap.size w w' ∧ Row w' w.heap.size 48 (tcp [] 0 0) ∧ w.heap.size < w'.heap.size := by
  obtain ⟨i0, hi, hz0, hz1, hz2⟩ := info_parts Try.infoTicket
  go_enter Try.func8, Try.ntmps8
  go_wp2_with (at_make; refine wpList_make_full _ rfl _ _ 29 rfl w.heap.size 48 i0 (.agg #[.int .i64 0, .int .u8 0, .int .u8 0, .int .u8 0, .int .u8 0, .int .u8 0, .int .u8 0, .int .u8 0, .int .u8 0, .int .u16 0]) 10 Try.underlying29 hi hz0 hz1 .i64 .i64 _ _ 0 rfl rfl rfl rfl (by rw [hz2]; omega) (by unfold maxLen; omega) (Nat.le_refl _) ?_; intro w1 hown hgrow)
  have hrow := Row.of_ownsT hown rfl
  have hB : Below w.heap.size w w1 := (Below.refl _ w).grown hgrow (Nat.le_refl _) (fun k e => by cases e)
  clear hown hgrow
  refine wp_loop_rounds 1 ?_
  rw [rounds_succ]
  go_wp2
  go_ret
  exact ⟨rfl, hB, by simpa [madeCells, tcp] using hrow, hrow.lt⟩
theorem toTicksR_any (a : Option Addr) (len cap : Nat) (ts : List (Nat → Int)) (w : World) (h : InT w a len ts) (hl : len ≤ 1048576) :
    Calls Try.prog 8 #[.slice a len cap] w fun e w' => e = .returned (.slice (some ⟨w.heap.size, 0, none⟩) len len) ∧ Below w.heap.size w w' ∧ Row w' w.heap.size 48 (tcp ts len len) ∧ w.heap.size < w'.heap.size := by
  by_cases h0 : len = 0
  · have hz := h.1
    subst h0
    obtain rfl : ts = [] := List.length_eq_zero_iff.1 hz
    exact toTicksR_none a cap w
  · rcases h.2.2 with h0' | ⟨b, off, rfl, hb, hc⟩
    · exact absurd h0' h0
    · exact toTicksR_some b off len cap ts hl h.1.symm w hb hc
set_option maxHeartbeats 2000000 in
theorem markTicks_any (g n cap : Nat) (xs : List Value) (hx : xs.length = n * 10) (hn : n ≤ 1048576) (k0 : Int) (hk0 : 0 ≤ k0 ∧ k0 ≤ 10000000) (w : World) (hR : Row w g 48 xs) :
    Calls Try.prog 16 #[.slice (some ⟨g, 0, none⟩) n cap, .int .i64 k0] w fun e w' => e = .returned (.int .i64 (k0 + 10 * (n : Int))) ∧ OnlyB g w w' := by
  go_enter Try.func16, Try.ntmps16
  go_wp2_with fail
  go_loopw [1, 5] (fun m i wr => ∃ (k : Nat) (ys : List Value) (z : Int), k ≤ n ∧ i = .int .i64 k ∧ m = .int .i64 z ∧ z = k0 + 10 * (k : Int) ∧ ys.length = n * 10 ∧ Row wr g 48 ys ∧ OnlyB g w wr) (fun _ i _ => n - (intOf i).toNat)
  case atStart => exact ⟨0, xs, k0, Nat.zero_le _, rfl, rfl, by simp, hx, hR, OnlyB.refl _ _⟩
  case round =>
    clear hR hx
    obtain ⟨k, ys, z, hk, rfl, rfl, hz, hy, hrow, hO⟩ := hrel
    by_cases hlt : k < n
    · have hlt' : (k : Int) < (n : Int) := by omega
      have hk1 : (0 : Int) ≤ (k : Int) := by omega
      have zb : 0 ≤ z ∧ z ≤ 30000000 := by omega
      have f0 := hrow.frozen (k * 10)
      obtain ⟨o0, h0⟩ : ∃ v, wr.cell? ⟨g, k * 10, none⟩ = some v := ⟨_, (hrow.cell (k * 10)).trans (List.getElem?_eq_getElem (by omega))⟩
      have R3 := hid (fun u => hrow.set (k * 10) u)
      have O3 := hid (fun u => hO.set (k * 10) u)
      have HY := hid hy
      have HZ := hid hz
      have t1 : IntKind.i64.wrap (z + 1) = z + 1 := IntWalk.i64_in _ (by omega)
      clear hrow hO hy hz
      go_wp2_with fail
      clear h0 f0
      go_loopw [1, 6] (fun m j wr => ∃ (q : Nat) (ys : List Value) (y : Int), q ≤ 8 ∧ j = .int .i64 q ∧ m = .int .i64 y ∧ y = z + 1 + (q : Int) ∧ ys.length = n * 10 ∧ Row wr g 48 ys ∧ OnlyB g w wr) (fun _ j _ => 8 - (intOf j).toNat)
      case atStart => exact ⟨0, _, _, by omega, rfl, rfl, by simp, by rw [List.length_set]; exact HY.out, R3.out _, O3.out _⟩
      case round =>
        obtain ⟨q, yq, y, hq, rfl, rfl, hyq, hyl, hrow, hO⟩ := hrel
        by_cases hlt2 : q < 8
        · have hlt3 : (q : Int) < 8 := by omega
          have hq1 : (0 : Int) ≤ (q : Int) := by omega
          have f1 := hrow.frozen (k * 10 + 1 + q)
          obtain ⟨o1, h1⟩ : ∃ v, wr.cell? ⟨g, k * 10 + 1 + q, none⟩ = some v := ⟨_, (hrow.cell (k * 10 + 1 + q)).trans (List.getElem?_eq_getElem (by omega))⟩
          have R4 := hid (fun u => hrow.set (k * 10 + 1 + q) u)
          have O4 := hid (fun u => hO.set (k * 10 + 1 + q) u)
          have HYL := hid hyl
          have HYQ := hid hyq
          have t2 : IntKind.i64.wrap (y + 1) = y + 1 := IntWalk.i64_in _ (by omega)
          clear hrow hO hyl hyq
          go_wp2_with fail
          go_roundw
          case rel => exact ⟨q + 1, _, y + 1, by omega, by go_num, rfl, by have := HYQ.out; omega, by rw [List.length_set]; exact HYL.out, R4.out _, O4.out _⟩
          case measure => simp [intOf]; omega
        · obtain rfl : q = 8 := by omega
          have f9 := hrow.frozen (k * 10 + 9)
          obtain ⟨o9, h9⟩ : ∃ v, wr.cell? ⟨g, k * 10 + 9, none⟩ = some v := ⟨_, (hrow.cell (k * 10 + 9)).trans (List.getElem?_eq_getElem (by omega))⟩
          have R4 := hid (fun u => hrow.set (k * 10 + 9) u)
          have O4 := hid (fun u => hO.set (k * 10 + 9) u)
          have HYL := hid hyl
          have HYQ := hid hyq
          have t2 : IntKind.i64.wrap (y + 1) = y + 1 := IntWalk.i64_in _ (by omega)
          clear hrow hO hyl hyq
          go_wp2_with fail
          go_roundw
          case rel => exact ⟨k + 1, _, y + 1, by omega, by go_num, rfl, by have := HYQ.out; have := HZ.out; omega, by rw [List.length_set]; exact HYL.out, R4.out _, O4.out _⟩
          case measure => simp [intOf]; omega
    · obtain rfl : k = n := by omega
      have O3 := hid hO
      have HZ := hid hz
      clear hrow hO hy hz
      go_wp2_with fail
      go_ret
      exact ⟨by rw [← HZ.out]; rfl, O3.out⟩
end Go.Proofs.Ytnfgapgjkkeofaa
