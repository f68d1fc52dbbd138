/- MovingWheels: the parts beyond the digits, the program's closure. -/
import Derived.Test.YtnblflafmmllgaaPa
import Derived.Test.YtnblflafmmllgaaMwT
namespace Go.Proofs.Ytnblflafmmllgaa
open Go.RowKit
set_option linter.unusedVariables false
set_option linter.unusedSimpArgs false
/-- some of eight numbers are taken modulo 1000 -/
def btw (es : List Int) (k : Nat) : List Value := (List.range 8).map fun j => .int .i64 (if j < k then dg es j % 1000 else dg es j)
theorem btw_len (es : List Int) (k : Nat) : (btw es k).length = 8 := by simp [btw]
theorem btw_zero (es : List Int) : btw es 0 = [.int .i64 (dg es 0), .int .i64 (dg es 1), .int .i64 (dg es 2), .int .i64 (dg es 3), .int .i64 (dg es 4), .int .i64 (dg es 5), .int .i64 (dg es 6), .int .i64 (dg es 7)] := rfl
theorem btw_eight (es : List Int) : btw es 8 = [.int .i64 (dg es 0 % 1000), .int .i64 (dg es 1 % 1000), .int .i64 (dg es 2 % 1000), .int .i64 (dg es 3 % 1000), .int .i64 (dg es 4 % 1000), .int .i64 (dg es 5 % 1000), .int .i64 (dg es 6 % 1000), .int .i64 (dg es 7 % 1000)] := rfl
theorem btw_get (es : List Int) (k : Nat) (hk : k < 8) : (btw es k)[k]? = some (.int .i64 (dg es k)) := by simp [btw, hk]
theorem btw_set (es : List Int) (k : Nat) (hk : k < 8) : (btw es k).set k (.int .i64 (dg es k % 1000)) = btw es (k + 1) := by
  apply List.ext_getElem?
  intro i
  rw [List.getElem?_set]
  by_cases hi : i < 8
  · by_cases h : k = i
    · subst h; simp [btw, hi]
    · rw [if_neg h]
      simp only [btw, List.getElem?_map, List.getElem?_range hi, Option.map_some]
      by_cases h2 : i < k
      · rw [if_pos h2, if_pos (by omega)]
      · rw [if_neg h2, if_neg (by omega)]
  · have : k ≠ i := by omega
    rw [if_neg this, List.getElem?_eq_none (by rw [btw_len]; omega), List.getElem?_eq_none (by rw [btw_len]; omega)]
set_option maxRecDepth 100000 in
set_option maxHeartbeats 2000000 in
theorem between_any (es : List Int) (hb : ∀ k, k < 8 → 0 ≤ dg es k ∧ dg es k ≤ 1000000) (w : World) :
    Calls Try.prog 36 #[.agg #[.int .i64 (dg es 0), .int .i64 (dg es 1), .int .i64 (dg es 2), .int .i64 (dg es 3), .int .i64 (dg es 4), .int .i64 (dg es 5), .int .i64 (dg es 6), .int .i64 (dg es 7)]] w fun e w' => e = .returned (.agg #[.int .i64 (dg es 0 % 1000), .int .i64 (dg es 1 % 1000), .int .i64 (dg es 2 % 1000), .int .i64 (dg es 3 % 1000), .int .i64 (dg es 4 % 1000), .int .i64 (dg es 5 % 1000), .int .i64 (dg es 6 % 1000), .int .i64 (dg es 7 % 1000)]) ∧ Below w.heap.size w w' := by
  have bel : Below w.heap.size w ((w.alloc (.cells #[.int .i64 (dg es 0), .int .i64 (dg es 1), .int .i64 (dg es 2), .int .i64 (dg es 3), .int .i64 (dg es 4), .int .i64 (dg es 5), .int .i64 (dg es 6), .int .i64 (dg es 7)] 64)).alloc (.cells #[.int .i64 0, .int .i64 0, .int .i64 0, .int .i64 0, .int .i64 0, .int .i64 0, .int .i64 0, .int .i64 0] 64)) := ((Below.refl _ w).alloc (Nat.le_refl _) _).alloc (by simp) _
  have rA' := (Row.new w 64 (btw es 0)).alloc (.cells #[.int .i64 0, .int .i64 0, .int .i64 0, .int .i64 0, .int .i64 0, .int .i64 0, .int .i64 0, .int .i64 0] 64)
  have rR' := Row.new (w.alloc (.cells #[.int .i64 (dg es 0), .int .i64 (dg es 1), .int .i64 (dg es 2), .int .i64 (dg es 3), .int .i64 (dg es 4), .int .i64 (dg es 5), .int .i64 (dg es 6), .int .i64 (dg es 7)] 64)) 64 [.int .i64 0, .int .i64 0, .int .i64 0, .int .i64 0, .int .i64 0, .int .i64 0, .int .i64 0, .int .i64 0]
  simp only [World.size_alloc] at rR'
  have HB := hid hb
  have HE := hid (btw_eight es)
  obtain ⟨x0, hx0⟩ : ∃ x, dg es 0 % 1000 = x := ⟨_, rfl⟩
  obtain ⟨x1, hx1⟩ : ∃ x, dg es 1 % 1000 = x := ⟨_, rfl⟩
  obtain ⟨x2, hx2⟩ : ∃ x, dg es 2 % 1000 = x := ⟨_, rfl⟩
  obtain ⟨x3, hx3⟩ : ∃ x, dg es 3 % 1000 = x := ⟨_, rfl⟩
  obtain ⟨x4, hx4⟩ : ∃ x, dg es 4 % 1000 = x := ⟨_, rfl⟩
  obtain ⟨x5, hx5⟩ : ∃ x, dg es 5 % 1000 = x := ⟨_, rfl⟩
  obtain ⟨x6, hx6⟩ : ∃ x, dg es 6 % 1000 = x := ⟨_, rfl⟩
  obtain ⟨x7, hx7⟩ : ∃ x, dg es 7 % 1000 = x := ⟨_, rfl⟩
  rw [hx0, hx1, hx2, hx3, hx4, hx5, hx6, hx7] at HE ⊢
  clear hb hx0 hx1 hx2 hx3 hx4 hx5 hx6 hx7
  go_enter Try.func36, Try.ntmps36
  go_wp2_with fail
  go_loopw [4] (fun i wr => ∃ k : Nat, k ≤ 8 ∧ i = .int .i64 k ∧ Row wr w.heap.size 64 (btw es k) ∧ Row wr (w.heap.size + 1) 64 [.int .i64 0, .int .i64 0, .int .i64 0, .int .i64 0, .int .i64 0, .int .i64 0, .int .i64 0, .int .i64 0] ∧ Below w.heap.size w wr) (fun i _ => 8 - (intOf i).toNat)
  case atStart => exact ⟨0, Nat.zero_le _, rfl, rA', rR', bel⟩
  case round =>
    clear rA' rR' bel
    obtain ⟨k, hk, rfl, hA, hR, hB⟩ := hrel
    by_cases hlt : k < 8
    · have hlt' : (k : Int) < 8 := by omega
      have hk0 : (0 : Int) ≤ (k : Int) := by omega
      have hbk := HB.out k hlt
      have c0 : wr.cell? ⟨w.heap.size, k, none⟩ = some (.int .i64 (dg es k)) := (hA.cell k).trans (btw_get es k hlt)
      have f0 := hA.frozen k
      have HS := hid (btw_set es k hlt)
      obtain ⟨x, hx⟩ : ∃ x, dg es k = x := ⟨_, rfl⟩
      rw [hx] at c0 hbk HS
      have e1 : x.tmod 1000 = x % 1000 := Int.tmod_eq_emod_of_nonneg hbk.1
      have r2 := hid (hA.set k (.int .i64 (x % 1000)))
      rw [HS.out] at r2
      have q2 := hid (hR.other (a := ⟨w.heap.size, k, none⟩) (by show w.heap.size ≠ w.heap.size + 1; omega) (.int .i64 (x % 1000)))
      have b2 := hid (hB.setCell (p := ⟨w.heap.size, k, none⟩) (Nat.le_refl _) (.int .i64 (x % 1000)))
      clear hA hR hB hbk hx
      go_wp2_with fail
      go_roundw
      case rel => exact ⟨k + 1, by omega, by go_num, r2.out, q2.out, b2.out⟩
      case measure => simp [intOf]; omega
    · obtain rfl : k = 8 := by omega
      rw [HE.out] at hA
      have a0 := hA.cell 0
      have a1 := hA.cell 1
      have a2 := hA.cell 2
      have a3 := hA.cell 3
      have a4 := hA.cell 4
      have a5 := hA.cell 5
      have a6 := hA.cell 6
      have a7 := hA.cell 7
      have g0 := hR.cell 0; have k0 := hR.frozen 0
      have g1 := hR.cell 1; have k1 := hR.frozen 1
      have g2 := hR.cell 2; have k2 := hR.frozen 2
      have g3 := hR.cell 3; have k3 := hR.frozen 3
      have g4 := hR.cell 4; have k4 := hR.frozen 4
      have g5 := hR.cell 5; have k5 := hR.frozen 5
      have g6 := hR.cell 6; have k6 := hR.frozen 6
      have g7 := hR.cell 7; have k7 := hR.frozen 7
      simp only [List.getElem?_cons_zero, List.getElem?_cons_succ] at a0 a1 a2 a3 a4 a5 a6 a7 g0 g1 g2 g3 g4 g5 g6 g7
      have r2 := hid (hR.set8 rfl (.int .i64 x0) (.int .i64 x1) (.int .i64 x2) (.int .i64 x3) (.int .i64 x4) (.int .i64 x5) (.int .i64 x6) (.int .i64 x7))
      have bb := hid (below_set8 (g := w.heap.size + 1) hB (by omega) (.int .i64 x0) (.int .i64 x1) (.int .i64 x2) (.int .i64 x3) (.int .i64 x4) (.int .i64 x5) (.int .i64 x6) (.int .i64 x7))
      clear hA hR hB
      go_wp2_with fail
      clear g0 k0 g1 k1 g2 k2 g3 k3 g4 k4 g5 k5 g6 k6 g7 k7 a0 a1 a2 a3 a4 a5 a6 a7
      obtain ⟨W, hW⟩ : ∃ W, W = ((((((((wr.setCell ⟨w.heap.size + 1, 0, none⟩ (.int .i64 x0)).setCell ⟨w.heap.size + 1, 1, none⟩ (.int .i64 x1)).setCell ⟨w.heap.size + 1, 2, none⟩ (.int .i64 x2)).setCell ⟨w.heap.size + 1, 3, none⟩ (.int .i64 x3)).setCell ⟨w.heap.size + 1, 4, none⟩ (.int .i64 x4)).setCell ⟨w.heap.size + 1, 5, none⟩ (.int .i64 x5)).setCell ⟨w.heap.size + 1, 6, none⟩ (.int .i64 x6)).setCell ⟨w.heap.size + 1, 7, none⟩ (.int .i64 x7)) := ⟨_, rfl⟩
      rw [← hW] at r2 bb ⊢
      clear hW
      have r2 := r2.out
      have g0 := r2.cell 0; have g1 := r2.cell 1; have g2 := r2.cell 2; have g3 := r2.cell 3; have g4 := r2.cell 4; have g5 := r2.cell 5; have g6 := r2.cell 6; have g7 := r2.cell 7
      simp only [List.getElem?_cons_zero, List.getElem?_cons_succ] at g0 g1 g2 g3 g4 g5 g6 g7
      exact bodyPost_ret (v := .agg #[.int .i64 x0, .int .i64 x1, .int .i64 x2, .int .i64 x3, .int .i64 x4, .int .i64 x5, .int .i64 x6, .int .i64 x7]) (by simp [results, Try.results36, go_sem, g0, g1, g2, g3, g4, g5, g6, g7]) rfl ⟨rfl, bb.out⟩
end Go.Proofs.Ytnblflafmmllgaa
