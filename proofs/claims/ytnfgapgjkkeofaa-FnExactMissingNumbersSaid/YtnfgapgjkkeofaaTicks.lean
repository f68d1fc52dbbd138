/- Lists of tickets: opened, copied, compared. -/
import Derived.Test.YtnfgapgjkkeofaaTickA
import Derived.OwnWalk
import Derived.Deep.Slices
namespace Go.Proofs.Ytnfgapgjkkeofaa
open Go.RowKit Go.ChangeShapes Go.WideShapes Go.ChangeAt
set_option linter.unusedVariables false
set_option linter.unusedSimpArgs false
/-- the i-th number of the j-th ticket: its number, its digits, its check -/
def tk (ts : List (Nat → Int)) (j i : Nat) : Int := (ts[j]?.getD (fun _ => 0)) i
/-- a cell of a ticket -/
def tkv (i : Nat) (x : Int) : Value := if i = 0 then .int .i64 x else if i = 9 then .int .u16 x else .int .u8 x
def tcell (ts : List (Nat → Int)) (i : Nat) : Value := tkv (i % 10) (tk ts (i / 10) (i % 10))
/-- the numbers of a ticket are within their bounds -/
def tkB (f : Nat → Int) : Prop := I64 (f 0) ∧ Oct (f 1) (f 2) (f 3) (f 4) (f 5) (f 6) (f 7) (f 8) ∧ (0 ≤ f 9 ∧ f 9 ≤ 65535)
def Tst (w : World) (b : Nat) (ts : List (Nat → Int)) : Prop :=
  b < w.heap.size ∧ (∀ j, j < ts.length → ∀ i, i < 10 → w.cell? ⟨b, j * 10 + i, none⟩ = some (tkv i (tk ts j i))) ∧ ts.length ≤ 1048576
theorem Tst.below {w w' : World} {b n : Nat} {ts : List (Nat → Int)} (h : Tst w b ts) (hb : Below n w w') (hn : b < n) : Tst w' b ts :=
  ⟨Nat.lt_of_lt_of_le h.1 hb.size, fun j hj i hi => (hb.cell (p := ⟨b, j * 10 + i, none⟩) hn).trans (h.2.1 j hj i hi), h.2.2⟩
/-- what a law is told of tickets that came in -/
def InT (w : World) (a : Option Addr) (len : Nat) (ts : List (Nat → Int)) : Prop :=
  ts.length = len ∧ (∀ j, j < len → tkB (ts[j]?.getD (fun _ => 0))) ∧ (len = 0 ∨ ∃ b off, a = some ⟨b, off, none⟩ ∧ b < w.heap.size ∧ ∀ j, j < len → ∀ i, i < 10 → w.cell? ⟨b, off + j * 10 + i, none⟩ = some (tkv i (tk ts j i)))
theorem InT.below {w w' : World} {a : Option Addr} {len : Nat} {ts : List (Nat → Int)} {n : Nat} (h : InT w a len ts) (hb : Below n w w') (hn : w.heap.size ≤ n) : InT w' a len ts := by
  refine ⟨h.1, h.2.1, ?_⟩
  rcases h.2.2 with h0 | ⟨b, off, e, hl, hc⟩
  · exact .inl h0
  · exact .inr ⟨b, off, e, Nat.lt_of_lt_of_le hl hb.size, fun j hj i hi => (hb.cell (p := ⟨b, off + j * 10 + i, none⟩) (Nat.lt_of_lt_of_le hl hn)).trans (hc j hj i hi)⟩
/-- what k rounds of a copy have made of n zero tickets -/
def tcp (ts : List (Nat → Int)) (n k : Nat) : List Value := (List.range (n * 10)).map fun i => if i < k * 10 then tcell ts i else tkv (i % 10) 0
theorem tcp_len (ts : List (Nat → Int)) (n k : Nat) : (tcp ts n k).length = n * 10 := by simp [tcp]
theorem tcp_at (ts : List (Nat → Int)) (n k i : Nat) : (tcp ts n k)[i]? = if i < n * 10 then some (if i < k * 10 then tcell ts i else tkv (i % 10) 0) else none := by
  by_cases h : i < n * 10
  · simp [tcp, h]
  · rw [if_neg h]; exact List.getElem?_eq_none (by rw [tcp_len]; omega)
theorem tcp_zero (ts : List (Nat → Int)) (n : Nat) : (madeCells (Value.agg #[.int .i64 0, .int .u8 0, .int .u8 0, .int .u8 0, .int .u8 0, .int .u8 0, .int .u8 0, .int .u8 0, .int .u8 0, .int .u16 0]).cells (n * 10)).toList = tcp ts n 0 := by
  apply List.ext_getElem?
  intro i
  rw [tcp_at]
  simp only [madeCells, Value.cells, Array.toList_map, Array.toList_range, List.getElem?_map]
  by_cases hi : i < n * 10
  · simp only [List.getElem?_range hi, Option.map_some, if_pos hi]
    have h2 : i % 10 = 0 ∨ i % 10 = 1 ∨ i % 10 = 2 ∨ i % 10 = 3 ∨ i % 10 = 4 ∨ i % 10 = 5 ∨ i % 10 = 6 ∨ i % 10 = 7 ∨ i % 10 = 8 ∨ i % 10 = 9 := by omega
    rcases h2 with h2 | h2 | h2 | h2 | h2 | h2 | h2 | h2 | h2 | h2 <;> simp [h2, tkv]
  · simp [List.getElem?_eq_none (show (List.range (n * 10)).length ≤ i by simp; omega), hi]
/-- ten cells, one behind the other, are set -/
def set10 (l : List Value) (k : Nat) (v : Nat → Value) : List Value := ((((((((((l.set (k * 10) (v 0)).set (k * 10 + 1) (v 1)).set (k * 10 + 2) (v 2)).set (k * 10 + 3) (v 3)).set (k * 10 + 4) (v 4)).set (k * 10 + 5) (v 5)).set (k * 10 + 6) (v 6)).set (k * 10 + 7) (v 7)).set (k * 10 + 8) (v 8)).set (k * 10 + 9) (v 9))
theorem set10_at (l : List Value) (k : Nat) (v : Nat → Value) (i : Nat) (hl : k * 10 + 9 < l.length) : (set10 l k v)[i]? = if k * 10 ≤ i ∧ i < k * 10 + 10 then some (v (i - k * 10)) else l[i]? := by
  by_cases h : k * 10 ≤ i ∧ i < k * 10 + 10
  · rw [if_pos h]
    obtain ⟨r, rfl⟩ : ∃ r, i = k * 10 + r := ⟨i - k * 10, by omega⟩
    have h2 : r = 0 ∨ r = 1 ∨ r = 2 ∨ r = 3 ∨ r = 4 ∨ r = 5 ∨ r = 6 ∨ r = 7 ∨ r = 8 ∨ r = 9 := by omega
    rw [Nat.add_sub_cancel_left]
    clear h
    rcases h2 with rfl | rfl | rfl | rfl | rfl | rfl | rfl | rfl | rfl | rfl
    all_goals (simp only [set10, List.getElem?_set, List.length_set]; simp; omega)
  · rw [if_neg h]
    simp only [set10, List.getElem?_set, List.length_set]
    rw [if_neg (show ¬ (k * 10 + 9 = i) by omega), if_neg (show ¬ (k * 10 + 8 = i) by omega), if_neg (show ¬ (k * 10 + 7 = i) by omega), if_neg (show ¬ (k * 10 + 6 = i) by omega), if_neg (show ¬ (k * 10 + 5 = i) by omega), if_neg (show ¬ (k * 10 + 4 = i) by omega), if_neg (show ¬ (k * 10 + 3 = i) by omega), if_neg (show ¬ (k * 10 + 2 = i) by omega), if_neg (show ¬ (k * 10 + 1 = i) by omega), if_neg (show ¬ (k * 10 = i) by omega)]
theorem tcp_set (ts : List (Nat → Int)) (n k : Nat) (hk : k < n) : set10 (tcp ts n k) k (fun i => tkv i (tk ts k i)) = tcp ts n (k + 1) := by
  apply List.ext_getElem?
  intro i
  rw [set10_at _ _ _ _ (by rw [tcp_len]; omega), tcp_at, tcp_at]
  by_cases h : k * 10 ≤ i ∧ i < k * 10 + 10
  · rw [if_pos h, if_pos (by omega), if_pos (by omega)]
    obtain ⟨r, rfl⟩ : ∃ r, i = k * 10 + r := ⟨i - k * 10, by omega⟩
    have e1 : (k * 10 + r) % 10 = r := by omega
    have e2 : (k * 10 + r) / 10 = k := by omega
    rw [Nat.add_sub_cancel_left, tcell, e1, e2]
  · rw [if_neg h]
    by_cases hn : i < n * 10
    · rw [if_pos hn, if_pos hn]
      by_cases h3 : i < k * 10
      · rw [if_pos h3, if_pos (by omega)]
      · rw [if_neg h3, if_neg (by omega)]
    · rw [if_neg hn, if_neg hn]
theorem tcp_get (ts : List (Nat → Int)) (n j i : Nat) (hj : j < n) (hi : i < 10) : (tcp ts n n)[j * 10 + i]? = some (tkv i (tk ts j i)) := by
  have e1 : (j * 10 + i) % 10 = i := by omega
  have e2 : (j * 10 + i) / 10 = j := by omega
  rw [tcp_at, if_pos (by omega), if_pos (by omega), tcell, e1, e2]
theorem Try.infoTicket : (Try.prog.info? 48).map (fun i => (i.zero, i.size, i.bytes)) = some (some (.agg #[.int .i64 0, .int .u8 0, .int .u8 0, .int .u8 0, .int .u8 0, .int .u8 0, .int .u8 0, .int .u8 0, .int .u8 0, .int .u16 0]), 10, 24) := by kernel_rfl
theorem Row.of_ownsT {w : World} {base g n cap sz : Nat} {e : TypeId} {xs : List Value} (h : w.ownsRow base e sz (.slice (some ⟨g, 0, none⟩) n cap) n xs) (hn : n = cap) : Row w g e xs := by
  subst hn
  rcases h.2 with ⟨h', _⟩ | ⟨g', cap', cur, h', hb, hg, hnc, hcm, hcs, htake⟩
  · simp at h'
  · simp only [Value.slice.injEq, Option.some.injEq, Addr.mk.injEq, and_true, true_and] at h'
    obtain ⟨rfl, rfl⟩ := h'
    unfold Row
    rw [hg, ← htake, List.take_of_length_le (by simp [hcs])]
set_option maxRecDepth 100000 in
set_option maxHeartbeats 4000000 in
theorem toTicks_some (b off len cap : Nat) (ts : List (Nat → Int)) (hl : len ≤ 1048576) (hz : len = ts.length) (w : World) (hbs : b < w.heap.size) (hc : ∀ j, j < len → ∀ i, i < 10 → w.cell? ⟨b, off + j * 10 + i, none⟩ = some (tkv i (tk ts j i))) :
    Calls Try.prog 8 #[.slice (some ⟨b, off, none⟩) len cap] w fun e w' => e = .returned (.slice (some ⟨w.heap.size, 0, none⟩) len len) ∧ Below w.heap.size w w' ∧ Tst w' w.heap.size ts ∧ w.heap.size < w'.heap.size := by
  obtain ⟨i0, hi, hz0, hz1, hz2⟩ := info_parts Try.infoTicket
  have HC := hid hc
  have HZ := hid hz
  clear hc hz
  go_enter Try.func8, Try.ntmps8
  go_wp2_with (at_make; refine wpList_make_full _ rfl _ _ 29 rfl w.heap.size 48 i0 (.agg #[.int .i64 0, .int .u8 0, .int .u8 0, .int .u8 0, .int .u8 0, .int .u8 0, .int .u8 0, .int .u8 0, .int .u8 0, .int .u16 0]) 10 Try.underlying29 hi hz0 hz1 .i64 .i64 _ _ len rfl rfl rfl rfl (by rw [hz2]; omega) (by unfold maxLen; omega) (Nat.le_refl _) ?_; intro w1 hown hgrow)
  have hrow := Row.of_ownsT hown rfl
  rw [tcp_zero ts len] at hrow
  have hB1 : Below w.heap.size w w1 := (Below.refl _ w).grown hgrow (Nat.le_refl _) (fun k e => by cases e)
  clear hown hgrow
  go_loopw [4] (fun i wr => ∃ k : Nat, k ≤ len ∧ i = .int .i64 k ∧ Row wr w.heap.size 48 (tcp ts len k) ∧ Below w.heap.size w wr) (fun i _ => len - (intOf i).toNat)
  case atStart => exact ⟨0, Nat.zero_le _, rfl, hrow, hB1⟩
  case round =>
    clear hrow hB1
    obtain ⟨k, hk, rfl, hrow, hB⟩ := hrel
    by_cases hlt : k < len
    · have c0 : wr.cell? ⟨b, off + k * 10, none⟩ = some (.int .i64 (tk ts k 0)) := (hB.cell (p := ⟨b, off + k * 10, none⟩) hbs).trans (HC.out k hlt 0 (by omega))
      have c1 : wr.cell? ⟨b, off + k * 10 + 1, none⟩ = some (.int .u8 (tk ts k 1)) := (hB.cell (p := ⟨b, off + k * 10 + 1, none⟩) hbs).trans (HC.out k hlt 1 (by omega))
      have c2 : wr.cell? ⟨b, off + k * 10 + 2, none⟩ = some (.int .u8 (tk ts k 2)) := (hB.cell (p := ⟨b, off + k * 10 + 2, none⟩) hbs).trans (HC.out k hlt 2 (by omega))
      have c3 : wr.cell? ⟨b, off + k * 10 + 3, none⟩ = some (.int .u8 (tk ts k 3)) := (hB.cell (p := ⟨b, off + k * 10 + 3, none⟩) hbs).trans (HC.out k hlt 3 (by omega))
      have c4 : wr.cell? ⟨b, off + k * 10 + 4, none⟩ = some (.int .u8 (tk ts k 4)) := (hB.cell (p := ⟨b, off + k * 10 + 4, none⟩) hbs).trans (HC.out k hlt 4 (by omega))
      have c5 : wr.cell? ⟨b, off + k * 10 + 5, none⟩ = some (.int .u8 (tk ts k 5)) := (hB.cell (p := ⟨b, off + k * 10 + 5, none⟩) hbs).trans (HC.out k hlt 5 (by omega))
      have c6 : wr.cell? ⟨b, off + k * 10 + 6, none⟩ = some (.int .u8 (tk ts k 6)) := (hB.cell (p := ⟨b, off + k * 10 + 6, none⟩) hbs).trans (HC.out k hlt 6 (by omega))
      have c7 : wr.cell? ⟨b, off + k * 10 + 7, none⟩ = some (.int .u8 (tk ts k 7)) := (hB.cell (p := ⟨b, off + k * 10 + 7, none⟩) hbs).trans (HC.out k hlt 7 (by omega))
      have c8 : wr.cell? ⟨b, off + k * 10 + 8, none⟩ = some (.int .u8 (tk ts k 8)) := (hB.cell (p := ⟨b, off + k * 10 + 8, none⟩) hbs).trans (HC.out k hlt 8 (by omega))
      have c9 : wr.cell? ⟨b, off + k * 10 + 9, none⟩ = some (.int .u16 (tk ts k 9)) := (hB.cell (p := ⟨b, off + k * 10 + 9, none⟩) hbs).trans (HC.out k hlt 9 (by omega))
      have hlr := hrow.lt
      have HS := hid (tcp_set ts len k hlt)
      obtain ⟨x0, hx0⟩ : ∃ x, x = tk ts k 0 := ⟨_, rfl⟩
      obtain ⟨x1, hx1⟩ : ∃ x, x = tk ts k 1 := ⟨_, rfl⟩
      obtain ⟨x2, hx2⟩ : ∃ x, x = tk ts k 2 := ⟨_, rfl⟩
      obtain ⟨x3, hx3⟩ : ∃ x, x = tk ts k 3 := ⟨_, rfl⟩
      obtain ⟨x4, hx4⟩ : ∃ x, x = tk ts k 4 := ⟨_, rfl⟩
      obtain ⟨x5, hx5⟩ : ∃ x, x = tk ts k 5 := ⟨_, rfl⟩
      obtain ⟨x6, hx6⟩ : ∃ x, x = tk ts k 6 := ⟨_, rfl⟩
      obtain ⟨x7, hx7⟩ : ∃ x, x = tk ts k 7 := ⟨_, rfl⟩
      obtain ⟨x8, hx8⟩ : ∃ x, x = tk ts k 8 := ⟨_, rfl⟩
      obtain ⟨x9, hx9⟩ : ∃ x, x = tk ts k 9 := ⟨_, rfl⟩
      rw [← hx0] at c0
      rw [← hx1] at c1
      rw [← hx2] at c2
      rw [← hx3] at c3
      rw [← hx4] at c4
      rw [← hx5] at c5
      rw [← hx6] at c6
      rw [← hx7] at c7
      rw [← hx8] at c8
      rw [← hx9] at c9
      have HS := hid (show (((((((((((tcp ts len k).set (k * 10) (.int .i64 x0)).set (k * 10 + 1) (.int .u8 x1)).set (k * 10 + 2) (.int .u8 x2)).set (k * 10 + 3) (.int .u8 x3)).set (k * 10 + 4) (.int .u8 x4)).set (k * 10 + 5) (.int .u8 x5)).set (k * 10 + 6) (.int .u8 x6)).set (k * 10 + 7) (.int .u8 x7)).set (k * 10 + 8) (.int .u8 x8)).set (k * 10 + 9) (.int .u16 x9)) = tcp ts len (k + 1) by rw [← HS.out, hx0, hx1, hx2, hx3, hx4, hx5, hx6, hx7, hx8, hx9]; rfl)
      clear hx0 hx1 hx2 hx3 hx4 hx5 hx6 hx7 hx8 hx9
      have HR := hid hrow
      clear hrow
      go_wp2_with fail
      refine (toTicket_any x0 x1 x2 x3 x4 x5 x6 x7 x8 x9 _).mono ?_
      rintro e w2 ⟨rfl, hB2⟩
      have hz2 := hB2.size
      have r1 := HR.out.below hB2 hlr
      have f0 := r1.frozen (k * 10)
      have f1 := r1.frozen (k * 10 + 1)
      have f2 := r1.frozen (k * 10 + 2)
      have f3 := r1.frozen (k * 10 + 3)
      have f4 := r1.frozen (k * 10 + 4)
      have f5 := r1.frozen (k * 10 + 5)
      have f6 := r1.frozen (k * 10 + 6)
      have f7 := r1.frozen (k * 10 + 7)
      have f8 := r1.frozen (k * 10 + 8)
      have f9 := r1.frozen (k * 10 + 9)
      obtain ⟨o0, h0⟩ : ∃ v, w2.cell? ⟨w.heap.size, k * 10, none⟩ = some v := ⟨_, (r1.cell (k * 10)).trans (List.getElem?_eq_getElem (by rw [tcp_len]; omega))⟩
      obtain ⟨o1, h1⟩ : ∃ v, w2.cell? ⟨w.heap.size, k * 10 + 1, none⟩ = some v := ⟨_, (r1.cell (k * 10 + 1)).trans (List.getElem?_eq_getElem (by rw [tcp_len]; omega))⟩
      obtain ⟨o2, h2⟩ : ∃ v, w2.cell? ⟨w.heap.size, k * 10 + 2, none⟩ = some v := ⟨_, (r1.cell (k * 10 + 2)).trans (List.getElem?_eq_getElem (by rw [tcp_len]; omega))⟩
      obtain ⟨o3, h3⟩ : ∃ v, w2.cell? ⟨w.heap.size, k * 10 + 3, none⟩ = some v := ⟨_, (r1.cell (k * 10 + 3)).trans (List.getElem?_eq_getElem (by rw [tcp_len]; omega))⟩
      obtain ⟨o4, h4⟩ : ∃ v, w2.cell? ⟨w.heap.size, k * 10 + 4, none⟩ = some v := ⟨_, (r1.cell (k * 10 + 4)).trans (List.getElem?_eq_getElem (by rw [tcp_len]; omega))⟩
      obtain ⟨o5, h5⟩ : ∃ v, w2.cell? ⟨w.heap.size, k * 10 + 5, none⟩ = some v := ⟨_, (r1.cell (k * 10 + 5)).trans (List.getElem?_eq_getElem (by rw [tcp_len]; omega))⟩
      obtain ⟨o6, h6⟩ : ∃ v, w2.cell? ⟨w.heap.size, k * 10 + 6, none⟩ = some v := ⟨_, (r1.cell (k * 10 + 6)).trans (List.getElem?_eq_getElem (by rw [tcp_len]; omega))⟩
      obtain ⟨o7, h7⟩ : ∃ v, w2.cell? ⟨w.heap.size, k * 10 + 7, none⟩ = some v := ⟨_, (r1.cell (k * 10 + 7)).trans (List.getElem?_eq_getElem (by rw [tcp_len]; omega))⟩
      obtain ⟨o8, h8⟩ : ∃ v, w2.cell? ⟨w.heap.size, k * 10 + 8, none⟩ = some v := ⟨_, (r1.cell (k * 10 + 8)).trans (List.getElem?_eq_getElem (by rw [tcp_len]; omega))⟩
      obtain ⟨o9, h9⟩ : ∃ v, w2.cell? ⟨w.heap.size, k * 10 + 9, none⟩ = some v := ⟨_, (r1.cell (k * 10 + 9)).trans (List.getElem?_eq_getElem (by rw [tcp_len]; omega))⟩
      have r2 := hid ((((((((((r1.set (k * 10) (.int .i64 x0)).set (k * 10 + 1) (.int .u8 x1)).set (k * 10 + 2) (.int .u8 x2)).set (k * 10 + 3) (.int .u8 x3)).set (k * 10 + 4) (.int .u8 x4)).set (k * 10 + 5) (.int .u8 x5)).set (k * 10 + 6) (.int .u8 x6)).set (k * 10 + 7) (.int .u8 x7)).set (k * 10 + 8) (.int .u8 x8)).set (k * 10 + 9) (.int .u16 x9))
      rw [HS.out] at r2
      have b2 := hid (((((((((((hB.trans (hB2.mono (by omega))).setCell (p := ⟨w.heap.size, k * 10, none⟩) (Nat.le_refl _) (.int .i64 x0)).setCell (p := ⟨w.heap.size, k * 10 + 1, none⟩) (Nat.le_refl _) (.int .u8 x1)).setCell (p := ⟨w.heap.size, k * 10 + 2, none⟩) (Nat.le_refl _) (.int .u8 x2)).setCell (p := ⟨w.heap.size, k * 10 + 3, none⟩) (Nat.le_refl _) (.int .u8 x3)).setCell (p := ⟨w.heap.size, k * 10 + 4, none⟩) (Nat.le_refl _) (.int .u8 x4)).setCell (p := ⟨w.heap.size, k * 10 + 5, none⟩) (Nat.le_refl _) (.int .u8 x5)).setCell (p := ⟨w.heap.size, k * 10 + 6, none⟩) (Nat.le_refl _) (.int .u8 x6)).setCell (p := ⟨w.heap.size, k * 10 + 7, none⟩) (Nat.le_refl _) (.int .u8 x7)).setCell (p := ⟨w.heap.size, k * 10 + 8, none⟩) (Nat.le_refl _) (.int .u8 x8)).setCell (p := ⟨w.heap.size, k * 10 + 9, none⟩) (Nat.le_refl _) (.int .u16 x9))
      clear r1 c0 c1 c2 c3 c4 c5 c6 c7 c8 c9
      go_wp2_with fail
      go_roundw
      case rel => exact ⟨k + 1, by omega, by go_num, r2.out, b2.out⟩
      case measure => simp [intOf]; omega
    · obtain rfl : k = len := by omega
      have hlr := hrow.lt
      have HR := hid hrow
      clear hrow
      go_wp2_with fail
      go_ret
      exact ⟨rfl, hB, ⟨hlr, fun j hj i hi => (HR.out.cell _).trans (tcp_get ts k j i (by have := HZ.out; omega) hi), by have := HZ.out; omega⟩, hlr⟩
theorem toTicks_none (a : Option Addr) (cap : Nat) (w : World) :
    Calls Try.prog 8 #[.slice a 0 cap] w fun e w' => e = .returned (.slice (some ⟨w.heap.size, 0, none⟩) 0 0) ∧ Below w.heap.size w w' ∧ Tst w' w.heap.size [] ∧ w.heap.size < w'.heap.size := by
  obtain ⟨i0, hi, hz0, hz1, hz2⟩ := info_parts Try.infoTicket
  go_enter Try.func8, Try.ntmps8
  go_wp2_with (at_make; refine wpList_make_full _ rfl _ _ 29 rfl w.heap.size 48 i0 (.agg #[.int .i64 0, .int .u8 0, .int .u8 0, .int .u8 0, .int .u8 0, .int .u8 0, .int .u8 0, .int .u8 0, .int .u8 0, .int .u16 0]) 10 Try.underlying29 hi hz0 hz1 .i64 .i64 _ _ 0 rfl rfl rfl rfl (by rw [hz2]; omega) (by unfold maxLen; omega) (Nat.le_refl _) ?_; intro w1 hown hgrow)
  have hrow := Row.of_ownsT hown rfl
  have hB : Below w.heap.size w w1 := (Below.refl _ w).grown hgrow (Nat.le_refl _) (fun k e => by cases e)
  clear hown hgrow
  refine wp_loop_rounds 1 ?_
  rw [rounds_succ]
  go_wp2
  go_ret
  exact ⟨rfl, hB, ⟨hrow.lt, fun j hj => by simp at hj, by simp⟩, hrow.lt⟩
theorem toTicks_any (a : Option Addr) (len cap : Nat) (ts : List (Nat → Int)) (w : World) (h : InT w a len ts) (hl : len ≤ 1048576) :
    Calls Try.prog 8 #[.slice a len cap] w fun e w' => e = .returned (.slice (some ⟨w.heap.size, 0, none⟩) len len) ∧ Below w.heap.size w w' ∧ Tst w' w.heap.size ts ∧ w.heap.size < w'.heap.size := by
  by_cases h0 : len = 0
  · have hz := h.1
    subst h0
    obtain rfl : ts = [] := List.length_eq_zero_iff.1 hz
    exact toTicks_none a cap w
  · rcases h.2.2 with h0' | ⟨b, off, rfl, hb, hc⟩
    · exact absurd h0' h0
    · exact toTicks_some b off len cap ts hl h.1.symm w hb hc
theorem szTicks_ok (a : Option Addr) (len cap : Nat) (w : World) (h : len ≤ 1048576) : Calls Try.prog 5 #[.slice a len cap, .int .i64 1048576] w fun e w' => e = .returned (.int .i64 (1048576 - len)) ∧ w = w' := by
  have h1 : (0 : Int) ≤ 1048576 - (len : Int) := by omega
  go_enter Try.func5, Try.ntmps5
  go_wp2
  go_ret
  exact ⟨rfl, rfl⟩
theorem szTicks_no (a : Option Addr) (len cap : Nat) (w : World) (h : 1048576 < len) (hl : len ≤ 9223372036854775807) : Calls Try.prog 5 #[.slice a len cap, .int .i64 1048576] w fun e w' => e = .returned (.int .i64 (-1)) ∧ w = w' := by
  have h1 : 1048576 - (len : Int) < 0 := by omega
  clear h
  go_enter Try.func5, Try.ntmps5
  go_wp2
  go_ret
  exact ⟨rfl, rfl⟩
theorem eqTicket_same (n d0 d1 d2 d3 d4 d5 d6 d7 c : Int) (w : World) :
    Calls Try.prog 23 #[.agg #[.int .i64 n, .int .u8 d0, .int .u8 d1, .int .u8 d2, .int .u8 d3, .int .u8 d4, .int .u8 d5, .int .u8 d6, .int .u8 d7, .int .u16 c], .agg #[.int .i64 n, .int .u8 d0, .int .u8 d1, .int .u8 d2, .int .u8 d3, .int .u8 d4, .int .u8 d5, .int .u8 d6, .int .u8 d7, .int .u16 c]] w fun e w' => e = .returned (.bool true) ∧ Below w.heap.size w w' := by
  obtain ⟨TC, hTC⟩ : ∃ t, t = #[Value.int .i64 n, .int .u8 d0, .int .u8 d1, .int .u8 d2, .int .u8 d3, .int .u8 d4, .int .u8 d5, .int .u8 d6, .int .u8 d7, .int .u16 c] := ⟨_, rfl⟩
  obtain ⟨W, hW⟩ : ∃ W, W = (w.alloc (.cells TC 48)).alloc (.cells TC 48) := ⟨_, rfl⟩
  have bel : Below w.heap.size w W := by rw [hW]; exact ((Below.refl _ w).alloc (Nat.le_refl _) _).alloc (by simp) _
  have r1 : Row W w.heap.size 48 TC.toList := by rw [hW]; exact (Row.new w _ _).alloc _
  have r2 : Row W (w.heap.size + 1) 48 TC.toList := by
    have h := Row.new (w.alloc (.cells TC 48)) 48 TC.toList
    simp only [World.size_alloc] at h
    rw [hW]; exact h
  have n1 : (n != n) = false := by simp
  have n2 : (c != c) = false := by simp
  rw [hTC] at r1 r2 hW
  have R1 := hid r1
  have R2 := hid r2
  have l1 := r1.lt
  have l2 := r2.lt
  have BE := hid bel
  have HW := hid hW
  have p0 := r1.cell 0; have q0 := r2.cell 0; have p1 := r1.cell 1; have q1 := r2.cell 1; have p2 := r1.cell 2; have q2 := r2.cell 2; have p3 := r1.cell 3; have q3 := r2.cell 3; have p4 := r1.cell 4; have q4 := r2.cell 4; have p5 := r1.cell 5; have q5 := r2.cell 5; have p6 := r1.cell 6; have q6 := r2.cell 6; have p7 := r1.cell 7; have q7 := r2.cell 7; have p8 := r1.cell 8; have q8 := r2.cell 8; have p9 := r1.cell 9; have q9 := r2.cell 9
  simp only [List.getElem?_cons_zero, List.getElem?_cons_succ] at p0 q0 p1 q1 p2 q2 p3 q3 p4 q4 p5 q5 p6 q6 p7 q7 p8 q8 p9 q9
  clear r1 r2 bel hW hTC
  go_enter Try.func23, Try.ntmps23
  go_upto_region 1 with fail
  rw [← HW.out]
  go_wp2_with fail
  refine (eqDigits_same _ _ _ _ _ _ _ _ _).mono ?_
  rintro e w1 ⟨rfl, hB1⟩
  have s1 := R1.out.below hB1 l1
  have s2 := R2.out.below hB1 l2
  clear p0 q0 p1 q1 p2 q2 p3 q3 p4 q4 p5 q5 p6 q6 p7 q7 p8 q8 p9 q9
  have p9 := s1.cell 9; have q9 := s2.cell 9
  simp only [List.getElem?_cons_zero, List.getElem?_cons_succ] at p9 q9
  clear s1 s2
  go_wp2_with fail
  go_ret
  exact ⟨rfl, BE.out.trans (hB1.mono BE.out.size)⟩
set_option maxRecDepth 100000 in
set_option maxHeartbeats 4000000 in
theorem eqTicks_same (b1 b2 n c1 c2 : Nat) (ts : List (Nat → Int)) (w : World) (h1 : Tst w b1 ts) (h2 : Tst w b2 ts) (hn : n = ts.length) :
    Calls Try.prog 11 #[.slice (some ⟨b1, 0, none⟩) n c1, .slice (some ⟨b2, 0, none⟩) n c2] w fun e w' => e = .returned (.bool true) ∧ Below w.heap.size w w' := by
  have hl := h1.2.2
  have hC1 := hid h1.2.1
  have hC2 := hid h2.2.1
  have hb1 := h1.1
  have hb2 := h2.1
  have hN := hid hn
  rw [← hn] at hl
  clear h1 h2 hn
  have hne : ((n : Int) != (n : Int)) = false := by simp
  go_enter Try.func11, Try.ntmps11
  go_wp2
  go_loopw [5] (fun i wr => ∃ k : Nat, k ≤ n ∧ i = .int .i64 k ∧ Below w.heap.size w wr) (fun i _ => n - (intOf i).toNat)
  case atStart => exact ⟨0, Nat.zero_le _, rfl, Below.refl _ _⟩
  case round =>
    obtain ⟨k, hk, rfl, hB⟩ := hrel
    by_cases hlt : k < n
    · have a0 := (hB.cell (p := ⟨b1, k * 10, none⟩) hb1).trans (hC1.out k (by rw [← hN.out]; exact hlt) 0 (by omega)); have e0 := (hB.cell (p := ⟨b2, k * 10, none⟩) hb2).trans (hC2.out k (by rw [← hN.out]; exact hlt) 0 (by omega))
      have a1 := (hB.cell (p := ⟨b1, k * 10 + 1, none⟩) hb1).trans (hC1.out k (by rw [← hN.out]; exact hlt) 1 (by omega)); have e1 := (hB.cell (p := ⟨b2, k * 10 + 1, none⟩) hb2).trans (hC2.out k (by rw [← hN.out]; exact hlt) 1 (by omega))
      have a2 := (hB.cell (p := ⟨b1, k * 10 + 2, none⟩) hb1).trans (hC1.out k (by rw [← hN.out]; exact hlt) 2 (by omega)); have e2 := (hB.cell (p := ⟨b2, k * 10 + 2, none⟩) hb2).trans (hC2.out k (by rw [← hN.out]; exact hlt) 2 (by omega))
      have a3 := (hB.cell (p := ⟨b1, k * 10 + 3, none⟩) hb1).trans (hC1.out k (by rw [← hN.out]; exact hlt) 3 (by omega)); have e3 := (hB.cell (p := ⟨b2, k * 10 + 3, none⟩) hb2).trans (hC2.out k (by rw [← hN.out]; exact hlt) 3 (by omega))
      have a4 := (hB.cell (p := ⟨b1, k * 10 + 4, none⟩) hb1).trans (hC1.out k (by rw [← hN.out]; exact hlt) 4 (by omega)); have e4 := (hB.cell (p := ⟨b2, k * 10 + 4, none⟩) hb2).trans (hC2.out k (by rw [← hN.out]; exact hlt) 4 (by omega))
      have a5 := (hB.cell (p := ⟨b1, k * 10 + 5, none⟩) hb1).trans (hC1.out k (by rw [← hN.out]; exact hlt) 5 (by omega)); have e5 := (hB.cell (p := ⟨b2, k * 10 + 5, none⟩) hb2).trans (hC2.out k (by rw [← hN.out]; exact hlt) 5 (by omega))
      have a6 := (hB.cell (p := ⟨b1, k * 10 + 6, none⟩) hb1).trans (hC1.out k (by rw [← hN.out]; exact hlt) 6 (by omega)); have e6 := (hB.cell (p := ⟨b2, k * 10 + 6, none⟩) hb2).trans (hC2.out k (by rw [← hN.out]; exact hlt) 6 (by omega))
      have a7 := (hB.cell (p := ⟨b1, k * 10 + 7, none⟩) hb1).trans (hC1.out k (by rw [← hN.out]; exact hlt) 7 (by omega)); have e7 := (hB.cell (p := ⟨b2, k * 10 + 7, none⟩) hb2).trans (hC2.out k (by rw [← hN.out]; exact hlt) 7 (by omega))
      have a8 := (hB.cell (p := ⟨b1, k * 10 + 8, none⟩) hb1).trans (hC1.out k (by rw [← hN.out]; exact hlt) 8 (by omega)); have e8 := (hB.cell (p := ⟨b2, k * 10 + 8, none⟩) hb2).trans (hC2.out k (by rw [← hN.out]; exact hlt) 8 (by omega))
      have a9 := (hB.cell (p := ⟨b1, k * 10 + 9, none⟩) hb1).trans (hC1.out k (by rw [← hN.out]; exact hlt) 9 (by omega)); have e9 := (hB.cell (p := ⟨b2, k * 10 + 9, none⟩) hb2).trans (hC2.out k (by rw [← hN.out]; exact hlt) 9 (by omega))
      have hlt' : (k : Int) < (n : Int) := by omega
      have hk0 : (0 : Int) ≤ (k : Int) := by omega
      have hzr := hB.size
      obtain ⟨x0, hx0⟩ : ∃ x, x = tk ts k 0 := ⟨_, rfl⟩
      obtain ⟨x1, hx1⟩ : ∃ x, x = tk ts k 1 := ⟨_, rfl⟩
      obtain ⟨x2, hx2⟩ : ∃ x, x = tk ts k 2 := ⟨_, rfl⟩
      obtain ⟨x3, hx3⟩ : ∃ x, x = tk ts k 3 := ⟨_, rfl⟩
      obtain ⟨x4, hx4⟩ : ∃ x, x = tk ts k 4 := ⟨_, rfl⟩
      obtain ⟨x5, hx5⟩ : ∃ x, x = tk ts k 5 := ⟨_, rfl⟩
      obtain ⟨x6, hx6⟩ : ∃ x, x = tk ts k 6 := ⟨_, rfl⟩
      obtain ⟨x7, hx7⟩ : ∃ x, x = tk ts k 7 := ⟨_, rfl⟩
      obtain ⟨x8, hx8⟩ : ∃ x, x = tk ts k 8 := ⟨_, rfl⟩
      obtain ⟨x9, hx9⟩ : ∃ x, x = tk ts k 9 := ⟨_, rfl⟩
      rw [← hx0] at a0 e0
      rw [← hx1] at a1 e1
      rw [← hx2] at a2 e2
      rw [← hx3] at a3 e3
      rw [← hx4] at a4 e4
      rw [← hx5] at a5 e5
      rw [← hx6] at a6 e6
      rw [← hx7] at a7 e7
      rw [← hx8] at a8 e8
      rw [← hx9] at a9 e9
      change _ = some (Value.int .i64 x0) at a0 e0
      change _ = some (Value.int .u8 x1) at a1 e1
      change _ = some (Value.int .u8 x2) at a2 e2
      change _ = some (Value.int .u8 x3) at a3 e3
      change _ = some (Value.int .u8 x4) at a4 e4
      change _ = some (Value.int .u8 x5) at a5 e5
      change _ = some (Value.int .u8 x6) at a6 e6
      change _ = some (Value.int .u8 x7) at a7 e7
      change _ = some (Value.int .u8 x8) at a8 e8
      change _ = some (Value.int .u16 x9) at a9 e9
      clear hx0 hx1 hx2 hx3 hx4 hx5 hx6 hx7 hx8 hx9
      have hq0 := And.intro a0 (And.intro a1 (And.intro a2 (And.intro a3 (And.intro a4 (And.intro a5 (And.intro a6 (And.intro a7 (And.intro a8 (And.intro a9 (And.intro e0 (And.intro e1 (And.intro e2 (And.intro e3 (And.intro e4 (And.intro e5 (And.intro e6 (And.intro e7 (And.intro e8 (e9)))))))))))))))))))
      have SOF := hid (fun (v : World) (h : Below wr.heap.size wr v) => And.intro ((h.cell (p := ⟨b1, k * 10, none⟩) (Nat.lt_of_lt_of_le hb1 hzr)).trans a0) (And.intro ((h.cell (p := ⟨b1, k * 10 + 1, none⟩) (Nat.lt_of_lt_of_le hb1 hzr)).trans a1) (And.intro ((h.cell (p := ⟨b1, k * 10 + 2, none⟩) (Nat.lt_of_lt_of_le hb1 hzr)).trans a2) (And.intro ((h.cell (p := ⟨b1, k * 10 + 3, none⟩) (Nat.lt_of_lt_of_le hb1 hzr)).trans a3) (And.intro ((h.cell (p := ⟨b1, k * 10 + 4, none⟩) (Nat.lt_of_lt_of_le hb1 hzr)).trans a4) (And.intro ((h.cell (p := ⟨b1, k * 10 + 5, none⟩) (Nat.lt_of_lt_of_le hb1 hzr)).trans a5) (And.intro ((h.cell (p := ⟨b1, k * 10 + 6, none⟩) (Nat.lt_of_lt_of_le hb1 hzr)).trans a6) (And.intro ((h.cell (p := ⟨b1, k * 10 + 7, none⟩) (Nat.lt_of_lt_of_le hb1 hzr)).trans a7) (And.intro ((h.cell (p := ⟨b1, k * 10 + 8, none⟩) (Nat.lt_of_lt_of_le hb1 hzr)).trans a8) (And.intro ((h.cell (p := ⟨b1, k * 10 + 9, none⟩) (Nat.lt_of_lt_of_le hb1 hzr)).trans a9) (And.intro ((h.cell (p := ⟨b2, k * 10, none⟩) (Nat.lt_of_lt_of_le hb2 hzr)).trans e0) (And.intro ((h.cell (p := ⟨b2, k * 10 + 1, none⟩) (Nat.lt_of_lt_of_le hb2 hzr)).trans e1) (And.intro ((h.cell (p := ⟨b2, k * 10 + 2, none⟩) (Nat.lt_of_lt_of_le hb2 hzr)).trans e2) (And.intro ((h.cell (p := ⟨b2, k * 10 + 3, none⟩) (Nat.lt_of_lt_of_le hb2 hzr)).trans e3) (And.intro ((h.cell (p := ⟨b2, k * 10 + 4, none⟩) (Nat.lt_of_lt_of_le hb2 hzr)).trans e4) (And.intro ((h.cell (p := ⟨b2, k * 10 + 5, none⟩) (Nat.lt_of_lt_of_le hb2 hzr)).trans e5) (And.intro ((h.cell (p := ⟨b2, k * 10 + 6, none⟩) (Nat.lt_of_lt_of_le hb2 hzr)).trans e6) (And.intro ((h.cell (p := ⟨b2, k * 10 + 7, none⟩) (Nat.lt_of_lt_of_le hb2 hzr)).trans e7) (And.intro ((h.cell (p := ⟨b2, k * 10 + 8, none⟩) (Nat.lt_of_lt_of_le hb2 hzr)).trans e8) (((h.cell (p := ⟨b2, k * 10 + 9, none⟩) (Nat.lt_of_lt_of_le hb2 hzr)).trans e9)))))))))))))))))))))
      go_wp2_with fail
      go_region_held3 (fun w' => w'.cell? ⟨b1, k * 10, none⟩ = some (.int .i64 x0) ∧ w'.cell? ⟨b1, k * 10 + 1, none⟩ = some (.int .u8 x1) ∧ w'.cell? ⟨b1, k * 10 + 2, none⟩ = some (.int .u8 x2) ∧ w'.cell? ⟨b1, k * 10 + 3, none⟩ = some (.int .u8 x3) ∧ w'.cell? ⟨b1, k * 10 + 4, none⟩ = some (.int .u8 x4) ∧ w'.cell? ⟨b1, k * 10 + 5, none⟩ = some (.int .u8 x5) ∧ w'.cell? ⟨b1, k * 10 + 6, none⟩ = some (.int .u8 x6) ∧ w'.cell? ⟨b1, k * 10 + 7, none⟩ = some (.int .u8 x7) ∧ w'.cell? ⟨b1, k * 10 + 8, none⟩ = some (.int .u8 x8) ∧ w'.cell? ⟨b1, k * 10 + 9, none⟩ = some (.int .u16 x9) ∧ w'.cell? ⟨b2, k * 10, none⟩ = some (.int .i64 x0) ∧ w'.cell? ⟨b2, k * 10 + 1, none⟩ = some (.int .u8 x1) ∧ w'.cell? ⟨b2, k * 10 + 2, none⟩ = some (.int .u8 x2) ∧ w'.cell? ⟨b2, k * 10 + 3, none⟩ = some (.int .u8 x3) ∧ w'.cell? ⟨b2, k * 10 + 4, none⟩ = some (.int .u8 x4) ∧ w'.cell? ⟨b2, k * 10 + 5, none⟩ = some (.int .u8 x5) ∧ w'.cell? ⟨b2, k * 10 + 6, none⟩ = some (.int .u8 x6) ∧ w'.cell? ⟨b2, k * 10 + 7, none⟩ = some (.int .u8 x7) ∧ w'.cell? ⟨b2, k * 10 + 8, none⟩ = some (.int .u8 x8) ∧ w'.cell? ⟨b2, k * 10 + 9, none⟩ = some (.int .u16 x9)) (first | exact hq | exact hq0) ((go_at_call 23; have hX := eqTicket_same x0 x1 x2 x3 x4 x5 x6 x7 x8 x9 wr.drew; refine hX.mono ?_; clear hX; rintro e w1 ⟨rfl, hB1⟩; have hq := SOF.out _ ((Below.refl wr.heap.size wr).drew.trans hB1)))
      go_wp2_with fail
      all_goals go_roundw
      case rel => exact ⟨k + 1, by omega, by go_num, hB.trans ((Below.refl wr.heap.size wr).drew.mono hzr |>.trans (hB1.mono hzr))⟩
      case measure => simp [intOf]; omega
    · obtain rfl : k = n := by omega
      go_wp2_with fail
      go_ret
      exact ⟨rfl, hB⟩
end Go.Proofs.Ytnfgapgjkkeofaa
