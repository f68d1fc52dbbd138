/- Slices of 64-bit numbers: copied, compared, opened. -/
import Derived.Test.YtilbpgcgjbblaaaOpen
namespace Go.Proofs.Ytilbpgcgjbblaaa
open Go.RowKit Go.ChangeShapes Go.WideShapes Go.ChangeAt

/-- A stack (a slice of bytes) holds the numbers zs from the head of block b on. -/
def Lst (w : World) (b : Nat) (zs : List Int) : Prop :=
  b < w.heap.size ∧ (∀ j, j < zs.length → w.cell? ⟨b, j, none⟩ = some (.int .i64 (zs[j]?.getD 0))) ∧ (∀ z ∈ zs, -9223372036854775808 ≤ z ∧ z ≤ 9223372036854775807) ∧ zs.length ≤ 1048576

theorem Lst.below {w w' : World} {b n : Nat} {zs : List Int} (h : Lst w b zs) (hb : Below n w w') (hn : b < n) : Lst w' b zs :=
  ⟨Nat.lt_of_lt_of_le h.1 hb.size, fun j hj => (hb.cell (p := ⟨b, j, none⟩) hn).trans (h.2.1 j hj), h.2.2.1, h.2.2.2⟩
theorem Row.lst {w : World} {g : Nat} {e : TypeId} {zs : List Int} (h : Row w g e (zs.map (Value.int .i64))) (hz : ∀ z ∈ zs, -9223372036854775808 ≤ z ∧ z ≤ 9223372036854775807) (hl : zs.length ≤ 1048576) : Lst w g zs :=
  ⟨h.lt, fun j hj => by rw [h.cell]; simp [hj], hz, hl⟩

theorem Try.infoI64 : (Try.prog.info? 2).map (fun i => (i.zero, i.size, i.bytes)) = some (some (.int .i64 0), 1, 8) := by kernel_rfl

/-- what k rounds of a copy have made of n zero bytes -/
def cpyI (zs : List Int) (n k : Nat) : List Value := ((zs.take k) ++ List.replicate (n - k) 0).map (Value.int .i64)
theorem cpyI_zero (zs : List Int) (n : Nat) : cpyI zs n 0 = List.replicate n (Value.int .i64 0) := by simp [cpyI]
theorem cpyI_len (zs : List Int) (n k : Nat) (hk : k ≤ n) (hz : n ≤ zs.length) : (cpyI zs n k).length = n := by simp [cpyI]; omega
theorem cpyI_set (zs : List Int) (n k : Nat) (hk : k < n) (hz : n ≤ zs.length) : (cpyI zs n k).set k (.int .i64 (zs[k]?.getD 0)) = cpyI zs n (k + 1) := by
  apply List.ext_getElem?
  intro j
  have h1 : k < zs.length := by omega
  simp only [cpyI, List.getElem?_set, List.getElem?_map, List.length_map, List.getElem?_append, List.length_take, List.length_append, List.length_replicate, List.getElem?_take, List.getElem?_replicate]
  by_cases hj : k = j
  · subst hj
    simp [h1, show min k zs.length = k from by omega, show min (k+1) zs.length = k+1 from by omega]
    omega
  · rw [if_neg hj]
    simp only [show min k zs.length = k from by omega, show min (k+1) zs.length = k+1 from by omega]
    by_cases h2 : j < k
    · simp [h2, show j < k + 1 from by omega]
    · have h3 : ¬ j < k + 1 := by omega
      simp only [h2, h3, if_false]
      by_cases h4 : j < n
      · rw [if_pos (by omega), if_pos (by omega)]
      · rw [if_neg (by omega), if_neg (by omega)]
theorem cpyI_all (zs : List Int) (n : Nat) : cpyI zs n n = (zs.take n).map (Value.int .i64) := by simp [cpyI]

set_option maxHeartbeats 400000 in
/-- laws.toInt64S at an argument with elements: a new block holds them. -/
theorem toInts_some (b off len cap : Nat) (zs : List Int) (hl : len ≤ 1048576) (hz : len ≤ zs.length) (hb : ∀ z ∈ zs, -9223372036854775808 ≤ z ∧ z ≤ 9223372036854775807) (w : World) (hbs : b < w.heap.size) (hc : ∀ j, j < len → w.cell? ⟨b, off + j, none⟩ = some (.int .i64 (zs[j]?.getD 0))) :
    Calls Try.prog 34 #[.slice (some ⟨b, off, none⟩) len cap] w fun e w' => e = .returned (.slice (some ⟨w.heap.size, 0, none⟩) len len) ∧ Below w.heap.size w w' ∧ Lst w' w.heap.size (zs.take len) ∧ w.heap.size < w'.heap.size := by
  obtain ⟨i0, hi, hz0, hz1, hz2⟩ := info_parts Try.infoI64
  go_enter Try.func34, Try.ntmps34
  go_wp2_with (at_make; refine wpList_make_full _ rfl _ _ 36 rfl w.heap.size 2 i0 (.int .i64 0) 1 Try.underlying36 hi hz0 hz1 .i64 .i64 _ _ len rfl rfl rfl rfl (by rw [hz2]; omega) (by unfold maxLen; omega) (Nat.le_refl _) ?_; intro w1 hown hgrow)
  have hrow := Row.of_owns hown rfl
  rw [show (madeCells (Value.int .i64 0).cells (len * 1)).toList = cpyI zs len 0 from by rw [cpyI_zero, Nat.mul_one]; exact toList_madeCells_one _ _] at hrow
  have hB1 : Below w.heap.size w w1 := (Below.refl _ w).grown hgrow (Nat.le_refl _) (fun k e => by cases e)
  clear hown hgrow
  go_wp2
  go_loopw [4] (fun i wr => ∃ k : Nat, k ≤ len ∧ i = .int .i64 k ∧ Row wr w.heap.size 2 (cpyI zs len k) ∧ Below w.heap.size w wr) (fun i _ => len - (intOf i).toNat)
  case atStart => exact ⟨0, Nat.zero_le _, rfl, hrow, hB1⟩
  case round =>
    clear hrow hB1
    obtain ⟨k, hk, rfl, hrow, hB⟩ := hrel
    by_cases hlt : k < len
    · have hcx : wr.cell? ⟨b, off + k, none⟩ = some (.int .i64 (zs[k]?.getD 0)) := (hB.cell (p := ⟨b, off + k, none⟩) hbs).trans (hc k hlt)
      have hfz := hrow.frozen k
      have hlen := cpyI_len zs len k hk hz
      obtain ⟨old, hold⟩ : ∃ v, wr.cell? ⟨w.heap.size, k, none⟩ = some v := ⟨_, (hrow.cell k).trans (List.getElem?_eq_getElem (by omega))⟩
      have hR2 := hrow.set k (.int .i64 (zs[k]?.getD 0))
      rw [cpyI_set zs len k hlt hz] at hR2
      have hB2 : Below w.heap.size w (wr.setCell ⟨w.heap.size, k, none⟩ (.int .i64 (zs[k]?.getD 0))) := hB.setCell (p := ⟨w.heap.size, k, none⟩) (Nat.le_refl _) _
      clear hlen
      go_wp2
      go_roundw
      case rel => exact ⟨k + 1, by omega, by go_num, hR2, hB2⟩
      case measure => simp [intOf]; omega
    · obtain rfl : k = len := by omega
      rw [cpyI_all] at hrow
      go_wp2
      go_ret
      exact ⟨rfl, hB, hrow.lst (fun z hz' => hb z (List.mem_of_mem_take hz')) (by simp; omega), hrow.lt⟩
set_option maxHeartbeats 400000 in
/-- .. at an argument without elements: a new block without cells. -/
theorem toInts_none (a : Option Addr) (cap : Nat) (w : World) :
    Calls Try.prog 34 #[.slice a 0 cap] w fun e w' => e = .returned (.slice (some ⟨w.heap.size, 0, none⟩) 0 0) ∧ Below w.heap.size w w' ∧ Lst w' w.heap.size [] ∧ w.heap.size < w'.heap.size := by
  obtain ⟨i0, hi, hz0, hz1, hz2⟩ := info_parts Try.infoI64
  go_enter Try.func34, Try.ntmps34
  go_wp2_with (at_make; refine wpList_make_full _ rfl _ _ 36 rfl w.heap.size 2 i0 (.int .i64 0) 1 Try.underlying36 hi hz0 hz1 .i64 .i64 _ _ 0 rfl rfl rfl rfl (by rw [hz2]; omega) (by unfold maxLen; omega) (Nat.le_refl _) ?_; intro w1 hown hgrow)
  have hrow := Row.of_owns hown rfl
  have hB : Below w.heap.size w w1 := (Below.refl _ w).grown hgrow (Nat.le_refl _) (fun k e => by cases e)
  clear hown hgrow
  go_wp2
  refine wp_loop_rounds 1 ?_
  rw [rounds_succ]
  go_wp2
  go_ret
  exact ⟨rfl, hB, Row.lst (zs := []) (by simpa [madeCells] using hrow) (by simp) (by simp), hrow.lt⟩

set_option maxHeartbeats 400000 in
/-- laws.eqInt64S at two stacks with the same numbers. -/
theorem eqInts_same (b1 b2 n c1 c2 : Nat) (zs : List Int) (w : World) (h1 : Lst w b1 zs) (h2 : Lst w b2 zs) (hn : n = zs.length) :
    Calls Try.prog 37 #[.slice (some ⟨b1, 0, none⟩) n c1, .slice (some ⟨b2, 0, none⟩) n c2] w fun e w' => e = .returned (.bool true) ∧ Below w.heap.size w w' := by
  have hl := h1.2.2.2
  have hC1 := hid h1.2.1
  have hC2 := hid h2.2.1
  have hN := hid hn
  rw [← hn] at hl
  clear h1 h2 hn
  have hne : ((n : Int) != (n : Int)) = false := by simp
  go_enter Try.func37, Try.ntmps37
  go_wp2
  go_loopw [5] (fun i wr => ∃ k : Nat, k ≤ n ∧ i = .int .i64 k ∧ ∃ d, wr = w.drewN d) (fun i _ => n - (intOf i).toNat)
  case atStart => exact ⟨0, Nat.zero_le _, rfl, 0, rfl⟩
  case round =>
    obtain ⟨k, hk, rfl, d, rfl⟩ := hrel
    by_cases hlt : k < n
    · have hx1 := hC1.out k (by rw [← hN.out]; exact hlt)
      have hx2 := hC2.out k (by rw [← hN.out]; exact hlt)
      have hb : ((zs[k]?.getD 0) != (zs[k]?.getD 0)) = false := by simp
      have hlt' : (k : Int) < (n : Int) := by omega
      go_wp2
      go_quiet (fail)
      go_wp2
      all_goals go_roundw
      case rel => exact ⟨k + 1, by omega, by go_num, _, rfl⟩
      case measure => simp [intOf]; omega
    · obtain rfl : k = n := by omega
      go_wp2
      go_ret
      exact ⟨rfl, below_drewN (Below.refl _ _) d⟩
/-- what a law is told of a slice of bytes that came in -/
def InI (w : World) (a : Option Addr) (len : Nat) (zs : List Int) : Prop :=
  zs.length = len ∧ (∀ z ∈ zs, -9223372036854775808 ≤ z ∧ z ≤ 9223372036854775807) ∧ (len = 0 ∨ ∃ b off, a = some ⟨b, off, none⟩ ∧ b < w.heap.size ∧ ∀ j, j < len → w.cell? ⟨b, off + j, none⟩ = some (.int .i64 (zs[j]?.getD 0)))
theorem InI.below {w w' : World} {a : Option Addr} {len : Nat} {zs : List Int} {n : Nat} (h : InI w a len zs) (hb : Below n w w') (hn : w.heap.size ≤ n) : InI w' a len zs := by
  refine ⟨h.1, h.2.1, ?_⟩
  rcases h.2.2 with h0 | ⟨b, off, e, hl, hc⟩
  · exact .inl h0
  · exact .inr ⟨b, off, e, Nat.lt_of_lt_of_le hl hb.size, fun j hj => (hb.cell (p := ⟨b, off + j, none⟩) (Nat.lt_of_lt_of_le hl hn)).trans (hc j hj)⟩

section
variable {H : Type} {enc : TypeId × Value → H} {P : Program} {W : World}

theorem open_int64s {t e : TypeId} (ht : P.underlying t = some (.slice e)) (he : P.underlying e = some (.int .i64)) (hc : P.cellsOf e = 1) {a : Option Addr} {len cap : Nat} {d : DataW H} {p : List MemPlace}
    (h : DataW.Trod enc P W 0 (fun _ => true) true t (.slice a len cap) d p) : ∃ zs, InI W a len zs := by
  obtain ⟨fuel, hf⟩ := h
  rcases open_ints ht he hc hf with ⟨hcs, _⟩ | ⟨x, l, c, zs, hcs, _, hl, hm, hz, hx, hcell, hwz⟩
  · simp [Value.cells] at hcs
    obtain ⟨rfl, rfl, rfl⟩ := hcs
    exact ⟨[], rfl, by simp, .inl rfl⟩
  · simp [Value.cells] at hcs
    obtain ⟨rfl, rfl, rfl⟩ := hcs
    simp only [if_true] at hz
    refine ⟨zs.take len, by simp; omega, fun z hz' => by have := bounds_i64 (hwz z (List.mem_of_mem_take hz')); omega, ?_⟩
    by_cases h0 : len = 0
    · exact .inl h0
    · right
      have hc0 := hcell 0 (by omega)
      obtain ⟨b, off, spot⟩ := x
      have hspot : spot = none := by simpa [Addr.add] using World.cell?_spot hc0
      subst hspot
      have hx' : p = MemPlace.row ⟨b, off, none⟩ zs.length := (Prod.mk.inj hx).2
      have hb : b < W.heap.size := by
        by_cases hb : b < W.heap.size
        · exact hb
        · simp [World.cell?, Addr.add, Array.getElem?_eq_none (Nat.le_of_not_lt hb)] at hc0
      refine ⟨b, off, rfl, hb, fun j hj => ?_⟩
      have := hcell j (by omega)
      rw [show (⟨b, off, none⟩ : Addr).add j = ⟨b, off + j, none⟩ from by
        by_cases h : j = 0
        · subst h; simp [Addr.add]
        · simp [Addr.add, h]] at this
      rw [this]
      simp [hj]

end

/-- laws.toInt64S at whatever argument. -/
theorem toInts_any (a : Option Addr) (len cap : Nat) (zs : List Int) (w : World) (h : InI w a len zs) (hl : len ≤ 1048576) :
    Calls Try.prog 34 #[.slice a len cap] w fun e w' => e = .returned (.slice (some ⟨w.heap.size, 0, none⟩) len len) ∧ Below w.heap.size w w' ∧ Lst w' w.heap.size zs ∧ w.heap.size < w'.heap.size := by
  by_cases h0 : len = 0
  · have hz := h.1
    subst h0
    obtain rfl : zs = [] := List.length_eq_zero_iff.1 hz
    exact toInts_none a cap w
  · rcases h.2.2 with h0' | ⟨b, off, rfl, hb, hc⟩
    · exact absurd h0' h0
    · have := toInts_some b off len cap zs hl (by rw [h.1]; exact Nat.le_refl _) h.2.1 w hb hc
      rwa [List.take_of_length_le (by rw [h.1]; exact Nat.le_refl _)] at this

end Go.Proofs.Ytilbpgcgjbblaaa
