/- Slices of 64-bit numbers: copied, compared, opened. -/
import Derived.Test.YtofpgkbcodopiaaMgP
namespace Go.Proofs.Ytofpgkbcodopiaa
open Go.RowKit Go.ChangeShapes Go.WideShapes Go.ChangeAt

/-- A stack (a slice of bytes) holds the numbers zs from the head of block b on. -/
def Lst (w : World) (b : Nat) (zs : List Int) : Prop :=
  b < w.heap.size ∧ (∀ j, j < zs.length → w.cell? ⟨b, j, none⟩ = some (.int .i64 (zs[j]?.getD 0))) ∧ (∀ z ∈ zs, -9223372036854775808 ≤ z ∧ z ≤ 9223372036854775807) ∧ zs.length ≤ 1048576

theorem Lst.below {w w' : World} {b n : Nat} {zs : List Int} (h : Lst w b zs) (hb : Below n w w') (hn : b < n) : Lst w' b zs :=
  ⟨Nat.lt_of_lt_of_le h.1 hb.size, fun j hj => (hb.cell (p := ⟨b, j, none⟩) hn).trans (h.2.1 j hj), h.2.2.1, h.2.2.2⟩
theorem Row.lst {w : World} {g : Nat} {e : TypeId} {zs : List Int} (h : Row w g e (zs.map (Value.int .i64))) (hz : ∀ z ∈ zs, -9223372036854775808 ≤ z ∧ z ≤ 9223372036854775807) (hl : zs.length ≤ 1048576) : Lst w g zs :=
  ⟨h.lt, fun j hj => by rw [h.cell]; simp [hj], hz, hl⟩

theorem Try.infoI64 : (Try.prog.info? 2).map (fun i => (i.zero, i.size, i.bytes)) = some (some (.int .i64 0), 1, 8) := by kernel_rfl

/-- what k rounds of a copy have made of n zero bytes -/
def cpyI (zs : List Int) (n k : Nat) : List Value := ((zs.take k) ++ List.replicate (n - k) 0).map (Value.int .i64)
theorem cpyI_zero (zs : List Int) (n : Nat) : cpyI zs n 0 = List.replicate n (Value.int .i64 0) := by simp [cpyI]
theorem cpyI_len (zs : List Int) (n k : Nat) (hk : k ≤ n) (hz : n ≤ zs.length) : (cpyI zs n k).length = n := by simp [cpyI]; omega
theorem cpyI_set (zs : List Int) (n k : Nat) (hk : k < n) (hz : n ≤ zs.length) : (cpyI zs n k).set k (.int .i64 (zs[k]?.getD 0)) = cpyI zs n (k + 1) := by
  apply List.ext_getElem?
  intro j
  have h1 : k < zs.length := by omega
  simp only [cpyI, List.getElem?_set, List.getElem?_map, List.length_map, List.getElem?_append, List.length_take, List.length_append, List.length_replicate, List.getElem?_take, List.getElem?_replicate]
  by_cases hj : k = j
  · subst hj
    simp [h1, show min k zs.length = k from by omega, show min (k+1) zs.length = k+1 from by omega]
    omega
  · rw [if_neg hj]
    simp only [show min k zs.length = k from by omega, show min (k+1) zs.length = k+1 from by omega]
    by_cases h2 : j < k
    · simp [h2, show j < k + 1 from by omega]
    · have h3 : ¬ j < k + 1 := by omega
      simp only [h2, h3, if_false]
      by_cases h4 : j < n
      · rw [if_pos (by omega), if_pos (by omega)]
      · rw [if_neg (by omega), if_neg (by omega)]
theorem cpyI_all (zs : List Int) (n : Nat) : cpyI zs n n = (zs.take n).map (Value.int .i64) := by simp [cpyI]

/-- what a law is told of a slice of bytes that came in -/
def InI (w : World) (a : Option Addr) (len : Nat) (zs : List Int) : Prop :=
  zs.length = len ∧ (∀ z ∈ zs, -9223372036854775808 ≤ z ∧ z ≤ 9223372036854775807) ∧ (len = 0 ∨ ∃ b off, a = some ⟨b, off, none⟩ ∧ b < w.heap.size ∧ ∀ j, j < len → w.cell? ⟨b, off + j, none⟩ = some (.int .i64 (zs[j]?.getD 0)))
theorem InI.below {w w' : World} {a : Option Addr} {len : Nat} {zs : List Int} {n : Nat} (h : InI w a len zs) (hb : Below n w w') (hn : w.heap.size ≤ n) : InI w' a len zs := by
  refine ⟨h.1, h.2.1, ?_⟩
  rcases h.2.2 with h0 | ⟨b, off, e, hl, hc⟩
  · exact .inl h0
  · exact .inr ⟨b, off, e, Nat.lt_of_lt_of_le hl hb.size, fun j hj => (hb.cell (p := ⟨b, off + j, none⟩) (Nat.lt_of_lt_of_le hl hn)).trans (hc j hj)⟩

section
variable {H : Type} {enc : TypeId × Value → H} {P : Program} {W : World}

theorem open_int64s {t e : TypeId} (ht : P.underlying t = some (.slice e)) (he : P.underlying e = some (.int .i64)) (hc : P.cellsOf e = 1) {a : Option Addr} {len cap : Nat} {d : DataW H} {p : List MemPlace}
    (h : DataW.Trod enc P W 0 (fun _ => true) true t (.slice a len cap) d p) : ∃ zs, InI W a len zs := by
  obtain ⟨fuel, hf⟩ := h
  rcases open_ints ht he hc hf with ⟨hcs, _⟩ | ⟨x, l, c, zs, hcs, _, hl, hm, hz, hx, hcell, hwz⟩
  · simp [Value.cells] at hcs
    obtain ⟨rfl, rfl, rfl⟩ := hcs
    exact ⟨[], rfl, by simp, .inl rfl⟩
  · simp [Value.cells] at hcs
    obtain ⟨rfl, rfl, rfl⟩ := hcs
    simp only [if_true] at hz
    refine ⟨zs.take len, by simp; omega, fun z hz' => by have := bounds_i64 (hwz z (List.mem_of_mem_take hz')); omega, ?_⟩
    by_cases h0 : len = 0
    · exact .inl h0
    · right
      have hc0 := hcell 0 (by omega)
      obtain ⟨b, off, spot⟩ := x
      have hspot : spot = none := by simpa [Addr.add] using World.cell?_spot hc0
      subst hspot
      have hx' : p = MemPlace.row ⟨b, off, none⟩ zs.length := (Prod.mk.inj hx).2
      have hb : b < W.heap.size := by
        by_cases hb : b < W.heap.size
        · exact hb
        · simp [World.cell?, Addr.add, Array.getElem?_eq_none (Nat.le_of_not_lt hb)] at hc0
      refine ⟨b, off, rfl, hb, fun j hj => ?_⟩
      have := hcell j (by omega)
      rw [show (⟨b, off, none⟩ : Addr).add j = ⟨b, off + j, none⟩ from by
        by_cases h : j = 0
        · subst h; simp [Addr.add]
        · simp [Addr.add, h]] at this
      rw [this]
      simp [hj]

end
end Go.Proofs.Ytofpgkbcodopiaa
