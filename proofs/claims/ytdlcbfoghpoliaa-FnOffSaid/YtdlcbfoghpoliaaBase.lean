import Derived.Test.YtdlcbfoghpoliaaProg
import Derived.Test.YtdlcbfoghpoliaaMath
import Derived.WalkKit
import Derived.WalkSpells
import Derived.WalkLawsBesides
import Derived.Deep.QuietTactic
import Derived.BigQuiet
namespace Go.Proofs.Ytdlcbfoghpoliaa
open Go.RowKit
def Row (w : World) (g : Nat) (e : TypeId) (xs : List Value) : Prop := w.heap[g]? = some (.cells xs.toArray e (0, 0))
theorem Row.cell {w : World} {g : Nat} {e : TypeId} {xs : List Value} (h : Row w g e xs) (j : Nat) : w.cell? ⟨g, j, none⟩ = xs[j]? := by
  rw [cell_of_row w g j _ e (0, 0) h]; simp
theorem Row.frozen {w : World} {g : Nat} {e : TypeId} {xs : List Value} (h : Row w g e xs) (j : Nat) : w.frozen? ⟨g, j, none⟩ = false :=
  frozen_of_row w g j _ e h
theorem Row.lt {w : World} {g : Nat} {e : TypeId} {xs : List Value} (h : Row w g e xs) : g < w.heap.size := lt_of_block h
theorem Row.below {w w' : World} {g n : Nat} {e : TypeId} {xs : List Value} (h : Row w g e xs) (hb : Below n w w') (hn : g < n) : Row w' g e xs := (hb.block g hn).trans h
theorem Row.set {w : World} {g : Nat} {e : TypeId} {xs : List Value} (h : Row w g e xs) (j : Nat) (u : Value) : Row (w.setCell ⟨g, j, none⟩ u) g e (xs.set j u) := by
  have := heap_setCell_same w g j _ e u h
  simpa [Row] using this
theorem Row.alloc {w : World} {g : Nat} {e : TypeId} {xs : List Value} (h : Row w g e xs) (o : Obj) : Row (w.alloc o) g e xs :=
  (Below.heap_alloc w o g h.lt).trans h
theorem Row.other {w : World} {g : Nat} {e : TypeId} {xs : List Value} (h : Row w g e xs) {a : Addr} (ha : a.block ≠ g) (u : Value) : Row (w.setCell a u) g e xs :=
  (Below.heap_setCell w a u g (fun e => ha e.symm)).trans h
theorem Row.new (w : World) (e : TypeId) (xs : List Value) : Row (w.alloc (.cells xs.toArray e)) w.heap.size e xs := heap_alloc_new w _
theorem Row.of_owns {w : World} {base g n cap : Nat} {e : TypeId} {xs : List Value} (h : w.ownsRow base e 1 (.slice (some ⟨g, 0, none⟩) n cap) n xs) (hn : n = cap) : Row w g e xs := by
  subst hn
  rcases h.2 with ⟨h', _⟩ | ⟨g', cap', cur, h', hb, hg, hnc, hcm, hcs, htake⟩
  · simp at h'
  · simp only [Value.slice.injEq, Option.some.injEq, Addr.mk.injEq, and_true, true_and] at h'
    obtain ⟨rfl, rfl⟩ := h'
    unfold Row
    rw [hg, ← htake, List.take_of_length_le (by simp [hcs])]

theorem below_drewN {B : Nat} {a w : World} (h : Below B a w) (n : Nat) : Below B a (w.drewN n) := ⟨h.os, h.tape, h.output, h.size, h.block⟩
/-- A stack (a slice of bytes) holds the numbers zs from the head of block b on. -/
def Stk (w : World) (b : Nat) (zs : List Int) : Prop :=
  b < w.heap.size ∧ (∀ j, j < zs.length → w.cell? ⟨b, j, none⟩ = some (.int .u8 (zs[j]?.getD 0))) ∧ (∀ z ∈ zs, 0 ≤ z ∧ z ≤ 255) ∧ zs.length ≤ 1048576

theorem Stk.below {w w' : World} {b n : Nat} {zs : List Int} (h : Stk w b zs) (hb : Below n w w') (hn : b < n) : Stk w' b zs :=
  ⟨Nat.lt_of_lt_of_le h.1 hb.size, fun j hj => (hb.cell (p := ⟨b, j, none⟩) hn).trans (h.2.1 j hj), h.2.2.1, h.2.2.2⟩
theorem Row.stk {w : World} {g : Nat} {e : TypeId} {zs : List Int} (h : Row w g e (zs.map (Value.int .u8))) (hz : ∀ z ∈ zs, 0 ≤ z ∧ z ≤ 255) (hl : zs.length ≤ 1048576) : Stk w g zs :=
  ⟨h.lt, fun j hj => by rw [h.cell]; simp [hj], hz, hl⟩

theorem Try.infoU8 : (Try.prog.info? 5).map (fun i => (i.zero, i.size, i.bytes)) = some (some (.int .u8 0), 1, 1) := by kernel_rfl

/-- what k rounds of a copy have made of n zero bytes -/
def cpy (zs : List Int) (n k : Nat) : List Value := ((zs.take k) ++ List.replicate (n - k) 0).map (Value.int .u8)
theorem cpy_zero (zs : List Int) (n : Nat) : cpy zs n 0 = List.replicate n (Value.int .u8 0) := by simp [cpy]
theorem cpy_len (zs : List Int) (n k : Nat) (hk : k ≤ n) (hz : n ≤ zs.length) : (cpy zs n k).length = n := by simp [cpy]; omega
theorem cpy_set (zs : List Int) (n k : Nat) (hk : k < n) (hz : n ≤ zs.length) : (cpy zs n k).set k (.int .u8 (zs[k]?.getD 0)) = cpy zs n (k + 1) := by
  apply List.ext_getElem?
  intro j
  have h1 : k < zs.length := by omega
  simp only [cpy, List.getElem?_set, List.getElem?_map, List.length_map, List.getElem?_append, List.length_take, List.length_append, List.length_replicate, List.getElem?_take, List.getElem?_replicate]
  by_cases hj : k = j
  · subst hj
    simp [h1, show min k zs.length = k from by omega, show min (k+1) zs.length = k+1 from by omega]
    omega
  · rw [if_neg hj]
    simp only [show min k zs.length = k from by omega, show min (k+1) zs.length = k+1 from by omega]
    by_cases h2 : j < k
    · simp [h2, show j < k + 1 from by omega]
    · have h3 : ¬ j < k + 1 := by omega
      simp only [h2, h3, if_false]
      by_cases h4 : j < n
      · rw [if_pos (by omega), if_pos (by omega)]
      · rw [if_neg (by omega), if_neg (by omega)]
theorem cpy_all (zs : List Int) (n : Nat) : cpy zs n n = (zs.take n).map (Value.int .u8) := by simp [cpy]

end Go.Proofs.Ytdlcbfoghpoliaa
