/- Pairs: slices of structs of two small numbers, copied, compared, opened. -/
import Derived.Test.YtdlcbfoghpoliaaOpen
import Derived.Lib.SmallJoins
import Derived.Deep.RegionHeld3
import Derived.Deep.Slices
import Derived.Deep.Fields
import Derived.RegionTactic
namespace Go.Proofs.Ytdlcbfoghpoliaa
open Go.RowKit Go.ChangeShapes Go.WideShapes Go.ChangeAt

def pd (js : List (Int × Int)) (j : Nat) : Int := (js[j]?.getD (0, 0)).1
def pn (js : List (Int × Int)) (j : Nat) : Int := (js[j]?.getD (0, 0)).2
/-- A slice of pairs holds js from the head of block b on. -/
def Pst (w : World) (b : Nat) (js : List (Int × Int)) : Prop :=
  b < w.heap.size ∧ (∀ j, j < js.length → w.cell? ⟨b, j * 2, none⟩ = some (.int .i16 (pd js j)) ∧ w.cell? ⟨b, j * 2 + 1, none⟩ = some (.int .i16 (pn js j))) ∧ js.length ≤ 1048576
theorem Pst.below {w w' : World} {b n : Nat} {js : List (Int × Int)} (h : Pst w b js) (hb : Below n w w') (hn : b < n) : Pst w' b js :=
  ⟨Nat.lt_of_lt_of_le h.1 hb.size, fun j hj => ⟨(hb.cell (p := ⟨b, j * 2, none⟩) hn).trans (h.2.1 j hj).1, (hb.cell (p := ⟨b, j * 2 + 1, none⟩) hn).trans (h.2.1 j hj).2⟩, h.2.2⟩
/-- what a law is told of a slice of pairs that came in -/
def InP (w : World) (a : Option Addr) (len : Nat) (js : List (Int × Int)) : Prop :=
  js.length = len ∧ (∀ j, j < len → (-32768 ≤ pd js j ∧ pd js j ≤ 32767) ∧ (-32768 ≤ pn js j ∧ pn js j ≤ 32767)) ∧ (len = 0 ∨ ∃ b off, a = some ⟨b, off, none⟩ ∧ b < w.heap.size ∧ ∀ j, j < len → w.cell? ⟨b, off + j * 2, none⟩ = some (.int .i16 (pd js j)) ∧ w.cell? ⟨b, off + j * 2 + 1, none⟩ = some (.int .i16 (pn js j)))
theorem InP.below {w w' : World} {a : Option Addr} {len : Nat} {js : List (Int × Int)} {n : Nat} (h : InP w a len js) (hb : Below n w w') (hn : w.heap.size ≤ n) : InP w' a len js := by
  refine ⟨h.1, h.2.1, ?_⟩
  rcases h.2.2 with h0 | ⟨b, off, e, hl, hc⟩
  · exact .inl h0
  · exact .inr ⟨b, off, e, Nat.lt_of_lt_of_le hl hb.size, fun j hj => ⟨(hb.cell (p := ⟨b, off + j * 2, none⟩) (Nat.lt_of_lt_of_le hl hn)).trans (hc j hj).1, (hb.cell (p := ⟨b, off + j * 2 + 1, none⟩) (Nat.lt_of_lt_of_le hl hn)).trans (hc j hj).2⟩⟩

theorem Try.infoPair : (Try.prog.info? 41).map (fun i => (i.zero, i.size, i.bytes)) = some (some (.agg #[.int .i16 0, .int .i16 0]), 2, 4) := by kernel_rfl

def prcell (js : List (Int × Int)) (i : Nat) : Value := if i % 2 = 0 then .int .i16 (pd js (i / 2)) else .int .i16 (pn js (i / 2))
def przero (i : Nat) : Value := if i % 2 = 0 then .int .i16 0 else .int .i16 0
/-- what k rounds of a copy have made of n zero pairs -/
def prcp (js : List (Int × Int)) (n k : Nat) : List Value := (List.range (n * 2)).map fun i => if i < k * 2 then prcell js i else przero i
theorem prcp_len (js : List (Int × Int)) (n k : Nat) : (prcp js n k).length = n * 2 := by simp [prcp]
theorem prcp_zero (js : List (Int × Int)) (n : Nat) : (madeCells (Value.agg #[.int .i16 0, .int .i16 0]).cells (n * 2)).toList = prcp js n 0 := by
  apply List.ext_getElem?
  intro i
  simp only [madeCells, prcp, przero, Value.cells, Array.toList_map, Array.toList_range, List.getElem?_map]
  by_cases hi : i < n * 2
  · simp only [List.getElem?_range hi, Option.map_some]
    have h2 : i % 2 = 0 ∨ i % 2 = 1 := by omega
    rcases h2 with h2 | h2 <;> simp [h2]
  · simp [List.getElem?_eq_none (show (List.range (n * 2)).length ≤ i by simp; omega)]
theorem prcp_set (js : List (Int × Int)) (n k : Nat) (hk : k < n) : ((prcp js n k).set (k * 2) (.int .i16 (pd js k))).set (k * 2 + 1) (.int .i16 (pn js k)) = prcp js n (k + 1) := by
  apply List.ext_getElem?
  intro i
  simp only [prcp, List.getElem?_set, List.getElem?_map, List.length_map, List.length_range, List.length_set]
  by_cases h1 : k * 2 + 1 = i
  · subst h1
    have : (k * 2 + 1) % 2 = 1 := by omega
    have h3 : (k * 2 + 1) / 2 = k := by omega
    have h4 : k * 2 + 1 < n * 2 := by omega
    have h5 : k * 2 + 1 < (k + 1) * 2 := by omega
    simp [h4, h5, prcell, this, h3]
  · rw [if_neg h1]
    by_cases h2 : k * 2 = i
    · subst h2
      have : (k * 2) % 2 = 0 := by omega
      have h3 : (k * 2) / 2 = k := by omega
      have h4 : k * 2 < n * 2 := by omega
      have h5 : k * 2 < (k + 1) * 2 := by omega
      simp [h4, h5, prcell, this, h3]
    · rw [if_neg h2]
      by_cases hi : i < n * 2
      · simp only [List.getElem?_range hi, Option.map_some]
        by_cases h3 : i < k * 2
        · rw [if_pos h3, if_pos (by omega)]
        · rw [if_neg h3, if_neg (by omega)]
      · simp [List.getElem?_eq_none (show (List.range (n * 2)).length ≤ i by simp; omega)]
theorem prcp_get (js : List (Int × Int)) (n : Nat) (j : Nat) (hj : j < n) : (prcp js n n)[j * 2]? = some (.int .i16 (pd js j)) ∧ (prcp js n n)[j * 2 + 1]? = some (.int .i16 (pn js j)) := by
  have h0 : (j * 2) % 2 = 0 := by omega
  have h1 : (j * 2 + 1) % 2 = 1 := by omega
  have h2 : (j * 2) / 2 = j := by omega
  have h3 : (j * 2 + 1) / 2 = j := by omega
  have h4 : j * 2 < n * 2 := by omega
  have h5 : j * 2 + 1 < n * 2 := by omega
  exact ⟨by simp [prcp, prcell, h0, h2, h4], by simp [prcp, prcell, h1, h3, h5]⟩
theorem Row.of_ownsN {w : World} {base g n cap sz : Nat} {e : TypeId} {xs : List Value} (h : w.ownsRow base e sz (.slice (some ⟨g, 0, none⟩) n cap) n xs) (hn : n = cap) : Row w g e xs := by
  subst hn
  rcases h.2 with ⟨h', _⟩ | ⟨g', cap', cur, h', hb, hg, hnc, hcm, hcs, htake⟩
  · simp at h'
  · simp only [Value.slice.injEq, Option.some.injEq, Addr.mk.injEq, and_true, true_and] at h'
    obtain ⟨rfl, rfl⟩ := h'
    unfold Row
    rw [hg, ← htake, List.take_of_length_le (by simp [hcs])]
theorem pd_take (js : List (Int × Int)) (n j : Nat) (h : j < n) : pd (js.take n) j = pd js j := by simp [pd, h]
theorem pn_take (js : List (Int × Int)) (n j : Nat) (h : j < n) : pn (js.take n) j = pn js j := by simp [pn, h]

theorem cell_apart {W : World} {a p : Addr} {u : Value} (h : p.block ≠ a.block) : (W.setCell a u).cell? p = W.cell? p := World.cell?_of_block (Below.heap_setCell W a u p.block h)
section
variable {H : Type} {enc : TypeId × Value → H} {P : Program} {W : World}
theorem list_of {α : Type} (d : α) (Q : Nat → α → Prop) : ∀ (n : Nat), (∀ i, i < n → ∃ x, Q i x) → ∃ l : List α, l.length = n ∧ ∀ i, i < n → Q i (l[i]?.getD d)
  | 0, _ => ⟨[], rfl, fun i h => by omega⟩
  | n + 1, h => by
    obtain ⟨l, hl, hq⟩ := list_of d Q n (fun i hi => h i (by omega))
    obtain ⟨x, hx⟩ := h n (by omega)
    refine ⟨l ++ [x], by simp [hl], fun i hi => ?_⟩
    by_cases e : i = n
    · subst e
      simpa [← hl] using hx
    · have := hq i (by omega)
      rwa [List.getElem?_append_left (by omega)]
theorem open_pairsV {t e : TypeId} {f0 f1 : Field} (ht : P.underlying t = some (.slice e)) (he : P.underlying e = some (.struct #[f0, f1])) (h0 : P.underlying f0.type = some (.int .i16)) (h1 : P.underlying f1.type = some (.int .i16))
    (hone : Go.Deep.oneCellFields P #[f0, f1] = true) (hC : P.cellsOf e = 2) {n : Nat} {v : Value} {y : DataW H × List MemPlace}
    (h : DataW.trod enc P W 0 (fun _ => true) true n t [v] = some y) : ∃ a len cap js, v = .slice a len cap ∧ len ≤ 9223372036854775807 ∧ InP W a len js := by
  rcases Go.Deep.open_slice ht h with ⟨hcs, _⟩ | ⟨x, l, c, m, n', D, Pl, hcs, _, hl, hm, hmm, _, hi⟩
  · obtain rfl : v = .slice none 0 0 := by simpa using hcs
    exact ⟨_, _, _, [], rfl, by omega, rfl, fun j hj => by omega, .inl rfl⟩
  · obtain rfl : v = .slice (some x) l c := by simpa using hcs
    have each : ∀ i, i < l → ∃ p : Int × Int, ((-32768 ≤ p.1 ∧ p.1 ≤ 32767) ∧ (-32768 ≤ p.2 ∧ p.2 ≤ 32767)) ∧ W.cell? (x.add (i * 2)) = some (.int .i16 p.1) ∧ W.cell? (x.add (i * 2 + 1)) = some (.int .i16 p.2) := fun i hil => by
      obtain ⟨cs', hc, ht'⟩ := hi i (by rw [hmm]; split <;> omega)
      rw [hC] at hc
      obtain ⟨_, hcl, hat⟩ := World.cells?_some hc
      obtain ⟨xs, n2, _, _, _, hxl, hf⟩ := DataW.trod_struct he ht'
      obtain ⟨o0, k0⟩ := Go.Deep.hone_of hone 0 f0 rfl
      obtain ⟨o1, k1⟩ := Go.Deep.hone_of hone 1 f1 rfl
      match cs', hcl with
      | [u0, u1], _ =>
        have g0 := hf 0 f0 rfl
        have g1 := hf 1 f1 rfl
        rw [o0, k0] at g0
        rw [o1, k1] at g1
        have x0 : xs[0]? = some (xs[0]'(by rw [hxl]; show _ < 2; omega)) := List.getElem?_eq_getElem _
        have x1 : xs[1]? = some (xs[1]'(by rw [hxl]; show _ < 2; omega)) := List.getElem?_eq_getElem _
        rw [x0] at g0
        rw [x1] at g1
        obtain ⟨z0, e0, _, w0⟩ := DataW.trod_int h0 g0
        obtain ⟨z1, e1, _, w1⟩ := DataW.trod_int h1 g1
        simp at e0 e1
        have a0 := hat 0 (by omega)
        have a1 := hat 1 (by omega)
        have b0 := bounds_i16 w0
        have b1 := bounds_i16 w1
        refine ⟨(z0, z1), ⟨b0, b1⟩, ?_, ?_⟩
        · have : x.add (i * 2) = (x.add (i * 2)).add 0 := by simp [Addr.add]
          rw [this, a0]; simp [e0]
        · have : x.add (i * 2 + 1) = (x.add (i * 2)).add 1 := by rw [Go.Deep.add_add]
          rw [this, a1]; simp [e1]
    obtain ⟨js, hjl, hj⟩ := list_of ((0 : Int), (0 : Int)) _ l each
    refine ⟨_, _, _, js, rfl, by unfold maxLen at hm; omega, hjl, fun j hjl' => (hj j hjl').1, ?_⟩
    by_cases hl0 : l = 0
    · exact .inl hl0
    · right
      have c0 := (hj 0 (by omega)).2.1
      obtain ⟨b, off, spot⟩ := x
      have hspot : spot = none := by simpa [Addr.add] using World.cell?_spot c0
      subst hspot
      have hb : b < W.heap.size := by
        by_cases hb : b < W.heap.size
        · exact hb
        · simp [World.cell?, Addr.add, Array.getElem?_eq_none (Nat.le_of_not_lt hb)] at c0
      have ad : ∀ k, (⟨b, off, none⟩ : Addr).add k = ⟨b, off + k, none⟩ := fun k => by
        by_cases h : k = 0
        · subst h; simp [Addr.add]
        · simp [Addr.add, h]
      refine ⟨b, off, rfl, hb, fun j hjl' => ?_⟩
      have := (hj j hjl').2
      rw [ad, ad] at this
      exact ⟨this.1, by rw [← Nat.add_assoc] at this; exact this.2⟩
theorem open_pairs {t e : TypeId} {f0 f1 : Field} (ht : P.underlying t = some (.slice e)) (he : P.underlying e = some (.struct #[f0, f1])) (h0 : P.underlying f0.type = some (.int .i16)) (h1 : P.underlying f1.type = some (.int .i16))
    (hone : Go.Deep.oneCellFields P #[f0, f1] = true) (hC : P.cellsOf e = 2) {a : Option Addr} {len cap : Nat} {d : DataW H} {p : List MemPlace}
    (h : DataW.Trod enc P W 0 (fun _ => true) true t (.slice a len cap) d p) : ∃ js, len ≤ 9223372036854775807 ∧ InP W a len js := by
  obtain ⟨fuel, hf⟩ := h
  obtain ⟨a', len', cap', js, e1, hl, hj⟩ := open_pairsV (v := .slice a len cap) ht he h0 h1 hone hC hf
  simp only [Value.slice.injEq] at e1
  obtain ⟨rfl, rfl, rfl⟩ := e1
  exact ⟨js, hl, hj⟩
end
end Go.Proofs.Ytdlcbfoghpoliaa
