/- Lists of acts: copied, opened. -/
import Derived.Test.YtbbdaamhajecfaaDoorActs
import Derived.Lib.SmallJoins
namespace Go.Proofs.YtbbdaamhajecfaaDoor
open Go.RowKit Go.ChangeShapes Go.WideShapes Go.ChangeAt
theorem Row.of_ownsAc {w : World} {base g n cap sz : Nat} {e : TypeId} {xs : List Value} (h : w.ownsRow base e sz (.slice (some ⟨g, 0, none⟩) n cap) n xs) (hn : n = cap) : Row w g e xs := by
  subst hn
  rcases h.2 with ⟨h', _⟩ | ⟨g', cap', cur, h', hb, hg, hnc, hcm, hcs, htake⟩
  · simp at h'
  · simp only [Value.slice.injEq, Option.some.injEq, Addr.mk.injEq, and_true, true_and] at h'
    obtain ⟨rfl, rfl⟩ := h'
    unfold Row
    rw [hg, ← htake, List.take_of_length_le (by simp [hcs])]
/-- what a law is told of a slice of acts that came in -/
def InAc (w : World) (a : Option Addr) (len : Nat) (js : List (Int × Int)) : Prop :=
  js.length = len ∧ (∀ j, j < len → (-128 ≤ ak js j ∧ ak js j ≤ 127) ∧ (-9223372036854775808 ≤ an js j ∧ an js j ≤ 9223372036854775807)) ∧ (len = 0 ∨ ∃ b off, a = some ⟨b, off, none⟩ ∧ b < w.heap.size ∧ ∀ j, j < len → w.cell? ⟨b, off + j * 2, none⟩ = some (.int .i8 (ak js j)) ∧ w.cell? ⟨b, off + j * 2 + 1, none⟩ = some (.int .i64 (an js j)))
theorem InAc.below {w w' : World} {a : Option Addr} {len : Nat} {js : List (Int × Int)} {n : Nat} (h : InAc w a len js) (hb : Below n w w') (hn : w.heap.size ≤ n) : InAc w' a len js := by
  refine ⟨h.1, h.2.1, ?_⟩
  rcases h.2.2 with h0 | ⟨b, off, e, hl, hc⟩
  · exact .inl h0
  · exact .inr ⟨b, off, e, Nat.lt_of_lt_of_le hl hb.size, fun j hj => ⟨(hb.cell (p := ⟨b, off + j * 2, none⟩) (Nat.lt_of_lt_of_le hl hn)).trans (hc j hj).1, (hb.cell (p := ⟨b, off + j * 2 + 1, none⟩) (Nat.lt_of_lt_of_le hl hn)).trans (hc j hj).2⟩⟩
theorem Tryd.infoActL : (Tryd.prog.info? 34).map (fun i => (i.zero, i.size, i.bytes)) = some (some (.agg #[.int .i8 0, .int .i64 0]), 2, 16) := by kernel_rfl
def accell (js : List (Int × Int)) (i : Nat) : Value := if i % 2 = 0 then .int .i8 (ak js (i / 2)) else .int .i64 (an js (i / 2))
def aczero (i : Nat) : Value := if i % 2 = 0 then .int .i8 0 else .int .i64 0
/-- what k rounds of a copy have made of n zero acts -/
def accp (js : List (Int × Int)) (n k : Nat) : List Value := (List.range (n * 2)).map fun i => if i < k * 2 then accell js i else aczero i
theorem accp_len (js : List (Int × Int)) (n k : Nat) : (accp js n k).length = n * 2 := by simp [accp]
theorem accp_zero (js : List (Int × Int)) (n : Nat) : (madeCells (Value.agg #[.int .i8 0, .int .i64 0]).cells (n * 2)).toList = accp js n 0 := by
  apply List.ext_getElem?
  intro i
  simp only [madeCells, accp, aczero, Value.cells, Array.toList_map, Array.toList_range, List.getElem?_map]
  by_cases hi : i < n * 2
  · simp only [List.getElem?_range hi, Option.map_some]
    have h2 : i % 2 = 0 ∨ i % 2 = 1 := by omega
    rcases h2 with h2 | h2 <;> simp [h2]
  · simp [List.getElem?_eq_none (show (List.range (n * 2)).length ≤ i by simp; omega)]
theorem accp_set (js : List (Int × Int)) (n k : Nat) (hk : k < n) : ((accp js n k).set (k * 2) (.int .i8 (ak js k))).set (k * 2 + 1) (.int .i64 (an js k)) = accp js n (k + 1) := by
  apply List.ext_getElem?
  intro i
  simp only [accp, List.getElem?_set, List.getElem?_map, List.length_map, List.length_range, List.length_set]
  by_cases h1 : k * 2 + 1 = i
  · subst h1
    have : (k * 2 + 1) % 2 = 1 := by omega
    have h3 : (k * 2 + 1) / 2 = k := by omega
    have h4 : k * 2 + 1 < n * 2 := by omega
    have h5 : k * 2 + 1 < (k + 1) * 2 := by omega
    simp [h4, h5, accell, this, h3]
  · rw [if_neg h1]
    by_cases h2 : k * 2 = i
    · subst h2
      have : (k * 2) % 2 = 0 := by omega
      have h3 : (k * 2) / 2 = k := by omega
      have h4 : k * 2 < n * 2 := by omega
      have h5 : k * 2 < (k + 1) * 2 := by omega
      simp [h4, h5, accell, this, h3]
    · rw [if_neg h2]
      by_cases hi : i < n * 2
      · simp only [List.getElem?_range hi, Option.map_some]
        by_cases h3 : i < k * 2
        · rw [if_pos h3, if_pos (by omega)]
        · rw [if_neg h3, if_neg (by omega)]
      · simp [List.getElem?_eq_none (show (List.range (n * 2)).length ≤ i by simp; omega)]
theorem accp_get (js : List (Int × Int)) (n : Nat) (j : Nat) (hj : j < n) : (accp js n n)[j * 2]? = some (.int .i8 (ak js j)) ∧ (accp js n n)[j * 2 + 1]? = some (.int .i64 (an js j)) := by
  have h0 : (j * 2) % 2 = 0 := by omega
  have h1 : (j * 2 + 1) % 2 = 1 := by omega
  have h2 : (j * 2) / 2 = j := by omega
  have h3 : (j * 2 + 1) / 2 = j := by omega
  have h4 : j * 2 < n * 2 := by omega
  have h5 : j * 2 + 1 < n * 2 := by omega
  exact ⟨by simp [accp, accell, h0, h2, h4], by simp [accp, accell, h1, h3, h5]⟩
set_option maxHeartbeats 1000000 in
theorem toActs_some (b off len cap : Nat) (js : List (Int × Int)) (hl : len ≤ 1048576) (hz : len = js.length) (w : World) (hbs : b < w.heap.size) (hc : ∀ j, j < len → w.cell? ⟨b, off + j * 2, none⟩ = some (.int .i8 (ak js j)) ∧ w.cell? ⟨b, off + j * 2 + 1, none⟩ = some (.int .i64 (an js j))) :
    Calls Tryd.prog 6 #[.slice (some ⟨b, off, none⟩) len cap] w fun e w' => e = .returned (.slice (some ⟨w.heap.size, 0, none⟩) len len) ∧ Below w.heap.size w w' ∧ Ast w' w.heap.size js ∧ w.heap.size < w'.heap.size := by
  obtain ⟨i0, hi, hz0, hz1, hz2⟩ := info_parts Tryd.infoActL
  have HC := hid hc
  have HZ := hid hz
  clear hc hz
  go_enter Tryd.func6, Tryd.ntmps6
  go_wp2_with (at_make; refine wpList_make_full _ rfl _ _ 24 rfl w.heap.size 34 i0 (.agg #[.int .i8 0, .int .i64 0]) 2 Tryd.underlying24 hi hz0 hz1 .i64 .i64 _ _ len rfl rfl rfl rfl (by rw [hz2]; omega) (by unfold maxLen; omega) (Nat.le_refl _) ?_; intro w1 hown hgrow)
  have hrow := Row.of_ownsAc hown rfl
  rw [accp_zero js len] at hrow
  have hB1 : Below w.heap.size w w1 := (Below.refl _ w).grown hgrow (Nat.le_refl _) (fun k e => by cases e)
  clear hown hgrow
  go_loopw [4] (fun i wr => ∃ k : Nat, k ≤ len ∧ i = .int .i64 k ∧ Row wr w.heap.size 34 (accp js len k) ∧ Below w.heap.size w wr) (fun i _ => len - (intOf i).toNat)
  case atStart => exact ⟨0, Nat.zero_le _, rfl, hrow, hB1⟩
  case round =>
    clear hrow hB1
    obtain ⟨k, hk, rfl, hrow, hB⟩ := hrel
    by_cases hlt : k < len
    · have c0 : wr.cell? ⟨b, off + k * 2, none⟩ = some (.int .i8 (ak js k)) := (hB.cell (p := ⟨b, off + k * 2, none⟩) hbs).trans (HC.out k hlt).1
      have c1 : wr.cell? ⟨b, off + k * 2 + 1, none⟩ = some (.int .i64 (an js k)) := (hB.cell (p := ⟨b, off + k * 2 + 1, none⟩) hbs).trans (HC.out k hlt).2
      have hlr := hrow.lt
      obtain ⟨x, hx⟩ : ∃ x, x = ak js k := ⟨_, rfl⟩
      obtain ⟨y, hy⟩ : ∃ y, y = an js k := ⟨_, rfl⟩
      rw [← hx] at c0
      rw [← hy] at c1
      have HS := hid (accp_set js len k hlt)
      rw [← hx, ← hy] at HS
      clear hx hy
      have HR := hid hrow
      clear hrow
      go_wp2_with fail
      refine (toAct_any x y _).mono ?_
      rintro e w2 ⟨rfl, hB2⟩
      have hz2 := hB2.size
      have r1 := HR.out.below hB2 hlr
      have f0 := r1.frozen (k * 2)
      have f1 := r1.frozen (k * 2 + 1)
      obtain ⟨o0, h0⟩ : ∃ v, w2.cell? ⟨w.heap.size, k * 2, none⟩ = some v := ⟨_, (r1.cell (k * 2)).trans (List.getElem?_eq_getElem (by rw [accp_len]; omega))⟩
      obtain ⟨o1, h1⟩ : ∃ v, w2.cell? ⟨w.heap.size, k * 2 + 1, none⟩ = some v := ⟨_, (r1.cell (k * 2 + 1)).trans (List.getElem?_eq_getElem (by rw [accp_len]; omega))⟩
      have r2 := hid ((r1.set (k * 2) (.int .i8 x)).set (k * 2 + 1) (.int .i64 y))
      rw [HS.out] at r2
      have b2 := hid (((hB.trans (hB2.mono (by omega))).setCell (p := ⟨w.heap.size, k * 2, none⟩) (Nat.le_refl _) (.int .i8 x)).setCell (p := ⟨w.heap.size, k * 2 + 1, none⟩) (Nat.le_refl _) (.int .i64 y))
      clear r1
      go_wp2_with fail
      go_roundw
      case rel => exact ⟨k + 1, by omega, by go_num, r2.out, b2.out⟩
      case measure => simp [intOf]; omega
    · obtain rfl : k = len := by omega
      have hlr := hrow.lt
      have HR := hid hrow
      clear hrow
      go_wp2_with fail
      go_ret
      exact ⟨rfl, hB, ⟨hlr, fun j hj => ⟨(HR.out.cell _).trans (accp_get js k j (by have := HZ.out; omega)).1, (HR.out.cell _).trans (accp_get js k j (by have := HZ.out; omega)).2⟩, by have := HZ.out; omega⟩, hlr⟩
set_option maxHeartbeats 400000 in
theorem toActs_none (a : Option Addr) (cap : Nat) (w : World) :
    Calls Tryd.prog 6 #[.slice a 0 cap] w fun e w' => e = .returned (.slice (some ⟨w.heap.size, 0, none⟩) 0 0) ∧ Below w.heap.size w w' ∧ Ast w' w.heap.size [] ∧ w.heap.size < w'.heap.size := by
  obtain ⟨i0, hi, hz0, hz1, hz2⟩ := info_parts Tryd.infoActL
  go_enter Tryd.func6, Tryd.ntmps6
  go_wp2_with (at_make; refine wpList_make_full _ rfl _ _ 24 rfl w.heap.size 34 i0 (.agg #[.int .i8 0, .int .i64 0]) 2 Tryd.underlying24 hi hz0 hz1 .i64 .i64 _ _ 0 rfl rfl rfl rfl (by rw [hz2]; omega) (by unfold maxLen; omega) (Nat.le_refl _) ?_; intro w1 hown hgrow)
  have hrow := Row.of_ownsAc hown rfl
  have hB : Below w.heap.size w w1 := (Below.refl _ w).grown hgrow (Nat.le_refl _) (fun k e => by cases e)
  clear hown hgrow
  refine wp_loop_rounds 1 ?_
  rw [rounds_succ]
  go_wp2
  go_ret
  exact ⟨rfl, hB, ⟨hrow.lt, fun j hj => by simp at hj, by simp⟩, hrow.lt⟩
/-- laws.toActS at whatever argument. -/
theorem toActs_any (a : Option Addr) (len cap : Nat) (js : List (Int × Int)) (w : World) (h : InAc w a len js) (hl : len ≤ 1048576) :
    Calls Tryd.prog 6 #[.slice a len cap] w fun e w' => e = .returned (.slice (some ⟨w.heap.size, 0, none⟩) len len) ∧ Below w.heap.size w w' ∧ Ast w' w.heap.size js ∧ w.heap.size < w'.heap.size := by
  by_cases h0 : len = 0
  · have hz := h.1
    subst h0
    obtain rfl : js = [] := List.length_eq_zero_iff.1 hz
    exact toActs_none a cap w
  · rcases h.2.2 with h0' | ⟨b, off, rfl, hb, hc⟩
    · exact absurd h0' h0
    · exact toActs_some b off len cap js hl h.1.symm w hb hc
section
variable {H : Type} {enc : TypeId × Value → H} {P : Program} {W : World}
theorem list_ofAc {α : Type} (d : α) (Q : Nat → α → Prop) : ∀ (n : Nat), (∀ i, i < n → ∃ x, Q i x) → ∃ l : List α, l.length = n ∧ ∀ i, i < n → Q i (l[i]?.getD d)
  | 0, _ => ⟨[], rfl, fun i h => by omega⟩
  | n + 1, h => by
    obtain ⟨l, hl, hq⟩ := list_ofAc d Q n (fun i hi => h i (by omega))
    obtain ⟨x, hx⟩ := h n (by omega)
    refine ⟨l ++ [x], by simp [hl], fun i hi => ?_⟩
    by_cases e : i = n
    · subst e
      simpa [← hl] using hx
    · have := hq i (by omega)
      rwa [List.getElem?_append_left (by omega)]
theorem open_actsV {t e : TypeId} {f0 f1 : Field} (ht : P.underlying t = some (.slice e)) (he : P.underlying e = some (.struct #[f0, f1])) (h0 : P.underlying f0.type = some (.int .i8)) (h1 : P.underlying f1.type = some (.int .i64))
    (hone : Go.Deep.oneCellFields P #[f0, f1] = true) (hC : P.cellsOf e = 2) {n : Nat} {v : Value} {y : DataW H × List MemPlace}
    (h : DataW.trod enc P W 0 (fun _ => true) true n t [v] = some y) : ∃ a len cap js, v = .slice a len cap ∧ len ≤ 9223372036854775807 ∧ InAc W a len js := by
  rcases Go.Deep.open_slice ht h with ⟨hcs, _⟩ | ⟨x, l, c, m, n', D, Pl, hcs, _, hl, hm, hmm, _, hi⟩
  · obtain rfl : v = .slice none 0 0 := by simpa using hcs
    exact ⟨_, _, _, [], rfl, by omega, rfl, fun j hj => by omega, .inl rfl⟩
  · obtain rfl : v = .slice (some x) l c := by simpa using hcs
    have each : ∀ i, i < l → ∃ p : Int × Int, ((-128 ≤ p.1 ∧ p.1 ≤ 127) ∧ (-9223372036854775808 ≤ p.2 ∧ p.2 ≤ 9223372036854775807)) ∧ W.cell? (x.add (i * 2)) = some (.int .i8 p.1) ∧ W.cell? (x.add (i * 2 + 1)) = some (.int .i64 p.2) := fun i hil => by
      obtain ⟨cs', hc, ht'⟩ := hi i (by rw [hmm]; split <;> omega)
      rw [hC] at hc
      obtain ⟨_, hcl, hat⟩ := World.cells?_some hc
      obtain ⟨xs, n2, _, _, _, hxl, hf⟩ := DataW.trod_struct he ht'
      obtain ⟨o0, k0⟩ := Go.Deep.hone_of hone 0 f0 rfl
      obtain ⟨o1, k1⟩ := Go.Deep.hone_of hone 1 f1 rfl
      match cs', hcl with
      | [u0, u1], _ =>
        have g0 := hf 0 f0 rfl
        have g1 := hf 1 f1 rfl
        rw [o0, k0] at g0
        rw [o1, k1] at g1
        have x0 : xs[0]? = some (xs[0]'(by rw [hxl]; show _ < 2; omega)) := List.getElem?_eq_getElem _
        have x1 : xs[1]? = some (xs[1]'(by rw [hxl]; show _ < 2; omega)) := List.getElem?_eq_getElem _
        rw [x0] at g0
        rw [x1] at g1
        obtain ⟨z0, e0, _, w0⟩ := DataW.trod_int h0 g0
        obtain ⟨z1, e1, _, w1⟩ := DataW.trod_int h1 g1
        simp at e0 e1
        have a0 := hat 0 (by omega)
        have a1 := hat 1 (by omega)
        have b0 := bounds_i8 w0
        have b1 := bounds_i64 w1
        refine ⟨(z0, z1), ⟨b0, b1⟩, ?_, ?_⟩
        · have : x.add (i * 2) = (x.add (i * 2)).add 0 := by simp [Addr.add]
          rw [this, a0]; simp [e0]
        · have : x.add (i * 2 + 1) = (x.add (i * 2)).add 1 := by rw [Go.Deep.add_add]
          rw [this, a1]; simp [e1]
    obtain ⟨js, hjl, hj⟩ := list_ofAc ((0 : Int), (0 : Int)) _ l each
    refine ⟨_, _, _, js, rfl, by unfold maxLen at hm; omega, hjl, fun j hjl' => (hj j hjl').1, ?_⟩
    by_cases hl0 : l = 0
    · exact .inl hl0
    · right
      have c0 := (hj 0 (by omega)).2.1
      obtain ⟨b, off, spot⟩ := x
      have hspot : spot = none := by simpa [Addr.add] using World.cell?_spot c0
      subst hspot
      have hb : b < W.heap.size := by
        by_cases hb : b < W.heap.size
        · exact hb
        · simp [World.cell?, Addr.add, Array.getElem?_eq_none (Nat.le_of_not_lt hb)] at c0
      have ad : ∀ k, (⟨b, off, none⟩ : Addr).add k = ⟨b, off + k, none⟩ := fun k => by
        by_cases h : k = 0
        · subst h; simp [Addr.add]
        · simp [Addr.add, h]
      refine ⟨b, off, rfl, hb, fun j hjl' => ?_⟩
      have := (hj j hjl').2
      rw [ad, ad] at this
      exact ⟨this.1, by rw [← Nat.add_assoc] at this; exact this.2⟩
theorem open_acts {t e : TypeId} {f0 f1 : Field} (ht : P.underlying t = some (.slice e)) (he : P.underlying e = some (.struct #[f0, f1])) (h0 : P.underlying f0.type = some (.int .i8)) (h1 : P.underlying f1.type = some (.int .i64))
    (hone : Go.Deep.oneCellFields P #[f0, f1] = true) (hC : P.cellsOf e = 2) {a : Option Addr} {len cap : Nat} {d : DataW H} {p : List MemPlace}
    (h : DataW.Trod enc P W 0 (fun _ => true) true t (.slice a len cap) d p) : ∃ js, len ≤ 9223372036854775807 ∧ InAc W a len js := by
  obtain ⟨fuel, hf⟩ := h
  obtain ⟨a', len', cap', js, e1, hl, hj⟩ := open_actsV (v := .slice a len cap) ht he h0 h1 hone hC hf
  simp only [Value.slice.injEq] at e1
  obtain ⟨rfl, rfl, rfl⟩ := e1
  exact ⟨js, hl, hj⟩
end

theorem szActs_ok (a : Option Addr) (len cap : Nat) (w : World) (h : len ≤ 1048576) : Calls Tryd.prog 4 #[.slice a len cap, .int .i64 1048576] w fun e w' => e = .returned (.int .i64 (1048576 - len)) ∧ w = w' := by
  have h1 : (0 : Int) ≤ 1048576 - (len : Int) := by omega
  go_enter Tryd.func4, Tryd.ntmps4
  go_wp2
  go_ret
  exact ⟨rfl, rfl⟩
theorem szActs_no (a : Option Addr) (len cap : Nat) (w : World) (h : 1048576 < len) (hl : len ≤ 9223372036854775807) : Calls Tryd.prog 4 #[.slice a len cap, .int .i64 1048576] w fun e w' => e = .returned (.int .i64 (-1)) ∧ w = w' := by
  have h1 : 1048576 - (len : Int) < 0 := by omega
  go_enter Tryd.func4, Tryd.ntmps4
  go_wp2
  go_ret
  exact ⟨rfl, rfl⟩
end Go.Proofs.YtbbdaamhajecfaaDoor
