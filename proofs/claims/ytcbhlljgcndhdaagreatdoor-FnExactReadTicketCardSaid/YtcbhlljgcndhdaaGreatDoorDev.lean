/- Devices: a stack, eight digits, two numbers and a truth value; opened, copied, compared. -/
import Derived.Test.YtcbhlljgcndhdaaGreatDoorOpen
import Derived.Test.YtcbhlljgcndhdaaGreatDoorRatio
import Derived.Test.YtcbhlljgcndhdaaGreatDoorOpenR
import Derived.Lib.SmallJoins
import Derived.Deep.RegionHeld3
import Derived.RegionTactic
import Derived.Deep.DeepCutAuto
import Derived.Deep.Slices
import Derived.Deep.Fields
namespace Go.Proofs.YtcbhlljgcndhdaaGreatDoor
open Go.RowKit Go.ChangeShapes Go.WideShapes Go.ChangeAt
section
variable {H : Type} {enc : TypeId × Value → H} {P : Program} {W : World}
theorem open_bytesD {t e : TypeId} (ht : P.underlying t = some (.slice e)) (he : P.underlying e = some (.int .u8)) (hc : P.cellsOf e = 1) {n : Nat} {v : Value} {y : DataW H × List MemPlace}
    (h : DataW.trod enc P W 0 (fun _ => true) true n t [v] = some y) : ∃ a len cap zs, v = .slice a len cap ∧ len ≤ 9223372036854775807 ∧ InB W a len zs := by
  rcases open_ints ht he hc h with ⟨hcs, _⟩ | ⟨x, l, c, zs, hcs, _, hl, hm, _⟩
  · obtain rfl : v = .slice none 0 0 := by simpa using hcs
    obtain ⟨zs, hz⟩ := open_bytes ht he hc (d := y.1) (p := y.2) ⟨n, h⟩
    exact ⟨_, _, _, zs, rfl, by omega, hz⟩
  · obtain rfl : v = .slice (some x) l c := by simpa using hcs
    obtain ⟨zs, hz⟩ := open_bytes ht he hc (d := y.1) (p := y.2) ⟨n, h⟩
    exact ⟨_, _, _, zs, rfl, by unfold maxLen at hm; omega, hz⟩
/-- eight bytes within a struct -/
theorem open_octC {t e : TypeId} {c0 c1 c2 c3 c4 c5 c6 c7 : Value} {n : Nat} {y : DataW H × List MemPlace} (ht : P.underlying t = some (.array 8 e)) (he : P.underlying e = some (.int .u8)) (hc : P.cellsOf e = 1)
    (h : DataW.trod enc P W 0 (fun _ => true) true n t [c0, c1, c2, c3, c4, c5, c6, c7] = some y) :
    ∃ d0 d1 d2 d3 d4 d5 d6 d7 : Int, [c0, c1, c2, c3, c4, c5, c6, c7] = [Value.int .u8 d0, .int .u8 d1, .int .u8 d2, .int .u8 d3, .int .u8 d4, .int .u8 d5, .int .u8 d6, .int .u8 d7] ∧ Oct d0 d1 d2 d3 d4 d5 d6 d7 := by
  obtain ⟨xs, m, _, _, _, hl, hall⟩ := DataW.trod_array ht h
  have key : ∀ (i : Nat) (c : Value), i < 8 → ([c0, c1, c2, c3, c4, c5, c6, c7] : List Value)[i]? = some c → ∃ n, c = .int .u8 n ∧ 0 ≤ n ∧ n ≤ 255 := by
    intro i c hi hcc
    have hi' := hall i hi
    rw [hc] at hi'
    have hx : (([c0, c1, c2, c3, c4, c5, c6, c7].drop (i * 1)).take 1) = [c] := by
      rw [Nat.mul_one]
      match i, hi, hcc with
      | 0, _, h | 1, _, h | 2, _, h | 3, _, h | 4, _, h | 5, _, h | 6, _, h | 7, _, h => simp at h; subst h; rfl
    rw [hx] at hi'
    obtain ⟨y, hy⟩ : ∃ y, xs[i]? = some y := ⟨_, List.getElem?_eq_getElem (by omega)⟩
    rw [hy] at hi'
    obtain ⟨n, e0, _, wn⟩ := DataW.trod_int he hi'
    simp only [List.cons.injEq, and_true] at e0
    have := bounds_u8 wn
    exact ⟨n, e0, by omega, by omega⟩
  obtain ⟨d0, rfl, b0⟩ := key 0 c0 (by omega) rfl
  obtain ⟨d1, rfl, b1⟩ := key 1 c1 (by omega) rfl
  obtain ⟨d2, rfl, b2⟩ := key 2 c2 (by omega) rfl
  obtain ⟨d3, rfl, b3⟩ := key 3 c3 (by omega) rfl
  obtain ⟨d4, rfl, b4⟩ := key 4 c4 (by omega) rfl
  obtain ⟨d5, rfl, b5⟩ := key 5 c5 (by omega) rfl
  obtain ⟨d6, rfl, b6⟩ := key 6 c6 (by omega) rfl
  obtain ⟨d7, rfl, b7⟩ := key 7 c7 (by omega) rfl
  exact ⟨d0, d1, d2, d3, d4, d5, d6, d7, rfl, b0, b1, b2, b3, b4, b5, b6, b7⟩
theorem array12 {α : Type} {cs : Array α} (h : cs.size = 12) : ∃ c0 c1 c2 c3 c4 c5 c6 c7 c8 c9 c10 c11, cs = #[c0, c1, c2, c3, c4, c5, c6, c7, c8, c9, c10, c11] := by
  obtain ⟨l⟩ := cs
  simp at h
  match l, h with
  | [c0, c1, c2, c3, c4, c5, c6, c7, c8, c9, c10, c11], _ => exact ⟨c0, c1, c2, c3, c4, c5, c6, c7, c8, c9, c10, c11, rfl⟩
theorem array10 {α : Type} {cs : Array α} (h : cs.size = 10) : ∃ c0 c1 c2 c3 c4 c5 c6 c7 c8 c9, cs = #[c0, c1, c2, c3, c4, c5, c6, c7, c8, c9] := by
  obtain ⟨l⟩ := cs
  simp at h
  match l, h with
  | [c0, c1, c2, c3, c4, c5, c6, c7, c8, c9], _ => exact ⟨c0, c1, c2, c3, c4, c5, c6, c7, c8, c9, rfl⟩
/-- the places of a device's fields -/
def devFields (P : Program) (f0 f1 f2 f3 f4 : Field) : Bool :=
  f0.offset == 0 && P.cellsOf f0.type == 1 && (f1.offset == 1 && P.cellsOf f1.type == 8) && (f2.offset == 9 && P.cellsOf f2.type == 1) && (f3.offset == 10 && P.cellsOf f3.type == 1) && (f4.offset == 11 && P.cellsOf f4.type == 1)
theorem open_device {r : Reach} {b0 : Nat} {t eB eD : TypeId} {f0 f1 f2 f3 f4 : Field} {v : Value} {d : DataW H} {p : List MemPlace} (hs : P.underlying t = some (.struct #[f0, f1, f2, f3, f4])) (hone : devFields P f0 f1 f2 f3 f4 = true) (hC : P.cellsOf t = 12)
    (tB : P.underlying f0.type = some (.slice eB)) (uB : P.underlying eB = some (.int .u8)) (cB : P.cellsOf eB = 1) (tD : P.underlying f1.type = some (.array 8 eD)) (uD : P.underlying eD = some (.int .u8)) (cD : P.cellsOf eD = 1)
    (k2 : P.underlying f2.type = some (.int .i64)) (k3 : P.underlying f3.type = some .bool) (k4 : P.underlying f4.type = some (.int .i64))
    (hv : Value.okWide P W r b0 t v) (h : DataW.Trod enc P W 0 (fun _ => true) true t v d p) :
    ∃ a len cap zs d0 d1 d2 d3 d4 d5 d6 d7 pr st tk, v = .agg #[.slice a len cap, .int .u8 d0, .int .u8 d1, .int .u8 d2, .int .u8 d3, .int .u8 d4, .int .u8 d5, .int .u8 d6, .int .u8 d7, .int .i64 pr, .bool st, .int .i64 tk] ∧ len ≤ 9223372036854775807 ∧ InB W a len zs ∧ Oct d0 d1 d2 d3 d4 d5 d6 d7 ∧ I64 pr ∧ I64 tk := by
  obtain ⟨cs, rfl, hsz⟩ := okWide_struct hs hv
  obtain ⟨c0, c1, c2, c3, c4, c5, c6, c7, c8, c9, c10, c11, rfl⟩ := array12 (hsz.trans hC)
  obtain ⟨fuel, hf⟩ := h
  obtain ⟨xs, n, _, _, hl, hlen, hf⟩ := DataW.trod_struct hs hf
  simp only [devFields, Bool.and_eq_true, beq_iff_eq] at hone
  obtain ⟨⟨⟨⟨⟨o0, s0⟩, o1, s1⟩, o2, s2⟩, o3, s3⟩, o4, s4⟩ := hone
  match xs, hlen with
  | [y0, y1, y2, y3, y4], _ =>
    have g0 := hf 0 f0 rfl
    have g1 := hf 1 f1 rfl
    have g2 := hf 2 f2 rfl
    have g3 := hf 3 f3 rfl
    have g4 := hf 4 f4 rfl
    simp [Value.cells, o0, s0] at g0
    simp [Value.cells, o1, s1] at g1
    simp [Value.cells, o2, s2] at g2
    simp [Value.cells, o3, s3] at g3
    simp [Value.cells, o4, s4] at g4
    obtain ⟨a, len, cap, zs, rfl, hll, hz⟩ := open_bytesD tB uB cB g0
    obtain ⟨d0, d1, d2, d3, d4, d5, d6, d7, e1, ho⟩ := open_octC tD uD cD g1
    obtain ⟨z2, e2, _, w2⟩ := DataW.trod_int k2 g2
    obtain ⟨z3, e3, _⟩ := DataW.trod_bool k3 g3
    obtain ⟨z4, e4, _, w4⟩ := DataW.trod_int k4 g4
    simp only [List.cons.injEq, and_true] at e1 e2 e3 e4
    obtain ⟨rfl, rfl, rfl, rfl, rfl, rfl, rfl, rfl⟩ := e1
    subst e2 e3 e4
    exact ⟨a, len, cap, zs, d0, d1, d2, d3, d4, d5, d6, d7, z2, z3, z4, rfl, hll, hz, ho, wf64 w2, wf64 w4⟩
def tickFields (P : Program) (f0 f1 f2 : Field) : Bool :=
  f0.offset == 0 && P.cellsOf f0.type == 1 && (f1.offset == 1 && P.cellsOf f1.type == 8) && (f2.offset == 9 && P.cellsOf f2.type == 1)
theorem open_ticket {r : Reach} {b0 : Nat} {t eD : TypeId} {f0 f1 f2 : Field} {v : Value} {d : DataW H} {p : List MemPlace} (hs : P.underlying t = some (.struct #[f0, f1, f2])) (hone : tickFields P f0 f1 f2 = true) (hC : P.cellsOf t = 10)
    (k0 : P.underlying f0.type = some (.int .i64)) (tD : P.underlying f1.type = some (.array 8 eD)) (uD : P.underlying eD = some (.int .u8)) (cD : P.cellsOf eD = 1) (k2 : P.underlying f2.type = some (.int .u16))
    (hv : Value.okWide P W r b0 t v) (h : DataW.Trod enc P W 0 (fun _ => true) true t v d p) :
    ∃ x d0 d1 d2 d3 d4 d5 d6 d7 c, v = .agg #[.int .i64 x, .int .u8 d0, .int .u8 d1, .int .u8 d2, .int .u8 d3, .int .u8 d4, .int .u8 d5, .int .u8 d6, .int .u8 d7, .int .u16 c] ∧ I64 x ∧ Oct d0 d1 d2 d3 d4 d5 d6 d7 ∧ (0 ≤ c ∧ c ≤ 65535) := by
  obtain ⟨cs, rfl, hsz⟩ := okWide_struct hs hv
  obtain ⟨c0, c1, c2, c3, c4, c5, c6, c7, c8, c9, rfl⟩ := array10 (hsz.trans hC)
  obtain ⟨fuel, hf⟩ := h
  obtain ⟨xs, n, _, _, hl, hlen, hf⟩ := DataW.trod_struct hs hf
  simp only [tickFields, Bool.and_eq_true, beq_iff_eq] at hone
  obtain ⟨⟨⟨o0, s0⟩, o1, s1⟩, o2, s2⟩ := hone
  match xs, hlen with
  | [y0, y1, y2], _ =>
    have g0 := hf 0 f0 rfl
    have g1 := hf 1 f1 rfl
    have g2 := hf 2 f2 rfl
    simp [Value.cells, o0, s0] at g0
    simp [Value.cells, o1, s1] at g1
    simp [Value.cells, o2, s2] at g2
    obtain ⟨z0, e0, _, w0⟩ := DataW.trod_int k0 g0
    obtain ⟨d0, d1, d2, d3, d4, d5, d6, d7, e1, ho⟩ := open_octC tD uD cD g1
    obtain ⟨z2, e2, _, w2⟩ := DataW.trod_int k2 g2
    simp only [List.cons.injEq, and_true] at e0 e1 e2
    obtain ⟨rfl, rfl, rfl, rfl, rfl, rfl, rfl, rfl⟩ := e1
    subst e0 e2
    exact ⟨z0, d0, d1, d2, d3, d4, d5, d6, d7, z2, rfl, wf64 w0, ho, bounds_u16 w2⟩
end
theorem boxD_bel (w : World) (T : TypeId) (cs : Array Value) : Below w.heap.size w (w.alloc (.cells cs T)) := (Below.refl _ w).alloc (Nat.le_refl _) _
theorem cell_apartD {W : World} {a p : Addr} {u : Value} (h : p.block ≠ a.block) : (W.setCell a u).cell? p = W.cell? p := World.cell?_of_block (Below.heap_setCell W a u p.block h)
/-- a copy of a device -/
def DeR (w : World) (zs : List Int) (len : Nat) (d0 d1 d2 d3 d4 d5 d6 d7 : Int) (pr : Int) (st : Bool) (tk : Int) (e : Ending) (w' : World) : Prop :=
  ∃ B, e = .returned (.agg #[.slice (some ⟨B, 0, none⟩) len len, .int .u8 d0, .int .u8 d1, .int .u8 d2, .int .u8 d3, .int .u8 d4, .int .u8 d5, .int .u8 d6, .int .u8 d7, .int .i64 pr, .bool st, .int .i64 tk]) ∧ Below w.heap.size w w' ∧ Stk w' B zs ∧ w.heap.size ≤ B
end Go.Proofs.YtcbhlljgcndhdaaGreatDoor
