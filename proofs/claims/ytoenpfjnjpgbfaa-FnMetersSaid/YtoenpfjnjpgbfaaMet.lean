/- Meters: a stack and three numbers; opened, copied, compared. -/
import Derived.Test.YtoenpfjnjpgbfaaOpen
import Derived.Test.YtoenpfjnjpgbfaaRatio
import Derived.Test.YtoenpfjnjpgbfaaOpenR
import Derived.Lib.SmallJoins
import Derived.Deep.RegionHeld3
import Derived.RegionTactic
import Derived.Deep.DeepCutAuto
import Derived.Deep.Slices
import Derived.Deep.Fields
namespace Go.Proofs.Ytoenpfjnjpgbfaa
open Go.RowKit Go.ChangeShapes Go.WideShapes Go.ChangeAt
theorem cell_apartM {W : World} {a p : Addr} {u : Value} (h : p.block ≠ a.block) : (W.setCell a u).cell? p = W.cell? p := World.cell?_of_block (Below.heap_setCell W a u p.block h)
section
variable {H : Type} {enc : TypeId × Value → H} {P : Program} {W : World}
theorem open_bytesM {t e : TypeId} (ht : P.underlying t = some (.slice e)) (he : P.underlying e = some (.int .u8)) (hc : P.cellsOf e = 1) {n : Nat} {v : Value} {y : DataW H × List MemPlace}
    (h : DataW.trod enc P W 0 (fun _ => true) true n t [v] = some y) : ∃ a len cap zs, v = .slice a len cap ∧ len ≤ 9223372036854775807 ∧ InB W a len zs := by
  rcases open_ints ht he hc h with ⟨hcs, _⟩ | ⟨x, l, c, zs, hcs, _, hl, hm, _⟩
  · obtain rfl : v = .slice none 0 0 := by simpa using hcs
    obtain ⟨zs, hz⟩ := open_bytes ht he hc (d := y.1) (p := y.2) ⟨n, h⟩
    exact ⟨_, _, _, zs, rfl, by omega, hz⟩
  · obtain rfl : v = .slice (some x) l c := by simpa using hcs
    obtain ⟨zs, hz⟩ := open_bytes ht he hc (d := y.1) (p := y.2) ⟨n, h⟩
    exact ⟨_, _, _, zs, rfl, by unfold maxLen at hm; omega, hz⟩
/-- three numbers within the bounds of int64 -/
def Th (x y s : Int) : Prop := I64 x ∧ I64 y ∧ I64 s
theorem open_meter {r : Reach} {b0 : Nat} {t eB : TypeId} {f0 f1 f2 f3 : Field} {v : Value} {d : DataW H} {p : List MemPlace} (hs : P.underlying t = some (.struct #[f0, f1, f2, f3])) (hone : Go.Deep.oneCellFields P #[f0, f1, f2, f3] = true) (hC : P.cellsOf t = 4)
    (tB : P.underlying f0.type = some (.slice eB)) (uB : P.underlying eB = some (.int .u8)) (cB : P.cellsOf eB = 1)
    (k1 : P.underlying f1.type = some (.int .i64)) (k2 : P.underlying f2.type = some (.int .i64)) (k3 : P.underlying f3.type = some (.int .i64))
    (hv : Value.okWide P W r b0 t v) (h : DataW.Trod enc P W 0 (fun _ => true) true t v d p) :
    ∃ a len cap zs x y s, v = .agg #[.slice a len cap, .int .i64 x, .int .i64 y, .int .i64 s] ∧ len ≤ 9223372036854775807 ∧ InB W a len zs ∧ Th x y s := by
  obtain ⟨v0, v1, v2, v3, y0, y1, y2, y3, n, rfl, _, _, g0, g1, g2, g3⟩ := Go.Joins.open_agg4 hs hone hC hv h
  obtain ⟨a, len, cap, zs, rfl, hl, hz⟩ := open_bytesM tB uB cB g0
  obtain ⟨z1, e1, _, w1⟩ := DataW.trod_int k1 g1
  obtain ⟨z2, e2, _, w2⟩ := DataW.trod_int k2 g2
  obtain ⟨z3, e3, _, w3⟩ := DataW.trod_int k3 g3
  simp only [List.cons.injEq, and_true] at e1 e2 e3
  subst e1 e2 e3
  exact ⟨a, len, cap, zs, z1, z2, z3, rfl, hl, hz, wf64 w1, wf64 w2, wf64 w3⟩
end
theorem box4_belM (w : World) (T : TypeId) (x y z u : Value) : Below w.heap.size w (w.alloc (.cells #[x, y, z, u] T)) := (Below.refl _ w).alloc (Nat.le_refl _) _
/-- a copy of a meter -/
def MeR (w : World) (zs : List Int) (len : Nat) (x y s : Int) (e : Ending) (w' : World) : Prop :=
  ∃ B, e = .returned (.agg #[.slice (some ⟨B, 0, none⟩) len len, .int .i64 x, .int .i64 y, .int .i64 s]) ∧ Below w.heap.size w w' ∧ Stk w' B zs ∧ w.heap.size ≤ B
end Go.Proofs.Ytoenpfjnjpgbfaa
