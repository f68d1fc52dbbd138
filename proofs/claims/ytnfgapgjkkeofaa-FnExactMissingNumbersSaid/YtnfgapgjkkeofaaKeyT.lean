/- Maps with tickets as keys, and truth values. -/
import Derived.Test.YtnfgapgjkkeofaaTicks
import Derived.Maps.OwnOps
import Derived.Maps.Views
import Derived.DeepKeys4
import Derived.Laws.StructEq
import Derived.Deep.RegionHeld3
namespace Go.Proofs.Ytnfgapgjkkeofaa
open Go.RowKit Go.Maps
set_option linter.unusedSimpArgs false
set_option linter.unusedVariables false
theorem Try.laidT : laidOutB Try.prog = true := by kernel_rfl
theorem Try.rowTick : (48 : TypeId) < Try.prog.types.size := of_decide_eq_true (by kernel_rfl)
theorem Try.wideTick : (match Try.prog.underlying 48 with | some (.array _ _) | some (.struct _) => true | _ => false) = true := by kernel_rfl
theorem tickLaw : WideMaps.KeyLaw Try.prog 48 := deep_law_laid Try.laidT (m := 5) (by omega) Try.rowTick (by kernel_rfl) Try.wideTick
theorem tickKeyed : Keyed Try.prog 48 := Keyed.of_law tickLaw
theorem Try.cellsTick : Try.prog.cellsOf 48 = 10 := by kernel_rfl
theorem Try.cellsDigT : Try.prog.cellsOf 45 = 8 := by kernel_rfl
theorem Try.cellsU8T : Try.prog.cellsOf 5 = 1 := by kernel_rfl
theorem Try.cellsI64T : Try.prog.cellsOf 2 = 1 := by kernel_rfl
theorem Try.cellsU16T : Try.prog.cellsOf 46 = 1 := by kernel_rfl
theorem Try.keyTick : Try.prog.keyType 48 = true := by kernel_rfl
theorem wf8t (x : Int) (h : 0 ≤ x ∧ x ≤ 255) : (Lit.int .u8 x).wf = true := WalkArith.wf_u8 h
theorem wf16t (x : Int) (h : 0 ≤ x ∧ x ≤ 65535) : (Lit.int .u16 x).wf = true := by
  simp only [Lit.wf, Bool.and_eq_true, decide_eq_true_eq]
  exact h
theorem wf64t (x : Int) (h : I64 x) : (Lit.int .i64 x).wf = true := WalkArith.wf_i64 h
/-- a ticket's value -/
def tkVal (f : Nat → Int) : Value := .agg #[.int .i64 (f 0), .int .u8 (f 1), .int .u8 (f 2), .int .u8 (f 3), .int .u8 (f 4), .int .u8 (f 5), .int .u8 (f 6), .int .u8 (f 7), .int .u8 (f 8), .int .u16 (f 9)]
theorem keyTk {f : Nat → Int} (h : tkB f) : ∃ l, keyOf Try.prog 48 (tkVal f) = some l := by
  obtain ⟨m, hm⟩ : ∃ m, Try.prog.types.size = m + 3 := ⟨Try.prog.types.size - 3, by have : 3 ≤ Try.prog.types.size := of_decide_eq_true (by kernel_rfl); omega⟩
  have hf : (tkVal f).formed Try.prog 48 = true := by simp [tkVal, Value.formed, Try.underlying48, Try.cellsTick]
  obtain ⟨h0, ⟨h1, h2, h3, h4, h5, h6, h7, h8⟩, h9⟩ := h
  unfold keyOf
  simp only [Try.underlying48, Try.keyTick, hf, Bool.and_self, if_true]
  rw [hm]
  have e8 : List.range 8 = [0, 1, 2, 3, 4, 5, 6, 7] := rfl
  simp [tkVal, Program.keyLits, Try.underlying48, Try.underlying45, Try.cellsTick, Try.cellsDigT, Try.cellsU8T, Try.cellsI64T, Try.cellsU16T, e8, Value.cells, Try.underlying5, Try.underlying2, Try.underlying46, wf64t _ h0, wf16t _ h9, wf8t _ h1, wf8t _ h2, wf8t _ h3, wf8t _ h4, wf8t _ h5, wf8t _ h6, wf8t _ h7, wf8t _ h8]
theorem Try.mapTick : Try.prog.underlying 52 = some (.map 48 4) := Try.underlying52
/-- block g is a map of truth values at tickets that reads as M -/
def TM (w : World) (g n : Nat) (M : DataW Unit) : Prop := w.ownsMap Try.prog 48 (plainElem Try.prog 4) g n M
theorem TM.put {w : World} {g n : Nat} {M : DataW Unit} (h : TM w g n M) (hn : n ≤ 100) {key : Value} {l : Lit} (hk : keyOf Try.prog 48 key = some l) (x : Bool) :
    ∃ w', (Instr.mapUpdate 52 (.map (some g)) key (.bool x)).run Try.prog w = .ok () w' ∧ TM w' g (n + 1) (M.put l (.lit (.bool x))) ∧ w.grownBy w' (some g) :=
  World.ownsMap.update h tickKeyed Try.mapTick (by unfold maxLen; omega) hk (plainElem_bool Try.underlying4 x)
theorem TM.below {w w' : World} {b n : Nat} {M : DataW Unit} (h : TM w b n M) (hb : Below w.heap.size w w') : TM w' b n M :=
  World.ownsMap.kept (row := none) h ⟨hb.os, hb.tape, hb.output, hb.size, fun i hi _ => hb.block i hi⟩ (by simp)
theorem plainElem_boolT {H : Type} {P : Program} {e : TypeId} (he : P.underlying e = some .bool) {v : Value} {z : DataW H × List MemPlace} (h : plainElem P e v = some z) : ∃ a, v = .bool a ∧ z = (.lit (.bool a), []) := by
  unfold plainElem at h
  rw [he] at h
  cases v <;> simp at h
  exact ⟨_, rfl, h.symm⟩
theorem zeroB (w : World) : (zeroValue 4).run Try.prog w = .ok (.bool false) w := by kernel_rfl
theorem TM.look {w : World} {g n : Nat} {M : DataW Unit} (h : TM w g n M) {key : Value} {l : Lit} (hk : keyOf Try.prog 48 key = some l) {x : Bool} (hat : ∀ z, M.atKey l z = .lit (.bool x)) :
    (Instr.lookup 52 (.map (some g)) key false).run Try.prog w = .ok (.bool x) w := by
  obtain ⟨v, ps, hrun, hv⟩ := World.ownsMap.lookup h tickKeyed Try.mapTick (zeroB w) (plainElem_bool Try.underlying4 false) hk
  obtain ⟨a, rfl, e⟩ := plainElem_boolT Try.underlying4 hv
  rw [hat] at e
  simp only [Prod.mk.injEq, DataW.lit.injEq, Lit.bool.injEq] at e
  rw [hrun, e.1]
theorem row_putT {w w' : World} {g b : Nat} {e : TypeId} {xs : List Value} (h : Row w b e xs) (hg : w.grownBy w' (some g)) (hne : b ≠ g) : Row w' b e xs := (hg.5 b h.lt (fun e => hne (Option.some.inj e))).trans h
theorem tkVal_inj {f h : Nat → Int} (e : tkVal f = tkVal h) : ∀ i, i < 10 → f i = h i := by
  intro i hi
  simp only [tkVal, Value.agg.injEq, Array.mk.injEq, List.cons.injEq, Value.int.injEq, true_and, and_true] at e
  obtain ⟨e0, e1, e2, e3, e4, e5, e6, e7, e8, e9⟩ := e
  match i, hi with
  | 0, _ => exact e0
  | 1, _ => exact e1
  | 2, _ => exact e2
  | 3, _ => exact e3
  | 4, _ => exact e4
  | 5, _ => exact e5
  | 6, _ => exact e6
  | 7, _ => exact e7
  | 8, _ => exact e8
  | 9, _ => exact e9
/-- what the first k tickets of a list have made of a map -/
def TkM (G : (Nat → Int) → Bool) (ts : List (Nat → Int)) (k : Nat) (M : DataW Unit) : Prop :=
  IsMap M ∧ ∀ j, j < k → ∀ l, keyOf Try.prog 48 (tkVal (ts[j]?.getD (fun _ => 0))) = some l → ∀ z, M.atKey l z = .lit (.bool (G (ts[j]?.getD (fun _ => 0))))
theorem TkM.start (G : (Nat → Int) → Bool) (ts : List (Nat → Int)) : TkM G ts 0 (DataW.map []) := ⟨isMap_empty, fun j hj => by omega⟩
theorem TkM.step {G : (Nat → Int) → Bool} {ts : List (Nat → Int)} {k : Nat} {M : DataW Unit} {l : Lit} (h : TkM G ts k M) (hl : keyOf Try.prog 48 (tkVal (ts[k]?.getD (fun _ => 0))) = some l)
    (hG : ∀ f f', tkVal f = tkVal f' → G f = G f') : TkM G ts (k + 1) (M.put l (.lit (.bool (G (ts[k]?.getD (fun _ => 0)))))) := by
  refine ⟨h.1.put _ _, fun j hj l' hl' z => ?_⟩
  by_cases e : l' = l
  · subst e
    rw [atKey_put_same h.1 (tickKeyed.one.key ⟨_, hl⟩), hG _ _ (tickLaw.inj hl' hl)]
  · rw [atKey_put_other e]
    by_cases ej : j = k
    · subst ej
      exact absurd (Option.some.inj (hl'.symm.trans hl)) e
    · exact h.2 j (by omega) l' hl' z
end Go.Proofs.Ytnfgapgjkkeofaa
