/- Maps with readings as keys, and truth values. -/
import Derived.Test.YtilbpgcgjbblaaaCsM
import Derived.Maps.OwnOps
import Derived.Maps.Views
import Derived.DeepKeys4
import Derived.Laws.StructEq
import Derived.Deep.RegionHeld3
namespace Go.Proofs.Ytilbpgcgjbblaaa
open Go.RowKit Go.Maps
set_option linter.unusedSimpArgs false
set_option linter.unusedVariables false
theorem Try.laidR : laidOutB Try.prog = true := by kernel_rfl
theorem Try.rowRdg : (56 : TypeId) < Try.prog.types.size := of_decide_eq_true (by kernel_rfl)
theorem Try.wideRdg : (match Try.prog.underlying 56 with | some (.array _ _) | some (.struct _) => true | _ => false) = true := by kernel_rfl
set_option maxRecDepth 100000 in
theorem rdgLaw : WideMaps.KeyLaw Try.prog 56 := deep_law_laid Try.laidR (m := 5) (by omega) Try.rowRdg (by kernel_rfl) Try.wideRdg
set_option maxRecDepth 100000 in
theorem rdgKeyed : Keyed Try.prog 56 := Keyed.of_law rdgLaw
theorem Try.cellsRdg : Try.prog.cellsOf 56 = 2 := by kernel_rfl
theorem Try.cellsI64R : Try.prog.cellsOf 2 = 1 := by kernel_rfl
theorem Try.keyRdg : Try.prog.keyType 56 = true := by kernel_rfl
theorem wf64r (x : Int) (h : I64 x) : (Lit.int .i64 x).wf = true := WalkArith.wf_i64 h
/-- a reading's value -/
def rgVal (d v : Int) : Value := .agg #[.int .i64 d, .int .i64 v]
theorem keyRg {d v : Int} (h0 : I64 d) (h1 : I64 v) : ∃ l, keyOf Try.prog 56 (rgVal d v) = some l := by
  obtain ⟨m, hm⟩ : ∃ m, Try.prog.types.size = m + 3 := ⟨Try.prog.types.size - 3, by have : 3 ≤ Try.prog.types.size := of_decide_eq_true (by kernel_rfl); omega⟩
  have hf : (rgVal d v).formed Try.prog 56 = true := by simp [rgVal, Value.formed, Try.underlying56, Try.cellsRdg]
  unfold keyOf
  simp only [Try.underlying56, Try.keyRdg, hf, Bool.and_self, if_true]
  rw [hm]
  simp [rgVal, Program.keyLits, Try.underlying56, Try.cellsRdg, Try.cellsI64R, Value.cells, Try.underlying2, wf64r _ h0, wf64r _ h1]
theorem Try.mapRdg : Try.prog.underlying 75 = some (.map 56 4) := Try.underlying75
/-- block g is a map of truth values at readings that reads as M -/
def RM (w : World) (g n : Nat) (M : DataW Unit) : Prop := w.ownsMap Try.prog 56 (plainElem Try.prog 4) g n M
theorem RM.put {w : World} {g n : Nat} {M : DataW Unit} (h : RM w g n M) (hn : n ≤ 100) {key : Value} {l : Lit} (hk : keyOf Try.prog 56 key = some l) (x : Bool) :
    ∃ w', (Instr.mapUpdate 75 (.map (some g)) key (.bool x)).run Try.prog w = .ok () w' ∧ RM w' g (n + 1) (M.put l (.lit (.bool x))) ∧ w.grownBy w' (some g) :=
  World.ownsMap.update h rdgKeyed Try.mapRdg (by unfold maxLen; omega) hk (plainElem_bool Try.underlying4 x)
theorem RM.below {w w' : World} {b n : Nat} {M : DataW Unit} (h : RM w b n M) (hb : Below w.heap.size w w') : RM w' b n M :=
  World.ownsMap.kept (row := none) h ⟨hb.os, hb.tape, hb.output, hb.size, fun i hi _ => hb.block i hi⟩ (by simp)
theorem plainElem_boolR {H : Type} {P : Program} {e : TypeId} (he : P.underlying e = some .bool) {v : Value} {z : DataW H × List MemPlace} (h : plainElem P e v = some z) : ∃ a, v = .bool a ∧ z = (.lit (.bool a), []) := by
  unfold plainElem at h
  rw [he] at h
  cases v <;> simp at h
  exact ⟨_, rfl, h.symm⟩
theorem zeroBR (w : World) : (zeroValue 4).run Try.prog w = .ok (.bool false) w := by kernel_rfl
theorem RM.look {w : World} {g n : Nat} {M : DataW Unit} (h : RM w g n M) {key : Value} {l : Lit} (hk : keyOf Try.prog 56 key = some l) {x : Bool} (hat : M.atKey l (.lit (.bool false)) = .lit (.bool x)) :
    (Instr.lookup 75 (.map (some g)) key false).run Try.prog w = .ok (.bool x) w := by
  obtain ⟨v, ps, hrun, hv⟩ := World.ownsMap.lookup h rdgKeyed Try.mapRdg (zeroBR w) (plainElem_bool Try.underlying4 false) hk
  obtain ⟨a, rfl, e⟩ := plainElem_boolR Try.underlying4 hv
  rw [hat] at e
  simp only [Prod.mk.injEq, DataW.lit.injEq, Lit.bool.injEq] at e
  rw [hrun, e.1]
theorem row_putR {w w' : World} {g b : Nat} {e : TypeId} {xs : List Value} (h : Row w b e xs) (hg : w.grownBy w' (some g)) (hne : b ≠ g) : Row w' b e xs := (hg.5 b h.lt (fun e => hne (Option.some.inj e))).trans h
theorem rgVal_inj {d v d' v' : Int} (e : rgVal d v = rgVal d' v') : d = d' ∧ v = v' := by
  simpa [rgVal] using e
/-- the readings at the first k places of a list, as a map tells them -/
def BkM (js : List (Int × Int)) (bs : List Int) (k : Nat) (M : DataW Unit) : Prop :=
  IsMap M ∧ ∀ i, i < js.length → ∀ l, keyOf Try.prog 56 (rgVal (rd js i) (rv js i)) = some l → M.atKey l (.lit (.bool false)) = .lit (.bool (hasL (bs.take k) (i : Int)))
theorem BkM.start (js : List (Int × Int)) (bs : List Int) : BkM js bs 0 (DataW.map []) := ⟨isMap_empty, fun i hi l hl => rfl⟩
theorem hasL_take {bs : List Int} {k : Nat} (hk : k < bs.length) (x : Int) : hasL (bs.take (k + 1)) x = (hasL (bs.take k) x || (lv bs k == x)) := by
  have e : bs.take (k + 1) = bs.take k ++ [lv bs k] := by
    rw [List.take_add_one, List.getElem?_eq_getElem hk]; unfold lv; rw [List.getElem?_eq_getElem hk]; rfl
  rw [e]; unfold hasL; simp
theorem BkM.step {js : List (Int × Int)} {bs : List Int} {k q : Nat} {M : DataW Unit} {l : Lit} (h : BkM js bs k M) (hk : k < bs.length) (hq : q < js.length) (e : lv bs k = (q : Int)) (hd : ∀ i j, i < js.length → j < js.length → rd js i = rd js j → i = j)
    (hl : keyOf Try.prog 56 (rgVal (rd js q) (rv js q)) = some l) : BkM js bs (k + 1) (M.put l (.lit (.bool true))) := by
  refine ⟨h.1.put _ _, fun i hi l' hl' => ?_⟩
  rw [hasL_take hk, e]
  by_cases el : l' = l
  · subst el
    have hv := rgVal_inj (rdgLaw.inj hl' hl)
    have : i = q := hd i q hi hq hv.1
    subst this
    rw [atKey_put_same h.1 (rdgKeyed.one.key ⟨_, hl⟩)]
    simp
  · rw [atKey_put_other el, h.2 i hi l' hl']
    have : ¬ (q : Int) = (i : Int) := fun c => by
      have : q = i := by omega
      subst this
      exact el (Option.some.inj (hl'.symm.trans hl))
    have e2 : ((q : Int) == (i : Int)) = false := by simpa using this
    rw [e2, Bool.or_false]
end Go.Proofs.Ytilbpgcgjbblaaa
