/- spec.ReadStack. -/
import Derived.Test.YtfifnngdmhdkiaaGreatDoorSpB
import Derived.Test.YtfifnngdmhdkiaaGreatDoorOwnB
import Derived.Test.YtfifnngdmhdkiaaGreatDoorMgP
namespace Go.Proofs.YtfifnngdmhdkiaaGreatDoor
open Go.RowKit
set_option linter.unusedVariables false
set_option linter.unusedSimpArgs false
theorem spl_sum (c : UInt8) : ∀ l, ((spl c l).map List.length).sum + (spl c l).length = l.length + 1
  | [] => rfl
  | x :: r => by
    have ih := spl_sum c r
    unfold spl
    split
    · simp; omega
    · cases h : spl c r with
      | nil => exact absurd h (spl_ne c r)
      | cons p ps => rw [h] at ih; simp [hdA] at ih ⊢; omega
theorem sum_ge : ∀ (ps : List (List UInt8)), (∀ p ∈ ps, 1 ≤ p.length) → ps.length ≤ (ps.map List.length).sum
  | [], _ => by simp
  | p :: ps, h => by
    have := sum_ge ps (fun q hq => h q (by simp [hq]))
    have := h p (by simp)
    simp; omega
theorem mem_sum : ∀ (ps : List (List UInt8)) (p : List UInt8), p ∈ ps → p.length ≤ (ps.map List.length).sum
  | [], p, h => by simp at h
  | q :: ps, p, h => by
    simp only [List.mem_cons] at h
    rcases h with rfl | h
    · simp
    · have := mem_sum ps p h; simp; omega
theorem spl_mem_len {c : UInt8} {l p : List UInt8} (h : p ∈ spl c l) : p.length ≤ l.length := by
  have a := mem_sum _ p h
  have b := spl_sum c l
  have d : 1 ≤ (spl c l).length := by
    cases hh : spl c l with
    | nil => exact absurd hh (spl_ne c l)
    | cons => simp
  omega
def okW (p : List UInt8) : Bool := canB p && decide (numV p ≤ 100)
def nmL (ps : List (List UInt8)) : List Int := ps.reverse.map fun p => (numV p : Int)
/-- the stack of a text -/
def stkR (l : List UInt8) : Option (List Int) := if (spl 58 l).all okW && okL (nmL (spl 58 l)) then some (nmL (spl 58 l)) else none
theorem nmL_drop {ps : List (List UInt8)} {d : Nat} {p : List UInt8} (h : ps[d]? = some p) : nmL (ps.drop d) = nmL (ps.drop (d + 1)) ++ [(numV p : Int)] := by
  have hd : d < ps.length := by
    by_cases c : d < ps.length
    · exact c
    · rw [List.getElem?_eq_none (by omega)] at h; cases h
  rw [List.drop_eq_getElem_cons hd]
  rw [List.getElem?_eq_getElem hd] at h
  rw [Option.some.inj h]
  simp [nmL]
theorem nmL_len (ps : List (List UInt8)) : (nmL ps).length = ps.length := by simp [nmL]
theorem all_drop {ps : List (List UInt8)} {d : Nat} {p : List UInt8} (h : ps[d]? = some p) (hp : okW p = true) (ha : (ps.drop (d + 1)).all okW = true) : (ps.drop d).all okW = true := by
  have hd : d < ps.length := by
    by_cases c : d < ps.length
    · exact c
    · rw [List.getElem?_eq_none (by omega)] at h; cases h
  rw [List.drop_eq_getElem_cons hd]
  rw [List.getElem?_eq_getElem hd] at h
  rw [Option.some.inj h, List.all_cons, hp, ha]; rfl
theorem stkR_bad {l p : List UInt8} {d : Nat} (h : (spl 58 l)[d]? = some p) (hp : okW p = false) : stkR l = none := by
  have : (spl 58 l).all okW = false := by
    rw [List.all_eq_false]
    exact ⟨p, List.mem_of_getElem? h, by simp [hp]⟩
  simp [stkR, this]
theorem stkR_all {l : List UInt8} (h : (spl 58 l).all okW = true) : stkR l = if okL (nmL (spl 58 l)) then some (nmL (spl 58 l)) else none := by simp [stkR, h]
/-- what l01Stack gives -/
def StG (r : Option (List Int)) (w : World) (e : Ending) (w' : World) : Prop := ∃ v b, e = .returned (.tuple #[v, .bool b]) ∧ Below w.heap.size w w' ∧ ((b = true ∧ ∃ zs, r = some zs ∧ OwnB w' w.heap.size v zs) ∨ (b = false ∧ r = none))
theorem okW_len {ps : List (List UInt8)} (h : ps.all okW = true) : ∀ p ∈ ps, 1 ≤ p.length := fun p hp => by
  have := List.all_eq_true.1 h p hp
  unfold okW canB at this
  simp only [Bool.and_eq_true, decide_eq_true_eq] at this
  exact this.1.1.1.1
theorem owns_stk {w : World} {base n : Nat} {v : Value} {zs : List Int} (h : w.ownsRow base 5 1 v n (zs.map (Value.int .u8))) (hn : 1 ≤ n) (hz : ∀ z ∈ zs, 0 ≤ z ∧ z ≤ 255) (hl : zs.length ≤ 1048576) : ∃ g cp, v = .slice (some ⟨g, 0, none⟩) n cp ∧ base ≤ g ∧ Stk w g zs := by
  rcases h.2 with ⟨_, h2⟩ | ⟨g, cap, cur, h2, h3, h4, h5, h6, h7, h8⟩
  · omega
  · have hr : Row w g 5 (zs.map (Value.int .u8) ++ cur.toList.drop (n * 1)) := by
      unfold Row
      rw [h4, ← h8, List.take_append_drop]
    refine ⟨g, cap, h2, h3, hr.lt, fun j hj => ?_, hz, hl⟩
    rw [hr.cell j, List.getElem?_append_left (by simpa using hj), List.getElem?_map, List.getElem?_eq_getElem hj]
    rfl
theorem ownsS_addr {w : World} {base : Nat} {v : Value} {ss : List ByteArray} (h : OwnS' w base v ss) (hn : 1 ≤ ss.length) : ∃ g cp, v = .slice (some ⟨g, 0, none⟩) ss.length cp ∧ base ≤ g ∧ ss.length ≤ cp ∧ g < w.heap.size ∧ (∀ j x, ss[j]? = some x → w.cell? ⟨g, j, none⟩ = some (.string x)) := by
  unfold OwnS' at h
  have h' := h
  rcases h.2 with ⟨_, h2⟩ | ⟨g, cap, cur, h2, h3, h4, h5, h6, h7, h8⟩
  · omega
  · subst h2
    refine ⟨g, cap, rfl, h3, h5, lt_of_block h4, fun j x hj => ?_⟩
    have := own_cells h' j x hj
    simpa using this
/-- what both give: a stack of its own and a code -/
def RsR (r : List Int × Int) (w : World) (e : Ending) (w' : World) : Prop := ∃ v, e = .returned (.tuple #[v, .int .i64 r.2]) ∧ OwnB w' w.heap.size v r.1 ∧ Below w.heap.size w w'
def rsR (l : List UInt8) : List Int × Int := match stkR l with | some zs => (zs, 0) | none => ([], 5)
end Go.Proofs.YtfifnngdmhdkiaaGreatDoor
