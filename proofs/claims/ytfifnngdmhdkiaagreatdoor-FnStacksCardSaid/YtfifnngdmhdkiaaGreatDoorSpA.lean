/- spec.l01Split: a text at a byte. -/
import Derived.Test.YtfifnngdmhdkiaaGreatDoorRdM
import Derived.Test.YtfifnngdmhdkiaaGreatDoorTxC
import Derived.Laws.Strings
namespace Go.Proofs.YtfifnngdmhdkiaaGreatDoor
open Go.RowKit
set_option linter.unusedVariables false
set_option linter.unusedSimpArgs false
def bas (ps : List (List UInt8)) : List ByteArray := ps.map fun p => ⟨p.toArray⟩
theorem bas_len (ps : List (List UInt8)) : (bas ps).length = ps.length := by simp [bas]
def piece (l : List UInt8) (b k : Nat) : List UInt8 := (l.take k).drop b
theorem ext_data (t : ByteArray) (b k : Nat) : (t.extract b k).data.toList = piece t.data.toList b k := by
  simp [piece, ByteArray.data_extract, List.extract_eq_take_drop, List.drop_take]
theorem piece_snoc {l : List UInt8} {b k : Nat} {u : UInt8} (hb : b ≤ k) (h : l[k]? = some u) : piece l b (k + 1) = piece l b k ++ [u] := by
  have hk : k < l.length := by
    by_cases c : k < l.length
    · exact c
    · rw [List.getElem?_eq_none (by omega)] at h; cases h
  have e : l[k] = u := by rw [List.getElem?_eq_getElem hk] at h; exact Option.some.inj h
  unfold piece
  rw [List.take_succ_eq_append_getElem hk, List.drop_append_of_le_length (by simp; omega), e]
theorem drop_at {l : List UInt8} {k : Nat} {u : UInt8} (h : l[k]? = some u) : l.drop k = u :: l.drop (k + 1) := by
  have hk : k < l.length := by
    by_cases c : k < l.length
    · exact c
    · rw [List.getElem?_eq_none (by omega)] at h; cases h
  rw [List.drop_eq_getElem_cons hk]
  rw [List.getElem?_eq_getElem hk] at h
  rw [Option.some.inj h]
def spAt (c : UInt8) (l : List UInt8) (ps : List (List UInt8)) (b k : Nat) : Prop := spl c l = ps ++ hdA (piece l b k) (spl c (l.drop k))
theorem spAt_zero (c : UInt8) (l : List UInt8) : spAt c l [] 0 0 := by simp [spAt, piece, hdA_nil (spl_ne c l)]
theorem spAt_hit {c : UInt8} {l : List UInt8} {ps : List (List UInt8)} {b k : Nat} (h : spAt c l ps b k) (hk : l[k]? = some c) : spAt c l (ps ++ [piece l b k]) (k + 1) (k + 1) := by
  unfold spAt at *
  rw [h, drop_at hk, spl, if_pos rfl, show piece l (k + 1) (k + 1) = [] by simp [piece], hdA_nil (spl_ne _ _)]
  simp [hdA]
theorem spAt_miss {c u : UInt8} {l : List UInt8} {ps : List (List UInt8)} {b k : Nat} (h : spAt c l ps b k) (hb : b ≤ k) (hk : l[k]? = some u) (hu : ¬ u = c) : spAt c l ps b (k + 1) := by
  unfold spAt at *
  rw [h, drop_at hk, spl, if_neg hu, hdA_app _ _ (spl_ne _ _), piece_snoc hb hk]
theorem spAt_end {c : UInt8} {l : List UInt8} {ps : List (List UInt8)} {b : Nat} (h : spAt c l ps b l.length) : spl c l = ps ++ [piece l b l.length] := by
  unfold spAt at h
  rw [h]; simp [spl, hdA]
theorem idx_str (t : ByteArray) (k : Nat) (hk : k < t.size) (ty : TypeId) (hty : Tryz.prog.underlying ty = some .string) : ∃ u : UInt8, t.data.toList[k]? = some u ∧ ∀ w, (Instr.index ty (.string t) (.int .i64 (k : Int))).run Tryz.prog w = .ok (.int .u8 (u.toNat : Int)) w := by
  have hk2 : k < t.data.toList.length := by rw [Array.length_toList]; exact hk
  refine ⟨t.data.toList[k], List.getElem?_eq_getElem hk2, fun w => ?_⟩
  rw [run_index_string w ty t .i64 k hty, dif_pos ⟨by omega, by omega⟩]
  rfl
/-- a list of strings of its own -/
def OwnS' (w : World) (base : Nat) (v : Value) (ss : List ByteArray) : Prop := w.ownsRow base 9 1 v ss.length (ss.map Value.string)
end Go.Proofs.YtfifnngdmhdkiaaGreatDoor
