/- Numbers at 64 bits as the program reads them, and cuts: mathematics. -/
import Derived.Test.YtoenefhobjpfdaaGreatDoorNmD
namespace Go.Proofs.YtoenefhobjpfdaaGreatDoor
open Go.RowKit
set_option linter.unusedVariables false
set_option linter.unusedSimpArgs false
def pi64 (l : List UInt8) : Option Int := match Lib.parseIntB 64 l with | .ok v => some v | _ => none
theorem pi64_out {l : List UInt8} {v : Int} (h : pi64 l = some v) : Lib.parseIntB 64 l = .ok v := by
  unfold pi64 at h
  cases hh : Lib.parseIntB 64 l with
  | ok u => rw [hh] at h; injection h with h; rw [h]
  | «syntax» => rw [hh] at h; cases h
  | range => rw [hh] at h; cases h
theorem pi64_bd {l : List UInt8} {v : Int} (h : pi64 l = some v) : -9223372036854775808 ≤ v ∧ v ≤ 9223372036854775807 := by
  have := Lib.parseIntB_bounds (pi64_out h)
  simp at this
  omega
theorem cut_oneK (c : UInt8) (p q : List UInt8) (h : c ∉ p) : Lib.cut (p ++ c :: q) [c] = (p, q, true) := by
  unfold Lib.cut
  rw [Lib.index_one, indexByte_app c q p h, if_pos (by omega)]
  simp only [Int.toNat_natCast, List.length_cons, List.length_nil]
  rw [List.take_left' rfl, show p ++ c :: q = (p ++ [c]) ++ q by simp, List.drop_left' (by simp)]
theorem cut_lenK (s : List UInt8) (c : List UInt8) : (Lib.cut s c).1.length ≤ s.length ∧ (Lib.cut s c).2.1.length ≤ s.length := by
  unfold Lib.cut
  split
  · constructor
    · simp; omega
    · simp
  · simp
theorem pi64_D {l : List UInt8} (h : canD l = true) : pi64 l = some (numV l : Int) := by
  unfold pi64
  rw [parse64_D h]
theorem itoa_noC {c : UInt8} (hc : digB c = false) (n : Nat) (hn : n < 10000000000000) : c ∉ Lib.decDigits n := digs_no hc (canD_digs (canD_of n hn).1)
/-- a line of two numbers, as the program reads it -/
def twoR (p : ByteArray) : Option (Int × Int) := if (Lib.cut p.data.toList [32]).2.2 then (match pi64 (Lib.cut p.data.toList [32]).1, pi64 (Lib.cut p.data.toList [32]).2.1 with | some a, some b => some (a, b) | _, _ => none) else none
theorem twoR_of (m n : Nat) (hm : m < 10000000000000) (hn : n < 10000000000000) (p : ByteArray) (hp : p.data.toList = twoT m n) : twoR p = some ((m : Int), (n : Int)) := by
  have e : Lib.cut p.data.toList [32] = (Lib.decDigits m, Lib.decDigits n, true) := by
    rw [hp]
    unfold twoT
    rw [itoa_nat, itoa_nat, List.append_assoc, List.singleton_append]
    exact cut_oneK 32 _ _ (itoa_noC (by decide) m hm)
  unfold twoR
  rw [e]
  simp only [if_true]
  rw [pi64_D (canD_of m hm).1, pi64_D (canD_of n hn).1, (canD_of m hm).2, (canD_of n hn).2]
theorem twoR_bd {p : ByteArray} {a b : Int} (h : twoR p = some (a, b)) : (-9223372036854775808 ≤ a ∧ a ≤ 9223372036854775807) ∧ (-9223372036854775808 ≤ b ∧ b ≤ 9223372036854775807) := by
  unfold twoR at h
  split at h
  · cases e1 : pi64 (Lib.cut p.data.toList [32]).1 with
    | none => rw [e1] at h; cases h
    | some x =>
      cases e2 : pi64 (Lib.cut p.data.toList [32]).2.1 with
      | none => rw [e1, e2] at h; cases h
      | some y =>
        rw [e1, e2] at h
        injection h with h
        injection h with ha hb
        subst ha; subst hb
        exact ⟨pi64_bd e1, pi64_bd e2⟩
  · cases h
end Go.Proofs.YtoenefhobjpfdaaGreatDoor
