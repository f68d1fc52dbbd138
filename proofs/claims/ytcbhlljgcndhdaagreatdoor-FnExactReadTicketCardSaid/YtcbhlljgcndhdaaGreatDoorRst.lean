/- impl.ReadStack. -/
import Derived.Test.YtcbhlljgcndhdaaGreatDoorRstM
namespace Go.Proofs.YtcbhlljgcndhdaaGreatDoor
open Go.RowKit
set_option linter.unusedVariables false
set_option linter.unusedSimpArgs false
set_option maxRecDepth 100000 in
set_option maxHeartbeats 1000000 in
theorem validStack_nil (w : World) : Calls Tryz.prog 14 #[.slice none 0 0] w fun e w' => e = .returned (.bool false) ∧ w = w' := by
  go_enter Tryz.func14, Tryz.ntmps14
  go_wp2_with fail
  go_ret
  exact ⟨rfl, rfl⟩
theorem pwI_bd (p : ByteArray) : 0 ≤ pwI p ∧ pwI p ≤ 255 := by
  unfold pwI pw
  cases h : Lib.parseUintB 8 p.data.toList with
  | ok u => have := Lib.parseUintB_le h; simp; omega
  | «syntax» => simp
  | range => simp
theorem rsR_no {l : List UInt8} (h : stkR l = none) : rsR l = ([], 5) := by simp [rsR, h]
theorem rsR_yes {l : List UInt8} {zs : List Int} (h : stkR l = some zs) : rsR l = (zs, 0) := by simp [rsR, h]
/-- the variables of the library, the table too -/
def LW (w : World) (tS : TypeId) (pS : Value) (tR : TypeId) (pR : Value) (m : Int) : Prop := LV w tS pS tR pR m ∧ Lib.TabIs Tryz.prog w "internal/strconv.uint64pow10" .u64 Lib.pow10Tab ∧ 3 < w.heap.size
theorem LW.below {w w' : World} {tS tR : TypeId} {pS pR : Value} {m : Int} {n : Nat} (h : LW w tS pS tR pR m) (hb : Below n w w') (hn : w.heap.size ≤ n) : LW w' tS pS tR pR m :=
  ⟨h.1.below hb hn, tab_below h.2.1 hb (Nat.lt_of_lt_of_le h.2.2 hn), Nat.lt_of_lt_of_le h.2.2 hb.size⟩
theorem owns_lowB {w : World} {b' base size n : Nat} {e : TypeId} {v : Value} {xs : List Value} (h : w.ownsRow base e size v n xs) (hb : b' ≤ base) : w.ownsRow b' e size v n xs := by
  obtain ⟨h1, h2 | ⟨g, cap, cur, h2, h3, r⟩⟩ := h
  · exact ⟨h1, .inl h2⟩
  · exact ⟨h1, .inr ⟨g, cap, cur, h2, by omega, r⟩⟩
end Go.Proofs.YtcbhlljgcndhdaaGreatDoor
