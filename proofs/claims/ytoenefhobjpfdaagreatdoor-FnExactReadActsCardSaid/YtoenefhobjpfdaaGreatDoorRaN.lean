/- Lists of no acts, and lists that a call made: their text. -/
import Derived.Test.YtoenefhobjpfdaaGreatDoorRaW
import Derived.Test.YtoenefhobjpfdaaGreatDoorOwnA
import Derived.Test.YtoenefhobjpfdaaGreatDoorLw
namespace Go.Proofs.YtoenefhobjpfdaaGreatDoor
open Go.RowKit Go.Shelf
set_option linter.unusedVariables false
set_option linter.unusedSimpArgs false
theorem indexAct_nil (a : Option Addr) (cap : Nat) (w : World) :
    Calls Tryz.prog 48 #[.slice a 0 cap, .func (Fn.func 34) #[] #[]] w (GivesB w (.int .i64 (-1))) := by
  go_enter Tryz.func48, Tryz.ntmps48
  go_wp2_with fail
  refine wp_loop_rounds 1 ?_
  rw [rounds_succ]
  go_wp2_with fail
  go_ret
  exact ⟨rfl, Below.refl _ _⟩
theorem containsAct_nil (a : Option Addr) (cap : Nat) (w : World) :
    Calls Tryz.prog 33 #[.slice a 0 cap, .func (Fn.func 34) #[] #[]] w (GivesB w (.bool false)) := by
  have HI := hid (indexAct_nil a cap w)
  go_enter Tryz.func33, Tryz.ntmps33
  go_wp2_with fail
  refine HI.out.mono ?_
  rintro e w1 ⟨rfl, hB1⟩
  go_wp2_with fail
  go_ret
  exact ⟨rfl, hB1⟩
theorem actsErr_nil (a : Option Addr) (cap : Nat) (w : World) :
    Calls Tryz.prog 23 #[.slice a 0 cap] w (GivesB w .nilIface) := by
  have HC := hid (containsAct_nil a cap w)
  go_enter Tryz.func23, Tryz.ntmps23
  go_wp2_with fail
  refine HC.out.mono ?_
  rintro e w1 ⟨rfl, hB1⟩
  go_wp2_with fail
  go_ret
  exact ⟨rfl, hB1⟩
/-- acts of its own have an error, as a code -/
theorem implACT_nil (a : Option Addr) (cap : Nat) (w : World) : Calls Tryz.prog 13 #[.slice a 0 cap] w fun e w' => e = .returned (.string ⟨([] : List UInt8).toArray⟩) ∧ Below w.heap.size w w' := by
  have HV := hid (actsErr_nil a cap w)
  go_enter Tryz.func13, Tryz.ntmps13
  go_wp2_with fail
  refine HV.out.mono ?_
  rintro e w1 ⟨rfl, hB1⟩
  have B1 := hid hB1
  have HBN := hid (BuS.new w1)
  have HBW := hid (show Below w1.heap.size w1 (w1.alloc (.cells #[.pointer none, .slice none 0 0] 55)) from (Below.refl _ _).alloc (Nat.le_refl _) _)
  clear hB1
  go_wp2_with fail
  refine wp_loop_rounds 1 ?_
  rw [rounds_succ]
  have HJ := hid (bstring_any w1.heap.size [] _ HBN.out)
  go_wp2_with (go_at_call 26; refine HJ.out.mono ?_; rintro e w9 ⟨rfl, hB9⟩)
  go_ret
  exact ⟨rfl, B1.out.trans ((HBW.out.trans hB9).mono B1.out.size)⟩
/-- the library's variables and the program's two -/
def LX (w : World) (tS : TypeId) (pS : Value) (tR : TypeId) (pR : Value) (m : Int) (a0 a1 : Addr) : Prop := LW w tS pS tR pR m ∧ (w.cell? ⟨0, 0, none⟩ = some (.iface 109 (.pointer (some a0))) ∧ 0 < w.heap.size) ∧ w.cell? ⟨1, 0, none⟩ = some (.iface 109 (.pointer (some a1))) ∧ 1 < w.heap.size
theorem LX.below {w w' : World} {tS tR : TypeId} {pS pR : Value} {m : Int} {a0 a1 : Addr} {n : Nat} (h : LX w tS pS tR pR m a0 a1) (hb : Below n w w') (hn : w.heap.size ≤ n) : LX w' tS pS tR pR m a0 a1 :=
  ⟨h.1.below hb hn, ⟨(hb.cell (p := ⟨0, 0, none⟩) (Nat.lt_of_lt_of_le h.2.1.2 hn)).trans h.2.1.1, Nat.lt_of_lt_of_le h.2.1.2 hb.size⟩, (hb.cell (p := ⟨1, 0, none⟩) (Nat.lt_of_lt_of_le h.2.2.2 hn)).trans h.2.2.1, Nat.lt_of_lt_of_le h.2.2.2 hb.size⟩
theorem acR_nil : acR [] = [] := by unfold acR; split <;> rfl
theorem implACT_own (base : Nat) (v : Value) (js : List (Int × Int)) (w : World) (h : OwnA w base v js) {tS tR : TypeId} {pS pR : Value} {m : Int} {a0 a1 : Addr} (hL : LX w tS pS tR pR m a0 a1) : Calls Tryz.prog 13 #[v] w fun e w' => e = .returned (.string ⟨(acR js).toArray⟩) ∧ Below w.heap.size w w' := by
  obtain ⟨a, cap, rfl, hl, h0 | ⟨g, rest, rfl, hg, hr⟩⟩ := h
  · subst h0
    rw [acR_nil]
    exact implACT_nil a cap w
  · exact implACT_any g js.length cap js w (OwnA.pst hr hl) rfl hL.1.2.1 hL.1.2.2 a0 hL.2.1.1 a1 hL.2.2.1
def RaR (r : List (Int × Int) × Int) (w : World) (e : Ending) (w' : World) : Prop := ∃ v, e = .returned (.tuple #[v, .int .i64 r.2]) ∧ OwnA w' w.heap.size v r.1 ∧ Below w.heap.size w w'
theorem OwnA.down {w : World} {base base' : Nat} {v : Value} {js : List (Int × Int)} (h : OwnA w base v js) (hb : base' ≤ base) : OwnA w base' v js := by
  obtain ⟨a, cap, e1, e2, h0 | ⟨gg, rest, e4, e5, e6⟩⟩ := h
  · exact ⟨a, cap, e1, e2, .inl h0⟩
  · exact ⟨a, cap, e1, e2, .inr ⟨gg, rest, e4, Nat.le_trans hb e5, e6⟩⟩
end Go.Proofs.YtoenefhobjpfdaaGreatDoor
