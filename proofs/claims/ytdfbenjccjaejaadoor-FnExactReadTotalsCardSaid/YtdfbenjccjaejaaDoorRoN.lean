/- Lists of no totals, and lists that a call made: valid, and their text. -/
import Derived.Test.YtdfbenjccjaejaaDoorRoM
import Derived.Test.YtdfbenjccjaejaaDoorOwnT
import Derived.Test.YtdfbenjccjaejaaDoorLw
namespace Go.Proofs.YtdfbenjccjaejaaDoor
open Go.RowKit Go.Shelf
set_option linter.unusedVariables false
set_option linter.unusedSimpArgs false
theorem implTotals_nil (a : Option Addr) (cap : Nat) (w : World) : Calls Tryd.prog 21 #[.slice a 0 cap] w (GivesB w (.bool true)) := by
  go_enter Tryd.func21, Tryd.ntmps21
  go_wp2_with fail
  refine wp_loop_rounds 1 ?_
  rw [rounds_succ]
  go_wp2_with fail
  go_ret
  exact ⟨rfl, Below.refl _ _⟩
theorem l06Totals_nil (a : Option Addr) (cap : Nat) (w : World) : Calls Tryd.prog 11 #[.slice a 0 cap] w (GivesB w (.bool true)) := by
  go_enter Tryd.func11, Tryd.ntmps11
  go_wp2_with fail
  refine wp_loop_rounds 1 ?_
  rw [rounds_succ]
  go_wp2_with fail
  go_ret
  exact ⟨rfl, Below.refl _ _⟩
theorem implTOT_nil (a : Option Addr) (cap : Nat) (w : World) : Calls Tryd.prog 14 #[.slice a 0 cap] w fun e w' => e = .returned (.string ⟨([] : List UInt8).toArray⟩) ∧ Below w.heap.size w w' := by
  have HV := hid (implTotals_nil a cap w)
  go_enter Tryd.func14, Tryd.ntmps14
  go_wp2_with fail
  refine HV.out.mono ?_
  rintro e w1 ⟨rfl, hB1⟩
  have B1 := hid hB1
  have HBN := hid (BuS.new w1)
  have HBW := hid (show Below w1.heap.size w1 (w1.alloc (.cells #[.pointer none, .slice none 0 0] 53)) from (Below.refl _ _).alloc (Nat.le_refl _) _)
  clear hB1
  go_wp2_with fail
  refine wp_loop_rounds 1 ?_
  rw [rounds_succ]
  have HJ := hid (bstring_any w1.heap.size [] _ HBN.out)
  go_wp2_with (go_at_call 24; refine HJ.out.mono ?_; rintro e w9 ⟨rfl, hB9⟩)
  go_ret
  exact ⟨rfl, B1.out.trans ((HBW.out.trans hB9).mono B1.out.size)⟩
theorem implTOT_own (base : Nat) (v : Value) (js : List (Int × Int)) (w : World) (h : OwnT w base v js) {tS tR : TypeId} {pS pR : Value} {m : Int} (hL : LW w tS pS tR pR m) : Calls Tryd.prog 14 #[v] w fun e w' => e = .returned (.string ⟨(toR js).toArray⟩) ∧ Below w.heap.size w w' := by
  obtain ⟨a, cap, rfl, hl, h0 | ⟨g, rest, rfl, hg, hr⟩⟩ := h
  · subst h0
    exact implTOT_nil a cap w
  · exact implTOT_any g js.length cap js w (OwnT.pst hr hl) rfl hL.2.1 hL.2.2
theorem l06Totals_own (base : Nat) (v : Value) (js : List (Int × Int)) (w : World) (h : OwnT w base v js) : Calls Tryd.prog 11 #[v] w (GivesB w (.bool (okTs js))) := by
  obtain ⟨a, cap, rfl, hl, h0 | ⟨g, rest, rfl, hg, hr⟩⟩ := h
  · subst h0
    exact l06Totals_nil a cap w
  · exact l06Totals_any g js.length cap js rfl w (OwnT.pst hr hl)
def RtR (r : List (Int × Int) × Int) (w : World) (e : Ending) (w' : World) : Prop := ∃ v, e = .returned (.tuple #[v, .int .i64 r.2]) ∧ OwnT w' w.heap.size v r.1 ∧ Below w.heap.size w w'
theorem OwnT.down {w : World} {base base' : Nat} {v : Value} {js : List (Int × Int)} (h : OwnT w base v js) (hb : base' ≤ base) : OwnT w base' v js := by
  obtain ⟨a, cap, e1, e2, h0 | ⟨gg, rest, e4, e5, e6⟩⟩ := h
  · exact ⟨a, cap, e1, e2, .inl h0⟩
  · exact ⟨a, cap, e1, e2, .inr ⟨gg, rest, e4, Nat.le_trans hb e5, e6⟩⟩
end Go.Proofs.YtdfbenjccjaejaaDoor
