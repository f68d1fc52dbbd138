/- The facts on this program's head: what is cut, and that it may be entered; each closed by the kernel over the head's letters. -/
import Derived.Test.YtdlcbfoghpoliaaRows
import Derived.Test.YtdlcbfoghpoliaaOpen
namespace Go.Proofs.Ytdlcbfoghpoliaa
open Go
def headL : List Char := [Char.ofNat 104, Char.ofNat 97, Char.ofNat 114, Char.ofNat 110, Char.ofNat 101, Char.ofNat 115, Char.ofNat 115, Char.ofNat 32, Char.ofNat 99, Char.ofNat 52, Char.ofNat 98, Char.ofNat 48,
  Char.ofNat 51, Char.ofNat 102, Char.ofNat 99, Char.ofNat 52, Char.ofNat 97, Char.ofNat 100, Char.ofNat 101, Char.ofNat 56, Char.ofNat 101, Char.ofNat 97, Char.ofNat 97, Char.ofNat 99,
  Char.ofNat 101, Char.ofNat 51, Char.ofNat 56, Char.ofNat 52, Char.ofNat 53, Char.ofNat 55, Char.ofNat 57, Char.ofNat 101, Char.ofNat 57, Char.ofNat 48, Char.ofNat 56, Char.ofNat 57,
  Char.ofNat 99, Char.ofNat 51, Char.ofNat 54, Char.ofNat 53, Char.ofNat 48, Char.ofNat 49, Char.ofNat 102, Char.ofNat 102, Char.ofNat 52, Char.ofNat 97, Char.ofNat 51, Char.ofNat 52,
  Char.ofNat 100, Char.ofNat 56, Char.ofNat 102, Char.ofNat 56, Char.ofNat 50, Char.ofNat 52, Char.ofNat 102, Char.ofNat 53, Char.ofNat 100, Char.ofNat 50, Char.ofNat 102, Char.ofNat 53,
  Char.ofNat 99, Char.ofNat 101, Char.ofNat 97, Char.ofNat 100, Char.ofNat 51, Char.ofNat 101, Char.ofNat 97, Char.ofNat 97, Char.ofNat 57, Char.ofNat 54, Char.ofNat 53, Char.ofNat 55,
  Char.ofNat 32, Char.ofNat 99, Char.ofNat 117, Char.ofNat 116, Char.ofNat 32, Char.ofNat 97, Char.ofNat 116, Char.ofNat 32, Char.ofNat 108, Char.ofNat 111, Char.ofNat 111, Char.ofNat 112,
  Char.ofNat 46, Char.ofNat 101, Char.ofNat 120, Char.ofNat 97, Char.ofNat 109, Char.ofNat 112, Char.ofNat 108, Char.ofNat 101, Char.ofNat 47, Char.ofNat 103, Char.ofNat 48, Char.ofNat 49,
  Char.ofNat 50, Char.ofNat 55, Char.ofNat 56, Char.ofNat 47, Char.ofNat 108, Char.ofNat 97, Char.ofNat 119, Char.ofNat 115, Char.ofNat 46, Char.ofNat 70, Char.ofNat 110, Char.ofNat 79,
  Char.ofNat 102, Char.ofNat 102]
theorem head_str : Try.prog.initOrder = String.ofList headL := by kernel_rfl
theorem head_list : Try.prog.initOrder.toList = headL := by rw [head_str, String.toList_ofList]
theorem make_of (P : Program) (L : List Char) (hL : P.initOrder.toList = L) (h : ∀ x : Option Make, (match behindMainWord (wordsSigns L) with
    | c :: rest => if c == "gc".toList || c == "spec".toList then some .whole else if c == "cut".toList || (c == "finals".toList && rest.head? == some "cut".toList) then some .cut else if c == "carried".toList then some .carried else x
    | [] => none) = some Make.cut) : P.make = some Make.cut := by
  subst hL
  exact h _
theorem make_cut : Try.prog.make = some Make.cut := make_of _ _ head_list fun x => by kernel_rfl
theorem enter_of (P : Program) (L : List Char) (hL : P.initOrder.toList = L) (h1 : P.laysLater = false) (h2 : P.bearsReflect = false) (h3 : P.doorRows = [])
    (h : ((stripLifts liftWords (behindMainWord (wordsSigns L))).2.head? == some "cut".toList && (stripLifts liftWords (behindMainWord (wordsSigns L))).1.isEmpty && !(behindMainWord (wordsSigns L)).isEmpty) = true) : P.mayEnter = true := by
  subst hL
  unfold Program.mayEnter
  cases hb : behindMainWord (wordsSigns P.initOrder.toList) with
  | nil => rw [hb] at h; simp at h
  | cons c rest =>
    rw [hb] at h
    simp only [Bool.and_eq_true, List.isEmpty_iff] at h
    obtain ⟨⟨h4, h5⟩, _⟩ := h
    simp only [h5, h1, h2]
    rw [h4]
    unfold Program.doorFits
    rw [h3]
    simp
theorem enter_ok : Try.prog.mayEnter = true := enter_of _ _ head_list (by kernel_rfl) (by kernel_rfl) (by kernel_rfl) (by kernel_rfl)
theorem lifts_of (P : Program) (L : List Char) (hL : P.initOrder.toList = L)
    (h : (((behindMainWord (wordsSigns L)).head? == some "carried".toList && (behindMainWord (wordsSigns L)).take 3 != ["carried".toList, "gc".toList, "cut".toList]) || (if (stripLifts liftWords (behindMainWord (wordsSigns L))).2.head? == some "cut".toList then (stripLifts liftWords (behindMainWord (wordsSigns L))).1 else []).contains "finals") = false) : P.liftsFinal = false := by
  subst hL
  exact h
theorem lifts_ok : Try.prog.liftsFinal = false := lifts_of _ _ head_list (by kernel_rfl)
theorem own : ownKnob Try.prog.godebug = none := by kernel_rfl
theorem laidOut : laidOutB Try.prog = true := by kernel_rfl
theorem mapsRow : mapsRowed Try.prog = true := by kernel_rfl
end Go.Proofs.Ytdlcbfoghpoliaa
