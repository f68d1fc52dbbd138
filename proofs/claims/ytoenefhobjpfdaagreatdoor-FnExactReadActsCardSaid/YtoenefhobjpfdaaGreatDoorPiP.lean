/- strconv.ParseInt at 64 bits. -/
import Derived.Test.YtoenefhobjpfdaaGreatDoorPiM
import Derived.Test.YtoenefhobjpfdaaGreatDoorLw
import Derived.Lib.ParseIntBTie
namespace Go.Proofs.YtoenefhobjpfdaaGreatDoor
open Go.RowKit Go.Shelf
set_option linter.unusedVariables false
set_option linter.unusedSimpArgs false
theorem p64_yes (p : ByteArray) (hp : p.size ≤ 1048576) {v : Int} (hv : pi64 p.data.toList = some v) (w : World) :
    Calls Tryz.prog 22 #[.string p, .int .i64 10, .int .i64 64] w fun e w' => e = .returned (.tuple #[.int .i64 v, .nilIface]) ∧ Below w.heap.size w w' := by
  refine (Tryz.strconv_ParseInt_10_at64_ok p (by omega) v (pi64_out hv) w).mono ?_
  rintro e w' ⟨rfl, hw⟩
  refine ⟨rfl, ?_⟩
  rcases hw with rfl | ⟨t, rfl⟩
  · exact Below.refl _ _
  · exact Lib.bytesWorld_below _ _ _
theorem p64_no (p : ByteArray) (hp : p.size ≤ 1048576) (hv : pi64 p.data.toList = none) (w : World) {tS tR : TypeId} {pS pR : Value} {m : Int} (h : LV w tS pS tR pR m) :
    Calls Tryz.prog 22 #[.string p, .int .i64 10, .int .i64 64] w fun e w' => ∃ v T q, e = .returned (.tuple #[.int .i64 v, .iface T (.pointer (some q))]) ∧ Below w.heap.size w w' ∧ -9223372036854775808 ≤ v ∧ v ≤ 9223372036854775807 := by
  cases hh : Lib.parseIntB 64 p.data.toList with
  | ok u => unfold pi64 at hv; rw [hh] at hv; cases hv
  | «syntax» =>
    refine (Tryz.strconv_ParseInt_10_at64_syntax_var p (by omega) hh tS pS w h.1.1).mono ?_
    rintro e w' ⟨N, rfl, _, _, hB⟩
    exact ⟨_, _, _, rfl, hB, by omega, by omega⟩
  | range =>
    refine (Tryz.strconv_ParseInt_10_at64_range_var p (by omega) hh tR pR w h.2.1.1).mono ?_
    rintro e w' ⟨N, rfl, _, _, hB⟩
    have hb : -9223372036854775808 ≤ Lib.intSat 64 p.data.toList ∧ Lib.intSat 64 p.data.toList ≤ 9223372036854775807 := by
      unfold Lib.intSat
      split <;> exact ⟨by decide, by decide⟩
    exact ⟨_, _, _, rfl, hB, hb.1, hb.2⟩
end Go.Proofs.YtoenefhobjpfdaaGreatDoor
