/- MovingWheels: the parts beyond the digits, the program's closure. -/
import Derived.Test.YtomhmkdfhhmenaaPa
import Derived.Test.YtomhmkdfhhmenaaMwT
namespace Go.Proofs.Ytomhmkdfhhmenaa
open Go.RowKit
set_option linter.unusedVariables false
set_option linter.unusedSimpArgs false
/-- some of eight numbers are taken modulo 1000 -/
def btw (es : List Int) (k : Nat) : List Value := (List.range 8).map fun j => .int .i64 (if j < k then dg es j % 1000 else dg es j)
theorem btw_len (es : List Int) (k : Nat) : (btw es k).length = 8 := by simp [btw]
theorem btw_zero (es : List Int) : btw es 0 = [.int .i64 (dg es 0), .int .i64 (dg es 1), .int .i64 (dg es 2), .int .i64 (dg es 3), .int .i64 (dg es 4), .int .i64 (dg es 5), .int .i64 (dg es 6), .int .i64 (dg es 7)] := rfl
theorem btw_eight (es : List Int) : btw es 8 = [.int .i64 (dg es 0 % 1000), .int .i64 (dg es 1 % 1000), .int .i64 (dg es 2 % 1000), .int .i64 (dg es 3 % 1000), .int .i64 (dg es 4 % 1000), .int .i64 (dg es 5 % 1000), .int .i64 (dg es 6 % 1000), .int .i64 (dg es 7 % 1000)] := rfl
theorem btw_get (es : List Int) (k : Nat) (hk : k < 8) : (btw es k)[k]? = some (.int .i64 (dg es k)) := by simp [btw, hk]
theorem btw_set (es : List Int) (k : Nat) (hk : k < 8) : (btw es k).set k (.int .i64 (dg es k % 1000)) = btw es (k + 1) := by
  apply List.ext_getElem?
  intro i
  rw [List.getElem?_set]
  by_cases hi : i < 8
  · by_cases h : k = i
    · subst h; simp [btw, hi]
    · rw [if_neg h]
      simp only [btw, List.getElem?_map, List.getElem?_range hi, Option.map_some]
      by_cases h2 : i < k
      · rw [if_pos h2, if_pos (by omega)]
      · rw [if_neg h2, if_neg (by omega)]
  · have : k ≠ i := by omega
    rw [if_neg this, List.getElem?_eq_none (by rw [btw_len]; omega), List.getElem?_eq_none (by rw [btw_len]; omega)]
end Go.Proofs.Ytomhmkdfhhmenaa
