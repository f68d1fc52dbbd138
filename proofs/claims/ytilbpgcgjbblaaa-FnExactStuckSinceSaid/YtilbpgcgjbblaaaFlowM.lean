/- Possible counts: plain arithmetic of what leads from one value to another one within a flow. -/
import Derived.Test.YtilbpgcgjbblaaaMath
namespace Go.Proofs.Ytilbpgcgjbblaaa

/-- a reading of a stack with so many values -/
def okRd (z d v : Int) : Bool := decide (0 ≤ d ∧ d ≤ 100000 ∧ 0 ≤ v ∧ v < z)
def okF (lo hi : Int) : Bool := decide (0 ≤ lo ∧ lo ≤ hi ∧ hi ≤ 1000000)
/-- the least count, of low and more, and the greatest one, of high and less -/
def lstI (z way low : Int) : Int := low + (way - low) % z
def gstI (z way high : Int) : Int := high - (high - way) % z
/-- a count is possible -/
def posI (z way low high : Int) : Bool := decide (lstI z way low ≤ gstI z way high)
theorem gst_ge (z way low high : Int) (hz : 1 ≤ z) (h : lstI z way low ≤ high) : lstI z way low ≤ gstI z way high := by
  unfold lstI gstI at *
  have e : (high - way) % z = (high - (low + (way - low) % z)) % z := by
    apply (Int.emod_emod_of_dvd _ (Int.dvd_refl z)).symm.trans
    rw [Int.emod_emod_of_dvd _ (Int.dvd_refl z)]
    apply Int.emod_eq_emod_iff_emod_sub_eq_zero.2
    have : high - way - (high - (low + (way - low) % z)) = (way - low) % z - (way - low) := by omega
    rw [this]
    have := Int.emod_add_mul_ediv (way - low) z
    rw [show (way - low) % z - (way - low) = z * (-((way - low) / z)) by rw [Int.mul_neg]; omega]
    exact Int.mul_emod_right _ _
  rw [e]
  have : (high - (low + (way - low) % z)) % z ≤ high - (low + (way - low) % z) := by
    have h0 : 0 ≤ high - (low + (way - low) % z) := by omega
    have := Int.emod_add_mul_ediv (high - (low + (way - low) % z)) z
    have q := Int.ediv_nonneg h0 (show 0 ≤ z by omega)
    have := Int.mul_nonneg (show 0 ≤ z by omega) q
    omega
  omega
theorem gst_le (z way high : Int) (hz : 1 ≤ z) : gstI z way high ≤ high := by
  unfold gstI
  have := Int.emod_nonneg (high - way) (show z ≠ 0 by omega)
  omega
theorem pos_iff (z way low high : Int) (hz : 1 ≤ z) : posI z way low high = decide (lstI z way low ≤ high) := by
  unfold posI
  by_cases h : lstI z way low ≤ high
  · rw [decide_eq_true h, decide_eq_true (gst_ge z way low high hz h)]
  · have := gst_le z way high hz
    rw [decide_eq_false h, decide_eq_false (by omega)]
theorem mod_gap (z way low : Int) : (way % z - low) % z = (way - low) % z := by
  rw [Int.emod_sub_emod]
theorem mod_gap' (z way high : Int) : (high - way % z) % z = (high - way) % z := by
  rw [Int.sub_emod_emod]
/-- by how much it has been set back at least -/
def backI (z way low high : Int) : Int := if posI z way low high then 0 else (low - way) % z
theorem back_eq (z way low high : Int) (hz : 1 ≤ z) : (if z ≤ (low - way) % z + (high - low) then 0 else (low - way) % z) = backI z way low high := by
  unfold backI
  rw [pos_iff z way low high hz]
  unfold lstI
  have h1 := Int.emod_nonneg (way - low) (show z ≠ 0 by omega)
  have h2 := Int.emod_lt_of_pos (way - low) (show 0 < z by omega)
  have h3 := Int.emod_nonneg (low - way) (show z ≠ 0 by omega)
  have h4 := Int.emod_lt_of_pos (low - way) (show 0 < z by omega)
  have h5 : ((low - way) % z + (way - low) % z) % z = 0 := by
    rw [← Int.add_emod, show low - way + (way - low) = 0 by omega]; exact Int.zero_emod _
  have h6 : (low - way) % z + (way - low) % z = 0 ∨ (low - way) % z + (way - low) % z = z := by
    have := Int.emod_add_mul_ediv ((low - way) % z + (way - low) % z) z
    rw [h5] at this
    generalize ((low - way) % z + (way - low) % z) / z = q at this
    have q0 : 0 ≤ q := by
      by_cases hq : 0 ≤ q
      · exact hq
      · have := Int.mul_le_mul_of_nonneg_left (show q ≤ -1 by omega) (show 0 ≤ z by omega)
        omega
    have q1 : q ≤ 1 := by
      by_cases hq : q ≤ 1
      · exact hq
      · have := Int.mul_le_mul_of_nonneg_left (show 2 ≤ q by omega) (show 0 ≤ z by omega)
        omega
    have : q = 0 ∨ q = 1 := by omega
    rcases this with rfl | rfl <;> omega
  by_cases hp : low + (way - low) % z ≤ high
  · rw [decide_eq_true hp]
    simp only [if_true]
    split <;> omega
  · rw [decide_eq_false hp, if_neg (by omega)]
    simp
end Go.Proofs.Ytilbpgcgjbblaaa
