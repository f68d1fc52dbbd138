/- Division and what is left of it, both rounded down. -/
import Derived.Test.YtocaogkbnlicjaaDoorBase
namespace Go.Proofs.YtocaogkbnlicjaaDoor
open Go.RowKit
theorem ediv_neg_of (m c : Int) (hc : 1 ≤ c) : (-m) / c = if m % c = 0 then -(m / c) else -(m / c) - 1 := by
  have hm := Int.emod_add_mul_ediv m c
  have h0 := Int.emod_nonneg m (show c ≠ 0 by omega)
  have h1 := Int.emod_lt_of_pos m (show 0 < c by omega)
  split
  · next h =>
    exact ((Int.ediv_emod_unique (r := 0) (show 0 < c by omega)).2 ⟨by rw [Int.mul_neg]; omega, Int.le_refl _, by omega⟩).1
  · next h =>
    exact ((Int.ediv_emod_unique (r := c - m % c) (show 0 < c by omega)).2 ⟨by rw [Int.mul_sub, Int.mul_neg]; omega, by omega, by omega⟩).1

end Go.Proofs.YtocaogkbnlicjaaDoor
