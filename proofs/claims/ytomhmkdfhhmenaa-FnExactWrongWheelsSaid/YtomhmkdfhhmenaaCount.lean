/- CountWith: the program's and the model's answers. -/
import Derived.Test.YtomhmkdfhhmenaaSizes
namespace Go.Proofs.Ytomhmkdfhhmenaa
open Go.RowKit

def hdB (zs : List Int) (k x : Int) : Prop := (0 ≤ k ∧ k < zs.length) ∧ 0 ≤ x ∧ x < zs[k.toNat]?.getD 0
/-- how many values less than e have a digit x on a wheel with the place p and the base z -/
def belowF (p z x e : Int) : Int := e / (p * z) * p + min (max (e % (p * z) - x * p) 0) p
theorem belowF_bd (p z x e : Int) (hp : 1 ≤ p) (hz : 2 ≤ z) (he : 0 ≤ e) : 0 ≤ belowF p z x e ∧ belowF p z x e ≤ e + p := by
  unfold belowF
  have hc : 1 * 1 ≤ p * z := Int.mul_le_mul hp (by omega) (by omega) (by omega)
  have h0 := Int.ediv_nonneg he (show 0 ≤ p * z by omega)
  have h1 : 0 ≤ e / (p * z) * p := Int.mul_nonneg h0 (by omega)
  have h2 : e / (p * z) * p ≤ e / (p * z) * (p * z) := Int.mul_le_mul_of_nonneg_left (by have : p * 1 ≤ p * z := Int.mul_le_mul_of_nonneg_left (by omega) (by omega); omega) h0
  have h3 := Int.ediv_mul_le e (show p * z ≠ 0 by omega)
  omega

end Go.Proofs.Ytomhmkdfhhmenaa
