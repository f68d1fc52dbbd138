/- Validity of digits: the program's and the model's answers are okV of the bases and the digits. -/
import Derived.Test.YtjeleemjckfjoaaValid
import Derived.Test.YtjeleemjckfjoaaOpen
namespace Go.Proofs.Ytjeleemjckfjoaa
open Go.RowKit
theorem oct_bd {d0 d1 d2 d3 d4 d5 d6 d7 : Int} (h : Oct d0 d1 d2 d3 d4 d5 d6 d7) (k : Nat) (hk : k < 8) :
    0 ≤ ([d0, d1, d2, d3, d4, d5, d6, d7] : List Int)[k]?.getD 0 ∧ ([d0, d1, d2, d3, d4, d5, d6, d7] : List Int)[k]?.getD 0 ≤ 255 := by
  obtain ⟨h0, h1, h2, h3, h4, h5, h6, h7⟩ := h
  match k, hk with
  | 0, _ => exact h0
  | 1, _ => exact h1
  | 2, _ => exact h2
  | 3, _ => exact h3
  | 4, _ => exact h4
  | 5, _ => exact h5
  | 6, _ => exact h6
  | 7, _ => exact h7

end Go.Proofs.Ytjeleemjckfjoaa
