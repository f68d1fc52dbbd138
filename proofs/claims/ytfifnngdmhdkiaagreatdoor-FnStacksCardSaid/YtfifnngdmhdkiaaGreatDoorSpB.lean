/- spec.l01Number: a number as it is written. -/
import Derived.Test.YtfifnngdmhdkiaaGreatDoorSpA
namespace Go.Proofs.YtfifnngdmhdkiaaGreatDoor
open Go.RowKit
set_option linter.unusedVariables false
set_option linter.unusedSimpArgs false
/-- the number and whether there is one -/
def numR (l : List UInt8) : Int × Bool := if canB l then ((numV l : Int), true) else (0, false)
theorem numR_no {l : List UInt8} (h : canB l = false) : numR l = (0, false) := by simp [numR, h]
theorem numR_yes {l : List UInt8} (h : canB l = true) : numR l = ((numV l : Int), true) := by simp [numR, h]
theorem numV_lt : ∀ (l : List UInt8), l.all digB = true → numV l < 10 ^ l.length := fun l => by
  refine snocInd (P := fun l => l.all digB = true → numV l < 10 ^ l.length) (fun _ => by simp [numV]) (fun l x ih => ?_) l
  intro hd
  simp only [List.all_append, Bool.and_eq_true] at hd
  have hx : digB x = true := by simpa using hd.2
  have := ih hd.1
  have h2 := (dig_byte hx).2
  rw [numV_snoc, List.length_append, List.length_singleton, Nat.pow_succ]
  omega
theorem take_snoc {l : List UInt8} {k : Nat} {u : UInt8} (h : l[k]? = some u) : l.take (k + 1) = l.take k ++ [u] := by
  have := piece_snoc (b := 0) (Nat.zero_le k) h
  simpa [piece] using this
theorem can_bad {l : List UInt8} {k : Nat} {u : UInt8} (h : l[k]? = some u) (hu : digB u = false) : canB l = false := by
  have : l.all digB = false := by
    rw [List.all_eq_false]
    exact ⟨u, List.mem_of_getElem? h, by simp [hu]⟩
  simp [canB, this]
end Go.Proofs.YtfifnngdmhdkiaaGreatDoor
