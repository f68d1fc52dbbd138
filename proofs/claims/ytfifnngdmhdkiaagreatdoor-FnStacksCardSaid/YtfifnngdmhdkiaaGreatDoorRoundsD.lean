/- A region in a round that draws its order and holds calls behind which the cells of S stay. -/
import Derived.Test.YtfifnngdmhdkiaaGreatDoorRounds
namespace Go.Proofs.YtfifnngdmhdkiaaGreatDoor
open Go
section
variable {F : Fence} {n : Nat} {P : Program} {ops : Array Oper} {Q : Exit → Act → World → Prop} {md : Region.Mode} {S : World → Prop}
theorem anyS_call {i : Nat} {o : Oper} {fuel : Nat} {listed : Array Bool} {a : Act} {w : World} (hr : Region.ready md ops listed = [i]) (ho : ops[i]? = some o) (hw : Region.wanted o (yielded ops a.tmps) = true)
    (h : ∀ K : Act → World → Prop, (∀ a w, S w → anyS F n P md ops Q S fuel (listed.setIfInBounds i true) a w → K a w) → Oper.wpIn F n P o a w K Q) : anyS F n P md ops Q S (fuel + 1) listed a w :=
  ⟨fun h0 => (by rw [hr] at h0; cases h0), fun j hj => by
    rw [hr] at hj
    obtain rfl : j = i := by simpa using hj
    unfold wpOpIn
    simp only [ho, hw, if_true]
    exact h _ (fun a w hS hk => ⟨hS, hk⟩)⟩
/-- two calls may come up, either one first -/
theorem anyS_two {i k : Nat} {oi ok : Oper} {fuel : Nat} {listed : Array Bool} {a : Act} {w : World} (hr : Region.ready md ops listed = [i, k]) (hi : ops[i]? = some oi) (hk : ops[k]? = some ok)
    (hwi : Region.wanted oi (yielded ops a.tmps) = true) (hwk : Region.wanted ok (yielded ops a.tmps) = true)
    (h1 : ∀ K : Act → World → Prop, (∀ a w, S w → anyS F n P md ops Q S fuel (listed.setIfInBounds i true) a w → K a w) → Oper.wpIn F n P oi a w K Q)
    (h2 : ∀ K : Act → World → Prop, (∀ a w, S w → anyS F n P md ops Q S fuel (listed.setIfInBounds k true) a w → K a w) → Oper.wpIn F n P ok a w K Q) : anyS F n P md ops Q S (fuel + 1) listed a w :=
  ⟨fun h0 => (by rw [hr] at h0; cases h0), fun j hj => by
    rw [hr] at hj
    unfold wpOpIn
    rcases (by simpa using hj : j = i ∨ j = k) with rfl | rfl
    · simp only [hi, hwi, if_true]
      exact h1 _ (fun a w hS hk => ⟨hS, hk⟩)
    · simp only [hk, hwk, if_true]
      exact h2 _ (fun a w hS hk => ⟨hS, hk⟩)⟩
end
end Go.Proofs.YtfifnngdmhdkiaaGreatDoor
