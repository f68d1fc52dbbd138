/- Lists read line by line by a model and by a program that makes the text again: both say the same. -/
import Derived.Test.YtoenefhobjpfdaaGreatDoorLnJ
namespace Go.Proofs.YtoenefhobjpfdaaGreatDoor
open Go.RowKit
set_option linter.unusedVariables false
set_option linter.unusedSimpArgs false
/-- what a text is read as: by lines with W, and the list valid -/
def rdR {α : Type} (W : List UInt8 → Option α) (ok : List α → Bool) (l : List UInt8) : List α × Int := match linesJ W l with | some xs => if ok xs then (xs, 0) else ([], 5) | none => ([], 5)
theorem rdR_none {α : Type} {W : List UInt8 → Option α} {ok : List α → Bool} {l : List UInt8} (h : linesJ W l = none) : rdR W ok l = ([], 5) := by simp [rdR, h]
theorem rdR_some {α : Type} {W : List UInt8 → Option α} {ok : List α → Bool} {l : List UInt8} {xs : List α} (h : linesJ W l = some xs) (hk : ok xs = true) : rdR W ok l = (xs, 0) := by simp [rdR, h, hk]
theorem rdR_bad {α : Type} {W : List UInt8 → Option α} {ok : List α → Bool} {l : List UInt8} {xs : List α} (h : linesJ W l = some xs) (hk : ok xs = false) : rdR W ok l = ([], 5) := by simp [rdR, h, hk]
/-- what ties a reader of lines to the text -/
structure Lined {α : Type} (W : List UInt8 → Option α) (R : ByteArray → Option α) (T : α → List UInt8) (okA : α → Prop) (ok : List α → Bool) (tx : List α → List UInt8) (k : Nat) : Prop where
  k1 : 1 ≤ k
  out : ∀ p a, W p = some a → T a = p
  back : ∀ a, okA a → W (T a) = some a
  read : ∀ a, okA a → ∀ p : ByteArray, p.data.toList = T a → R p = some a
  line : ∀ a, okA a → (10 : UInt8) ∉ T a
  all : ∀ xs, ok xs = true → (∀ a ∈ xs, okA a) ∧ xs.length < k
  nil : ok [] = true
  yes : ∀ xs, ok xs = true → tx xs = lnT (xs.map T)
  no : ∀ xs, ok xs = false → tx xs = []
theorem map_some_inj {α : Type} : ∀ {xs ys : List α}, xs.map some = ys.map some → xs = ys
  | [], [], _ => rfl
  | [], _ :: _, e => by cases e
  | _ :: _, [], e => by cases e
  | a :: r, b :: s, e => by
    simp only [List.map_cons] at e
    injection e with e1 e2
    injection e1 with e1
    rw [e1, map_some_inj e2]
section
variable {α : Type} {W : List UInt8 → Option α} {R : ByteArray → Option α} {T : α → List UInt8} {okA : α → Prop} {ok : List α → Bool} {tx : List α → List UInt8} {k : Nat} {t : ByteArray}
theorem Lined.prog (h : Lined W R T okA ok tx k) {xs : List α} (hj : linesJ W t.data.toList = some xs) (hk : ok xs = true) : (wLn k t).dropLast.map R = xs.map some := by
  have a := h.all xs hk
  have e := (linesJ_out (ok := fun _ => True) (fun p a hp => ⟨trivial, h.out p a hp⟩) hj).2
  exact wLn_read (fun b hb => h.read b (a.1 b hb)) (fun b hb => h.line b (a.1 b hb)) a.2 e.symm
theorem Lined.bad (h : Lined W R T okA ok tx k) {p : ByteArray} (hp : p ∈ (wLn k t).dropLast) (hr : R p = none) : rdR W ok t.data.toList = ([], 5) := by
  cases hj : linesJ W t.data.toList with
  | none => exact rdR_none hj
  | some xs =>
    cases hk : ok xs with
    | false => exact rdR_bad hj hk
    | true =>
      have e := h.prog hj hk
      have hm : R p ∈ (wLn k t).dropLast.map R := List.mem_map_of_mem hp
      rw [e, hr, List.mem_map] at hm
      obtain ⟨a, _, ha⟩ := hm
      cases ha
theorem Lined.not (h : Lined W R T okA ok tx k) {xs : List α} (hx : (wLn k t).dropLast.map R = xs.map some) (hn : tx xs ≠ t.data.toList) : rdR W ok t.data.toList = ([], 5) := by
  cases hj : linesJ W t.data.toList with
  | none => exact rdR_none hj
  | some ys =>
    cases hk : ok ys with
    | false => exact rdR_bad hj hk
    | true =>
      have e := h.prog hj hk
      rw [hx] at e
      have e2 := map_some_inj e
      subst e2
      exact absurd (by rw [h.yes xs hk]; exact (linesJ_out (ok := fun _ => True) (fun p a hp => ⟨trivial, h.out p a hp⟩) hj).2) hn
theorem Lined.good (h : Lined W R T okA ok tx k) {xs : List α} (hx : (wLn k t).dropLast.map R = xs.map some) (hn : tx xs = t.data.toList) : rdR W ok t.data.toList = (xs, 0) := by
  cases hk : ok xs with
  | true =>
    have a := h.all xs hk
    have := linesJ_of (W := W) (T := T) (xs := xs) (fun b hb => h.back b (a.1 b hb)) (fun b hb => h.line b (a.1 b hb))
    rw [← h.yes xs hk, hn] at this
    exact rdR_some this hk
  | false =>
    rw [h.no xs hk] at hn
    have hz : t.size = 0 := by
      have : t.data.toList.length = t.size := by rw [Array.length_toList]; rfl
      rw [← hn] at this
      simpa using this.symm
    have hw : wLn k t = [t] := by
      unfold wLn
      rw [hz]
      have := h.k1
      rw [show min k (0 + 1) - 1 = 0 by omega]
      simp [Lib.splitB]
    rw [hw] at hx
    simp at hx
    have hx2 : xs = [] := by cases xs with | nil => rfl | cons => simp at hx
    subst hx2
    rw [h.nil] at hk
    cases hk
end
end Go.Proofs.YtoenefhobjpfdaaGreatDoor
