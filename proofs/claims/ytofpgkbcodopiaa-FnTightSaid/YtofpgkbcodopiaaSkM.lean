/- A wheel that seems to be stuck: plain arithmetic. -/
import Derived.Test.YtofpgkbcodopiaaCsM
namespace Go.Proofs.Ytofpgkbcodopiaa
set_option linter.unusedVariables false
/-- values with the same quotient by a wheel's cycle have the same digits above it, and the other way round -/
theorem ediv_up {v p z : Int} (hp : 1 ≤ p) (hz : 1 ≤ z) : v / (p * z) = v / p / z := (Int.ediv_ediv_of_nonneg (show 0 ≤ p by omega)).symm
theorem above_step {v u p z : Int} (hp : 1 ≤ p) (hz : 1 ≤ z) : v / p = u / p ↔ v / (p * z) = u / (p * z) ∧ v / p % z = u / p % z := by
  rw [ediv_up hp hz, ediv_up hp hz]
  constructor
  · intro h; rw [h]; exact ⟨rfl, rfl⟩
  · rintro ⟨h1, h2⟩
    have a := Int.mul_ediv_add_emod (v / p) z
    have b := Int.mul_ediv_add_emod (u / p) z
    rw [h1, h2] at a
    omega
def dgv (zs : List Int) (k : Nat) (v : Int) : Int := v / szL (zs.take k) % zs[k]?.getD 0
theorem above_iff {zs : List Int} (hz : inB zs zs.length) {v u : Int} (hv : 0 ≤ v ∧ v < szL zs) (hu : 0 ≤ u ∧ u < szL zs) : ∀ d k, k + d = zs.length → (v / szL (zs.take k) = u / szL (zs.take k) ↔ ∀ j, k ≤ j → j < zs.length → dgv zs j v = dgv zs j u)
  | 0, k, h => by
    have e : zs.take k = zs := by rw [show k = zs.length by omega]; exact List.take_length
    rw [e, Int.ediv_eq_zero_of_lt hv.1 hv.2, Int.ediv_eq_zero_of_lt hu.1 hu.2]
    exact ⟨fun _ j h1 h2 => by omega, fun _ => rfl⟩
  | d + 1, k, h => by
    have hk : k < zs.length := by omega
    have hb := szL_bd zs k (by omega) (fun j hj => hz j (by omega))
    have hzk := hz k hk
    rw [above_step hb.1 (show 1 ≤ zs[k]?.getD 0 by omega), ← szL_take zs k hk, above_iff hz hv hu d (k + 1) (by omega)]
    constructor
    · rintro ⟨h1, h2⟩ j h3 h4
      by_cases c : j = k
      · subst c; exact h2
      · exact h1 j (by omega) h4
    · intro h1
      exact ⟨fun j h3 h4 => h1 j (by omega) h4, h1 k (Nat.le_refl _) hk⟩
/-- back from a place, while something holds of the place ahead -/
def backF (P : Nat → Bool) : Nat → Nat
  | 0 => 0
  | k + 1 => if P k then backF P k else k + 1
theorem backF_le (P : Nat → Bool) : ∀ k, backF P k ≤ k
  | 0 => Nat.le_refl _
  | k + 1 => by
    rw [backF]
    cases h : P k with
    | true => have := backF_le P k; simp; omega
    | false => simp
theorem backF_yes {P : Nat → Bool} {k : Nat} (hk : 0 < k) (h : P (k - 1) = true) : backF P k = backF P (k - 1) := by
  obtain ⟨m, rfl⟩ : ∃ m, k = m + 1 := ⟨k - 1, by omega⟩
  simp only [Nat.add_sub_cancel] at h ⊢
  rw [backF, h]; rfl
theorem backF_no {P : Nat → Bool} {k : Nat} (hk : 0 < k) (h : P (k - 1) = false) : backF P k = k := by
  obtain ⟨m, rfl⟩ : ∃ m, k = m + 1 := ⟨k - 1, by omega⟩
  simp only [Nat.add_sub_cancel] at h
  rw [backF, h]; rfl
theorem backF_zero (P : Nat → Bool) : backF P 0 = 0 := rfl
/-- the digit of a reading at a wheel -/
def dgJ (zs : List Int) (js : List (Int × Int)) (w i : Nat) : Int := dgv zs w (rv js i)
def sameP (zs : List Int) (js : List (Int × Int)) (w n : Nat) (i : Nat) : Bool := dgJ zs js w i == dgJ zs js w (n - 1)
def sinceN (zs : List Int) (js : List (Int × Int)) (w : Nat) : Nat := backF (sameP zs js w js.length) (js.length - 1)
/-- a wheel above moves between a reading and a later one -/
def movP (zs : List Int) (js : List (Int × Int)) (w a i : Nat) : Bool := decide (a < i) && (rv js a / szL (zs.take (w + 1)) != rv js i / szL (zs.take (w + 1)))
def anyB (P : Nat → Bool) (n : Nat) : Bool := (List.range n).any P
theorem anyB_yes {P : Nat → Bool} {n j : Nat} (hj : j < n) (h : P j = true) : anyB P n = true := by
  unfold anyB; rw [List.any_eq_true]; exact ⟨j, List.mem_range.2 hj, h⟩
theorem anyB_no {P : Nat → Bool} {n : Nat} (h : ∀ j, j < n → P j = false) : anyB P n = false := by
  unfold anyB; rw [List.any_eq_false]; intro x hx; simp [h x (List.mem_range.1 hx)]
/-- the answer, with a code -/
def stuckR (zs : List Int) (js : List (Int × Int)) (x : Int) : Int × Int :=
  if okG zs js then (if 0 ≤ x ∧ x < zs.length then (if anyB (movP zs js x.toNat (sinceN zs js x.toNat)) js.length then ((sinceN zs js x.toNat : Int), 0) else (0, 6)) else (0, 2)) else (0, 1)
theorem stuckR_log {zs : List Int} {js : List (Int × Int)} {x : Int} (h : okG zs js = false) : stuckR zs js x = (0, 1) := by simp [stuckR, h]
theorem stuckR_out {zs : List Int} {js : List (Int × Int)} {x : Int} (h : okG zs js = true) (k : ¬ (0 ≤ x ∧ x < zs.length)) : stuckR zs js x = (0, 2) := by
  unfold stuckR; rw [if_pos h, if_neg k]
theorem stuckR_yes {zs : List Int} {js : List (Int × Int)} {w : Nat} (h : okG zs js = true) (k : w < zs.length) (m : anyB (movP zs js w (sinceN zs js w)) js.length = true) : stuckR zs js (w : Int) = ((sinceN zs js w : Int), 0) := by
  unfold stuckR; rw [if_pos h, if_pos ⟨by omega, by omega⟩]; simp only [Int.toNat_natCast]; rw [if_pos m]
theorem stuckR_no {zs : List Int} {js : List (Int × Int)} {w : Nat} (h : okG zs js = true) (k : w < zs.length) (m : anyB (movP zs js w (sinceN zs js w)) js.length = false) : stuckR zs js (w : Int) = (0, 6) := by
  unfold stuckR; rw [if_pos h, if_pos ⟨by omega, by omega⟩]; simp only [Int.toNat_natCast]; rw [m]; rfl
end Go.Proofs.Ytofpgkbcodopiaa
