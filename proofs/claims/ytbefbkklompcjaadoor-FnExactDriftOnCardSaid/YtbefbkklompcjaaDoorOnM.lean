/- How much has been counted up to a day; plain. -/
import Derived.Test.YtbefbkklompcjaaDoorTotM
namespace Go.Proofs.YtbefbkklompcjaaDoor
open Go.RowKit
/-- what the total i tells of a day -/
def onV (js : List (Int × Int)) (day : Int) (i : Nat) : Int :=
  if rd js i = day then rv js i else rv js i + (rv js (i + 1) - rv js i) * (day - rd js i) / (rd js (i + 1) - rd js i)
def onGo (js : List (Int × Int)) (day : Int) : Nat → Int
  | 0 => onV js day 0
  | i + 1 => if rd js (i + 1) ≤ day then onV js day (i + 1) else onGo js day i
def onI (js : List (Int × Int)) (day : Int) : Int := onGo js day (js.length - 1)
/-- there is a count on this day -/
def hasOn (js : List (Int × Int)) (day : Int) : Prop := 1 ≤ js.length ∧ rd js 0 ≤ day ∧ day ≤ rd js (js.length - 1)
/-- the total that counts for a day -/
def atI (js : List (Int × Int)) (day : Int) (i : Nat) : Prop := i < js.length ∧ rd js i ≤ day ∧ (i + 1 < js.length → day < rd js (i + 1))
theorem mono_at {js : List (Int × Int)} (h : uwTo js js.length) : ∀ (k i : Nat), i + k < js.length → rd js i + k ≤ rd js (i + k) ∧ rv js i ≤ rv js (i + k)
  | 0, i, _ => by simp
  | k + 1, i, hk => by
    have a := mono_at h k i (by omega)
    have b := h (i + k) (by omega)
    rw [show i + (k + 1) = i + k + 1 by omega]
    omega
theorem mono_le {js : List (Int × Int)} (h : uwTo js js.length) {i j : Nat} (hij : i ≤ j) (hj : j < js.length) : rd js i ≤ rd js j ∧ rv js i ≤ rv js j := by
  have := mono_at h (j - i) i (by omega)
  rw [show i + (j - i) = j by omega] at this
  omega
theorem mono_lt {js : List (Int × Int)} (h : uwTo js js.length) {i j : Nat} (hij : i < j) (hj : j < js.length) : rd js i < rd js j := by
  have := mono_at h (j - i) i (by omega)
  rw [show i + (j - i) = j by omega] at this
  omega
theorem onGo_at {js : List (Int × Int)} (h : uwTo js js.length) {day : Int} {i : Nat} (hi : atI js day i) : ∀ (m : Nat), i ≤ m → m < js.length → onGo js day m = onV js day i
  | 0, h1, h2 => by
    obtain rfl : i = 0 := by omega
    rfl
  | m + 1, h1, h2 => by
    by_cases e : i = m + 1
    · subst e
      rw [onGo, if_pos hi.2.1]
    · have a := hi.2.2 (by omega)
      have b := mono_le h (show i + 1 ≤ m + 1 by omega) h2
      rw [onGo, if_neg (by omega)]
      exact onGo_at h hi m (by omega) (by omega)
theorem onI_at {js : List (Int × Int)} (h : uwTo js js.length) {day : Int} {i : Nat} (hi : atI js day i) : onI js day = onV js day i := by
  have := hi.1
  exact onGo_at h hi (js.length - 1) (by omega) (by omega)
theorem atI_ex {js : List (Int × Int)} {day : Int} (h : hasOn js day) : ∃ i, atI js day i := by
  obtain ⟨h1, h2, h3⟩ := h
  have key : ∀ m, m < js.length → (∃ i, atI js day i) ∨ (∀ j, j ≤ m → rd js j ≤ day) := by
    intro m
    induction m with
    | zero =>
      intro _; right; intro j hj
      have e : j = 0 := by omega
      rw [e]; exact h2
    | succ m ih =>
      intro hm
      rcases ih (by omega) with e | e
      · exact .inl e
      · by_cases hd : rd js (m + 1) ≤ day
        · right
          intro j hj
          by_cases ej : j = m + 1
          · subst ej; exact hd
          · exact e j (by omega)
        · left
          exact ⟨m, by omega, e m (Nat.le_refl _), fun _ => by omega⟩
  rcases key (js.length - 1) (by omega) with e | e
  · exact e
  · exact ⟨js.length - 1, by omega, e _ (Nat.le_refl _), fun hh => by omega⟩
/-- all that is asked of the total that counts -/
theorem on_facts {js : List (Int × Int)} (hv : okTs js = true) {day : Int} {i : Nat} (hi : atI js day i) (hne : rd js i ≠ day) (hn : hasOn js day) :
    i + 1 < js.length ∧ rd js i < day ∧ day < rd js (i + 1) := by
  obtain ⟨h1, h2, h3⟩ := hi
  have a : i + 1 < js.length := by
    by_cases e : i + 1 < js.length
    · exact e
    · obtain ⟨_, _, q⟩ := hn
      rw [show js.length - 1 = i by omega] at q
      omega
  exact ⟨a, by omega, h3 a⟩
theorem frac_bd {d k n : Int} (hd : 0 ≤ d) (hk : 0 ≤ k) (hkn : k ≤ n) (hn : 1 ≤ n) : 0 ≤ d * k ∧ d * k ≤ d * n ∧ 0 ≤ d * k / n ∧ d * k / n ≤ d := by
  have a := Int.mul_nonneg hd hk
  have b := Int.mul_le_mul_of_nonneg_left hkn hd
  refine ⟨a, b, Int.ediv_nonneg a (by omega), ?_⟩
  have c := Int.ediv_le_ediv (show 0 < n by omega) b
  rwa [Int.mul_ediv_cancel d (show n ≠ 0 by omega)] at c
theorem on_bd {js : List (Int × Int)} (hv : okTs js = true) {day : Int} (hn : hasOn js day) : 0 ≤ onI js day ∧ onI js day ≤ 1000000000000 := by
  obtain ⟨_, ht, hu⟩ := okTs_out hv
  obtain ⟨i, hi⟩ := atI_ex hn
  rw [onI_at hu hi]
  have a := okTd_out (ht i hi.1)
  unfold onV
  by_cases e : rd js i = day
  · rw [if_pos e]; omega
  · rw [if_neg e]
    obtain ⟨f1, f2, f3⟩ := on_facts hv hi e hn
    have b := okTd_out (ht (i + 1) f1)
    have c := hu i f1
    have d := frac_bd (d := rv js (i + 1) - rv js i) (k := day - rd js i) (n := rd js (i + 1) - rd js i) (by omega) (by omega) (by omega) (by omega)
    omega
instance (js : List (Int × Int)) (day : Int) : Decidable (hasOn js day) := by unfold hasOn; infer_instance
def onR (js : List (Int × Int)) (day : Int) : Int × Bool := if hasOn js day then (onI js day, true) else (0, false)
theorem onR_yes {js : List (Int × Int)} {day : Int} (h : hasOn js day) : onR js day = (onI js day, true) := by rw [onR, if_pos h]
theorem onR_no {js : List (Int × Int)} {day : Int} (h : ¬ hasOn js day) : onR js day = (0, false) := by rw [onR, if_neg h]
end Go.Proofs.YtbefbkklompcjaaDoor
