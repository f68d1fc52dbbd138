/- Meters: what flows that are found show: mathematics. -/
import Derived.Test.YtoenpfjnjpgbfaaMetG
import Derived.Test.YtoenpfjnjpgbfaaMetS
namespace Go.Proofs.Ytoenpfjnjpgbfaa
open Go.RowKit
set_option linter.unusedVariables false
/-- what a flow counts -/
theorem flow_cnt {x y f : Int} (hx : 1 ≤ x) (hy : 1 ≤ y) (hf : 0 ≤ f) : 0 ≤ f * x / y ∧ f * x / y * y ≤ f * x ∧ f * x < (f * x / y + 1) * y ∧ f * x / y ≤ f * x := by
  have h0 : 0 ≤ f * x := Int.mul_nonneg hf (by omega)
  have h1 := Int.ediv_mul_le (f * x) (show y ≠ 0 by omega)
  have h2 := Int.lt_ediv_add_one_mul_self (f * x) (show 0 < y by omega)
  have h3 : 0 ≤ f * x / y := Int.ediv_nonneg h0 (by omega)
  exact ⟨h3, h1, h2, Int.ediv_le_self _ h0⟩
theorem cnt_is {x y g c : Int} (hy : 1 ≤ y) (h1 : c * y ≤ g * x) (h2 : g * x < (c + 1) * y) : g * x / y = c := by
  have a : c ≤ g * x / y := (Int.le_ediv_iff_mul_le (by omega)).2 h1
  have b : g * x / y < c + 1 := (Int.ediv_lt_iff_lt_mul (by omega)).2 h2
  omega
theorem low_facts {x y c : Int} (hx : 1 ≤ x) (hy : 1 ≤ y) (hc : 0 ≤ c) : 0 ≤ flwL x y c ∧ c * y ≤ flwL x y c * x ∧ ∀ g, g < flwL x y c → g * x < c * y := by
  have h0 : 0 ≤ c * y := Int.mul_nonneg hc (by omega)
  unfold flwL
  refine ⟨Int.ediv_nonneg (by omega) (by omega), ?_, fun g hg => ?_⟩
  · have := Int.lt_ediv_add_one_mul_self (c * y + x - 1) (show 0 < x by omega)
    rw [Int.add_mul, Int.one_mul] at this
    omega
  · have h := (Int.lt_iff_add_one_le.1 hg)
    have := (Int.le_ediv_iff_mul_le (show 0 < x by omega)).1 h
    rw [Int.add_mul, Int.one_mul] at this
    omega
theorem high_facts {x y c : Int} (hx : 1 ≤ x) (hy : 1 ≤ y) (hc : 0 ≤ c) : flwH x y c * x < (c + 1) * y ∧ flwH x y c ≤ 1000000000000 ∧ ∀ g, flwH x y c < g → g ≤ 1000000000000 → (c + 1) * y ≤ g * x := by
  have h1 : ((c + 1) * y - 1) / x * x ≤ (c + 1) * y - 1 := Int.ediv_mul_le _ (by omega)
  unfold flwH
  refine ⟨?_, Int.min_le_right _ _, fun g hg hm => ?_⟩
  · have := Int.mul_le_mul_of_nonneg_right (Int.min_le_left (((c + 1) * y - 1) / x) 1000000000000) (show 0 ≤ x by omega)
    omega
  · have hl : ((c + 1) * y - 1) / x < g := by omega
    have := (Int.ediv_lt_iff_lt_mul (show 0 < x by omega)).1 hl
    omega
/-- the flow itself is among those that are found -/
theorem flow_among {x y f : Int} (hx : 1 ≤ x) (hy : 1 ≤ y) (hf : 0 ≤ f ∧ f ≤ 1000000000000) : flwL x y (f * x / y) ≤ f ∧ f ≤ flwH x y (f * x / y) := by
  obtain ⟨c0, c1, c2, _⟩ := flow_cnt hx hy hf.1
  obtain ⟨_, _, l⟩ := low_facts hx hy c0
  obtain ⟨_, _, h⟩ := high_facts hx hy c0
  constructor
  · refine Int.not_lt.1 (fun k => ?_)
    have := l f k
    omega
  · refine Int.not_lt.1 (fun k => ?_)
    have := h f k hf.2
    omega
theorem edge_low {x y f : Int} (hx : 1 ≤ x) (hy : 1 ≤ y) (hf : 0 ≤ f ∧ f ≤ 1000000000000) : flwL x y (f * x / y) * x / y = f * x / y := by
  obtain ⟨c0, c1, c2, _⟩ := flow_cnt hx hy hf.1
  obtain ⟨_, l, _⟩ := low_facts hx hy c0
  have h := Int.mul_le_mul_of_nonneg_right (flow_among hx hy hf).1 (show 0 ≤ x by omega)
  exact cnt_is hy l (by omega)
theorem edge_high {x y f : Int} (hx : 1 ≤ x) (hy : 1 ≤ y) (hf : 0 ≤ f ∧ f ≤ 1000000000000) : flwH x y (f * x / y) * x / y = f * x / y := by
  obtain ⟨c0, c1, c2, _⟩ := flow_cnt hx hy hf.1
  obtain ⟨l, _, _⟩ := high_facts hx hy c0
  have h := Int.mul_le_mul_of_nonneg_right (flow_among hx hy hf).2 (show 0 ≤ x by omega)
  exact cnt_is hy (by omega) l
theorem out_low {x y f : Int} (hx : 1 ≤ x) (hy : 1 ≤ y) (hf : 0 ≤ f ∧ f ≤ 1000000000000) : (flwL x y (f * x / y) - 1) * x / y ≠ f * x / y := fun e => by
  obtain ⟨c0, c1, c2, _⟩ := flow_cnt hx hy hf.1
  obtain ⟨_, _, l⟩ := low_facts hx hy c0
  have a := l (flwL x y (f * x / y) - 1) (by omega)
  have b := Int.ediv_mul_le ((flwL x y (f * x / y) - 1) * x) (show y ≠ 0 by omega)
  have d := (Int.ediv_lt_iff_lt_mul (show 0 < y by omega)).2 a
  omega
theorem out_high {x y f : Int} (hx : 1 ≤ x) (hy : 1 ≤ y) (hf : 0 ≤ f ∧ f ≤ 1000000000000) (h : flwH x y (f * x / y) + 1 ≤ 1000000000000) : (flwH x y (f * x / y) + 1) * x / y ≠ f * x / y := fun e => by
  obtain ⟨c0, c1, c2, _⟩ := flow_cnt hx hy hf.1
  obtain ⟨_, _, l⟩ := high_facts hx hy c0
  have a := l (flwH x y (f * x / y) + 1) (by omega) h
  have d := (Int.le_ediv_iff_mul_le (show 0 < y by omega)).2 a
  omega
/-- counts that show the same in the same round are one count -/
theorem shown_one {z a b : Int} (h1 : a % z = b % z) (h2 : a / z = b / z) : a = b := by
  have p := Int.mul_ediv_add_emod a z
  have q := Int.mul_ediv_add_emod b z
  rw [h1, h2] at p
  omega
/-- what a meter shows behind a flow, and in which round -/
def due (z s x y f : Int) : Int := (s + f * x / y) % z
def whl (z s x y f : Int) : Int := (s + f * x / y) / z
theorem due_bd {z s x y f : Int} (hz : 1 ≤ z) (hs : 0 ≤ s) (hx : 1 ≤ x) (hy : 1 ≤ y) (hf : 0 ≤ f) : 0 ≤ due z s x y f ∧ due z s x y f ≤ z - 1 ∧ 0 ≤ whl z s x y f ∧ whl z s x y f * z + due z s x y f = s + f * x / y := by
  obtain ⟨c0, _, _, _⟩ := flow_cnt hx hy hf
  have a := Int.emod_nonneg (s + f * x / y) (show z ≠ 0 by omega)
  have b := Int.emod_lt_of_pos (s + f * x / y) (show 0 < z by omega)
  have c := Int.mul_ediv_add_emod (s + f * x / y) z
  have d : 0 ≤ (s + f * x / y) / z := Int.ediv_nonneg (by omega) (by omega)
  unfold due whl
  refine ⟨a, by omega, d, ?_⟩
  rw [Int.mul_comm]
  exact c
/-- the flows that are found for what is shown -/
theorem flw_found {zs : List Int} {x y s f : Int} (ho : okMe zs x y s = true) (hf : 0 ≤ f ∧ f ≤ 1000000000) : flwA zs x y s (whl (szL zs) s x y f) (due (szL zs) s x y f) = (flwL x y (f * x / y), flwH x y (f * x / y), 0) := by
  obtain ⟨h1, hx, hx2, hy, hy2, hs, hs2⟩ := okMe_out ho
  obtain ⟨c0, c1, c2, c3⟩ := flow_cnt hx hy hf.1
  obtain ⟨d0, d1, d2, d3⟩ := due_bd (z := szL zs) (s := s) (x := x) (y := y) (f := f) (by omega) hs hx hy hf.1
  have hc : flwC zs s (whl (szL zs) s x y f) (due (szL zs) s x y f) = f * x / y := by unfold flwC; omega
  obtain ⟨_, _, _, hzz⟩ : True ∧ True ∧ True ∧ True := ⟨trivial, trivial, trivial, trivial⟩
  have hm : f * x / y ≤ flwM x y := by
    unfold flwM
    exact Int.ediv_le_ediv (by omega) (Int.mul_le_mul_of_nonneg_right (by omega) (by omega))
  have hw : whl (szL zs) s x y f ≤ (s + flwM x y) / szL zs := Int.ediv_le_ediv (by omega) (by omega)
  have hwb : whl (szL zs) s x y f ≤ 1000000000000 := by
    have e1 : whl (szL zs) s x y f ≤ s / szL zs + f * x / y := by
      have := Int.ediv_le_ediv (show 0 < szL zs by omega) (show s + f * x / y ≤ s + szL zs * (f * x / y) from by
        have := Int.mul_le_mul_of_nonneg_right (show (1 : Int) ≤ szL zs by omega) c0
        rw [Int.one_mul] at this
        omega)
      rw [Int.add_mul_ediv_left _ _ (show szL zs ≠ 0 by omega)] at this
      exact this
    have e2 : s / szL zs = 0 := Int.ediv_eq_zero_of_lt hs hs2
    have e3 : f * x ≤ 1000000000 * 1000 := Int.mul_le_mul hf.2 hx2 (by omega) (by omega)
    omega
  have ham := flow_among hx hy (show 0 ≤ f ∧ f ≤ 1000000000000 by omega)
  have := flwA_yes (zs := zs) (x := x) (y := y) (s := s) (r := whl (szL zs) s x y f) (v := due (szL zs) s x y f) ho ⟨d2, hwb⟩ ⟨d0, d1⟩ (by omega) (by rw [hc]; exact ⟨c0, hm⟩) (by rw [hc]; omega)
  rw [this, hc]
end Go.Proofs.Ytoenpfjnjpgbfaa
