/- FlowsFor: the program's and the model's answers. -/
import Derived.Test.YtoenpfjnjpgbfaaMetF
import Derived.Deep.DeepCutAuto
namespace Go.Proofs.Ytoenpfjnjpgbfaa
open Go.RowKit
set_option linter.unusedVariables false
theorem bel_step {W w w' : World} (h : Below W.heap.size W w) (hB : Below w.heap.size w w') : Below W.heap.size W w' := h.trans (hB.mono h.size)
theorem Row.set2 {w : World} {g : Nat} {T : TypeId} {a b : Value} (h : Row w g T [a, b]) (x y : Value) : Row ((w.setCell ⟨g, 0, none⟩ x).setCell ⟨g, 1, none⟩ y) g T [x, y] := (h.set 0 x).set 1 y
def flwM (x y : Int) : Int := 1000000000000 * x / y
def flwL (x y c : Int) : Int := (c * y + x - 1) / x
def flwH (x y c : Int) : Int := min (((c + 1) * y - 1) / x) 1000000000000
def flwC (zs : List Int) (s r v : Int) : Int := r * szL zs + v - s
/-- the flows behind which a value is shown in a round, with a code -/
def flwA (zs : List Int) (x y s r v : Int) : Int × Int × Int :=
  if askI zs x y s r ≠ 0 then (0, 0, askI zs x y s r)
  else if ¬ (0 ≤ v ∧ v ≤ szL zs - 1) then (0, 0, 2)
  else if (s + flwM x y) / szL zs < r then (0, 0, 6)
  else if ¬ (0 ≤ flwC zs s r v ∧ flwC zs s r v ≤ flwM x y) then (0, 0, 6)
  else if flwH x y (flwC zs s r v) < flwL x y (flwC zs s r v) then (0, 0, 6)
  else (flwL x y (flwC zs s r v), flwH x y (flwC zs s r v), 0)
theorem flwA_no {zs : List Int} {x y s r v : Int} (h : okMe zs x y s = false) : flwA zs x y s r v = (0, 0, 1) := by rw [flwA, askI_no h]; rfl
theorem flwA_range {zs : List Int} {x y s r v : Int} (h : okMe zs x y s = true) (k : ¬ (0 ≤ r ∧ r ≤ 1000000000000)) : flwA zs x y s r v = (0, 0, 2) := by rw [flwA, askI_range h k]; rfl
section
variable {zs : List Int} {x y s r v : Int} (h : okMe zs x y s = true) (k : 0 ≤ r ∧ r ≤ 1000000000000)
include h k
theorem flwA_value (h2 : ¬ (0 ≤ v ∧ v ≤ szL zs - 1)) : flwA zs x y s r v = (0, 0, 2) := by rw [flwA, askI_yes h k, if_neg (by decide), if_pos h2]
theorem flwA_rounds (h2 : 0 ≤ v ∧ v ≤ szL zs - 1) (h3 : (s + flwM x y) / szL zs < r) : flwA zs x y s r v = (0, 0, 6) := by rw [flwA, askI_yes h k, if_neg (by decide), if_neg (by omega), if_pos h3]
theorem flwA_count (h2 : 0 ≤ v ∧ v ≤ szL zs - 1) (h3 : ¬ (s + flwM x y) / szL zs < r) (h4 : ¬ (0 ≤ flwC zs s r v ∧ flwC zs s r v ≤ flwM x y)) : flwA zs x y s r v = (0, 0, 6) := by
  rw [flwA, askI_yes h k, if_neg (by decide), if_neg (by omega), if_neg h3, if_pos h4]
theorem flwA_none (h2 : 0 ≤ v ∧ v ≤ szL zs - 1) (h3 : ¬ (s + flwM x y) / szL zs < r) (h4 : 0 ≤ flwC zs s r v ∧ flwC zs s r v ≤ flwM x y) (h5 : flwH x y (flwC zs s r v) < flwL x y (flwC zs s r v)) : flwA zs x y s r v = (0, 0, 6) := by
  rw [flwA, askI_yes h k, if_neg (by decide), if_neg (by omega), if_neg h3, if_neg (by omega), if_pos h5]
theorem flwA_yes (h2 : 0 ≤ v ∧ v ≤ szL zs - 1) (h3 : ¬ (s + flwM x y) / szL zs < r) (h4 : 0 ≤ flwC zs s r v ∧ flwC zs s r v ≤ flwM x y) (h5 : ¬ flwH x y (flwC zs s r v) < flwL x y (flwC zs s r v)) : flwA zs x y s r v = (flwL x y (flwC zs s r v), flwH x y (flwC zs s r v), 0) := by
  rw [flwA, askI_yes h k, if_neg (by decide), if_neg (by omega), if_neg h3, if_neg (by omega), if_neg h5]
end
/-- what bounds all numbers of FlowsFor -/
theorem flw_bd {x y s z r v : Int} (hx : 1 ≤ x ∧ x ≤ 1000) (hy : 1 ≤ y ∧ y ≤ 1000) (hz : 1 ≤ z ∧ z ≤ 1000000000000) (hs : 0 ≤ s ∧ s < z) (hr : 0 ≤ r) (hv : 0 ≤ v ∧ v ≤ z - 1) (h3 : ¬ (s + flwM x y) / z < r) :
    (0 ≤ flwM x y ∧ flwM x y ≤ 1000000000000000) ∧ (0 ≤ r * z ∧ r * z ≤ s + flwM x y) ∧ (r * z + v - s) * y ≤ 2000000000000000 ∧ flwM x y * y ≤ 1000000000000 * x ∧ 1000000000000 * x < (flwM x y + 1) * y := by
  have m0 : 0 ≤ flwM x y := Int.ediv_nonneg (by omega) (by omega)
  have m1 : flwM x y ≤ 1000000000000 * x := Int.ediv_le_self _ (by omega)
  have e := Int.mul_ediv_add_emod (1000000000000 * x) y
  have f0 := Int.emod_nonneg (1000000000000 * x) (show y ≠ 0 by omega)
  have f1 := Int.emod_lt_of_pos (1000000000000 * x) (show 0 < y by omega)
  have e2 : y * (1000000000000 * x / y) = flwM x y * y := Int.mul_comm _ _
  have e3 : (flwM x y + 1) * y = flwM x y * y + y := by rw [Int.add_mul, Int.one_mul]
  have g0 : 0 ≤ r * z := Int.mul_nonneg hr (by omega)
  have g1 : r * z ≤ s + flwM x y := by
    have := (Int.le_ediv_iff_mul_le (a := r) (b := s + flwM x y) (show 0 < z by omega)).1 (by omega)
    exact this
  have b : (r * z + v - s) * y ≤ (flwM x y + z) * y := Int.mul_le_mul_of_nonneg_right (by omega) (by omega)
  have b2 : (flwM x y + z) * y = flwM x y * y + z * y := Int.add_mul _ _ _
  have b3 : z * y ≤ 1000000000000 * 1000 := Int.mul_le_mul hz.2 hy.2 (by omega) (by omega)
  refine ⟨⟨m0, by omega⟩, ⟨g0, g1⟩, by omega, by omega, by omega⟩
/-- none is shown: neither has an answer -/
theorem flow_none {x y c : Int} (hx : 1 ≤ x ∧ x ≤ 1000) (hy : 1 ≤ y ∧ y ≤ 1000) (k1 : 1000000000000 * x < (flwM x y + 1) * y) (h : ¬ (0 ≤ c ∧ c ≤ flwM x y) ∨ flwH x y c < flwL x y c) :
    min 1000000000001 (ceilI ((c + 1) * y) x) ≤ max 0 (ceilI (c * y) x) := by
  by_cases c0 : 0 ≤ c
  · by_cases c1 : c ≤ flwM x y
    · have h2 : flwH x y c < flwL x y c := by
        rcases h with h | h
        · exact absurd ⟨c0, c1⟩ h
        · exact h
      unfold flwH flwL at h2
      have e1 := ceilI_eq (c * y) x hx.1
      have e2 := ceilI_less ((c + 1) * y) x hx.1
      omega
    · have a : (flwM x y + 1) * y ≤ c * y := Int.mul_le_mul_of_nonneg_right (by omega) (by omega)
      have e1 := ceilI_less (c * y) x hx.1
      have a2 : 1000000000000 ≤ (c * y - 1) / x := by
        rw [Int.le_ediv_iff_mul_le (by omega)]; omega
      omega
  · have a : (c + 1) * y ≤ 0 := by
      have := Int.mul_nonneg (show 0 ≤ -(c + 1) by omega) (show 0 ≤ y by omega)
      rw [Int.neg_mul] at this
      omega
    have e2 := ceilI_less ((c + 1) * y) x hx.1
    have a2 : ((c + 1) * y - 1) / x ≤ -1 := by
      have : ((c + 1) * y - 1) / x < 0 := Int.ediv_neg_of_neg_of_pos (by omega) (by omega)
      omega
    omega
/-- some are shown: both have the same answer -/
theorem flow_some {x y c : Int} (hx : 1 ≤ x ∧ x ≤ 1000) (hy : 1 ≤ y ∧ y ≤ 1000) (h : 0 ≤ c) (h2 : ¬ flwH x y c < flwL x y c) :
    max 0 (ceilI (c * y) x) = flwL x y c ∧ min 1000000000001 (ceilI ((c + 1) * y) x) = flwH x y c + 1 := by
  have e1 := ceilI_eq (c * y) x hx.1
  have e2 := ceilI_less ((c + 1) * y) x hx.1
  have p := Int.mul_nonneg h (show 0 ≤ y by omega)
  have q : 0 ≤ (c * y + x - 1) / x := Int.ediv_nonneg (by omega) (by omega)
  unfold flwH flwL at h2 ⊢
  omega
set_option maxRecDepth 100000 in
set_option maxHeartbeats 4000000 in
theorem specFlowsFor_any (B n cap : Nat) (zs : List Int) (x y s r v : Int) (hv64 : I64 v) (w : World) (hS : Stk w B zs) (hn : n = zs.length) :
    Calls Try.prog 12 #[.agg #[.slice (some ⟨B, 0, none⟩) n cap, .int .i64 x, .int .i64 y, .int .i64 s], .int .i64 r, .int .i64 v] w (GivesB w (.tuple #[.int .i64 (flwA zs x y s r v).1, .int .i64 (flwA zs x y s r v).2.1, .int .i64 (flwA zs x y s r v).2.2])) := by
  have bel := hid (box4_belM w 26 (.slice (some ⟨B, 0, none⟩) n cap) (.int .i64 x) (.int .i64 y) (.int .i64 s))
  have r0 := Row.new w 26 [.slice (some ⟨B, 0, none⟩) n cap, .int .i64 x, .int .i64 y, .int .i64 s]
  have H := hid (l06Asked_any w.heap.size B n cap zs x y s r _ (hS.below bel.out hS.1) hn r0)
  have c0 := r0.cell 0; have c1 := r0.cell 1; have c2 := r0.cell 2; have c3 := r0.cell 3
  simp only [List.getElem?_cons_zero, List.getElem?_cons_succ] at c0 c1 c2 c3
  have HZ := hid (fun hv d => l01Size_me B n cap zs hn hv _ ((hS.below bel.out hS.1).below (below_drewN (Below.refl _ _) d) (hS.below bel.out hS.1).1))
  clear hS hn r0
  cases hv : okMe zs x y s with
  | false =>
    rw [flwA_no hv]
    rw [askI_no hv] at H
    clear hv c0 c1 c2 c3
    go_enter Try.func12, Try.ntmps12
    go_wp2_with fail
    refine H.out.mono ?_
    rintro e w1 ⟨rfl, d, rfl⟩
    go_wp2_with fail
    go_ret3
    exact ⟨rfl, below_drewN bel.out d⟩
  | true =>
    by_cases hf : 0 ≤ r ∧ r ≤ 1000000000000
    · rw [askI_yes hv hf] at H
      obtain ⟨hok, x1, x2, y1, y2, s1, s2⟩ := okMe_out hv
      have HZ2 := hid (HZ.out hok)
      obtain ⟨_, _, _, z1, z2⟩ := okL_out hok
      have HI := hid (fun w => inr_any v 0 (szL zs - 1) w)
      by_cases h2 : 0 ≤ v ∧ v ≤ szL zs - 1
      · rw [in_yes h2] at HI
        by_cases h3 : (s + flwM x y) / szL zs < r
        · rw [flwA_rounds hv hf h2 h3]
          obtain ⟨z, hz⟩ : ∃ z, szL zs = z := ⟨_, rfl⟩
          have mq := quo_bd (X := 1000000000000 * x) (y := y) (by omega) y1
          have m0 : 0 ≤ flwM x y := mq.2.1
          have m1 : flwM x y ≤ 1000000000000 * x := mq.2.2
          have me : (1000000000000 * x).tdiv y = flwM x y := mq.1
          rw [hz] at HZ2 HI z1 z2 s2 h3
          obtain ⟨m, hm⟩ : ∃ m, flwM x y = m := ⟨_, rfl⟩
          rw [hm] at m0 m1 me h3
          obtain ⟨X, hX⟩ : ∃ X, 1000000000000 * x = X := ⟨_, rfl⟩
          rw [hX] at me m1
          have tX : IntKind.i64.wrap X = X := IntWalk.i64_in _ (by omega)
          have tm : IntKind.i64.wrap m = m := IntWalk.i64_in _ (by omega)
          obtain ⟨t, ht⟩ : ∃ t, s + m = t := ⟨_, rfl⟩
          obtain ⟨d1, d2, d3⟩ := quo_bd (X := t) (y := z) (by omega) z1
          rw [ht] at h3
          obtain ⟨u, hu⟩ : ∃ u, t / z = u := ⟨_, rfl⟩
          rw [hu] at d1 d2 d3 h3
          have tt : IntKind.i64.wrap t = t := IntWalk.i64_in _ (by omega)
          have tu : IntKind.i64.wrap u = u := IntWalk.i64_in _ (by omega)
          have tz : IntKind.i64.wrap (z - 1) = z - 1 := IntWalk.i64_in _ (by omega)
          have ny : y ≠ 0 := by omega
          have nz : z ≠ 0 := by omega
          have nx : x ≠ 0 := by omega
          have hXX := hid hX
          have hTT := hid ht
          clear hv hf hok HZ h2 hz hm hu d2 d3 m0 m1 mq s1 s2 z1 z2 x1 x2 y1 y2
          go_enter Try.func12, Try.ntmps12
          go_wp2_with fail
          refine H.out.mono ?_
          rintro e w1 ⟨rfl, d, rfl⟩
          go_wp2_with fail
          refine (HZ2.out d).mono ?_
          rintro e w2 ⟨rfl, rfl⟩
          go_wp2_with fail
          refine (HI.out _).mono ?_
          rintro e w2 ⟨rfl, rfl⟩
          go_wp2_with fail
          go_ret3
          exact ⟨rfl, below_drewN bel.out d⟩
        · obtain ⟨⟨b1, b2⟩, ⟨b3, b4⟩, b5, b6, b7⟩ := flw_bd ⟨x1, x2⟩ ⟨y1, y2⟩ ⟨z1, z2⟩ ⟨s1, s2⟩ hf.1 h2 h3
          have HJ := hid (fun w => inr_any (flwC zs s r v) 0 (flwM x y) w)
          by_cases h4 : 0 ≤ flwC zs s r v ∧ flwC zs s r v ≤ flwM x y
          · rw [in_yes h4] at HJ
            have HMN := hid (fun w => min_any (((flwC zs s r v + 1) * y - 1) / x) 1000000000000 w)
            have p1 := Int.mul_nonneg h4.1 (show 0 ≤ y by omega)
            have p2 : (flwC zs s r v + 1) * y = flwC zs s r v * y + y := by rw [Int.add_mul, Int.one_mul]
            have p3 : flwC zs s r v * y ≤ 2000000000000000 := b5
            obtain ⟨o1, o2, o3⟩ := quo_bd (X := flwC zs s r v * y + x - 1) (y := x) (by omega) x1
            obtain ⟨o4, o5, o6⟩ := quo_bd (X := (flwC zs s r v + 1) * y - 1) (y := x) (by omega) x1
            by_cases h5 : flwH x y (flwC zs s r v) < flwL x y (flwC zs s r v)
            · rw [flwA_none hv hf h2 h3 h4 h5]
              obtain ⟨C, hC⟩ : ∃ C, flwC zs s r v = C := ⟨_, rfl⟩
              have hC2 : r * szL zs + v - s = C := hC
              rw [hC] at HJ h4 h5 HMN p1 p2 p3 o1 o2 o3 o4 o5 o6
              obtain ⟨z, hz⟩ : ∃ z, szL zs = z := ⟨_, rfl⟩
              have mq := quo_bd (X := 1000000000000 * x) (y := y) (by omega) y1
              have m0 : 0 ≤ flwM x y := mq.2.1
              have m1 : flwM x y ≤ 1000000000000 * x := mq.2.2
              have me : (1000000000000 * x).tdiv y = flwM x y := mq.1
              rw [hz] at HZ2 HI z1 z2 s2 h3 hC2 b3 b4
              obtain ⟨m, hm⟩ : ∃ m, flwM x y = m := ⟨_, rfl⟩
              rw [hm] at m0 m1 me h3 HJ b1 b2 b4 h4
              obtain ⟨X, hX⟩ : ∃ X, 1000000000000 * x = X := ⟨_, rfl⟩
              rw [hX] at me m1
              have tX : IntKind.i64.wrap X = X := IntWalk.i64_in _ (by omega)
              have tm : IntKind.i64.wrap m = m := IntWalk.i64_in _ (by omega)
              obtain ⟨t, ht⟩ : ∃ t, s + m = t := ⟨_, rfl⟩
              obtain ⟨d1, d2, d3⟩ := quo_bd (X := t) (y := z) (by omega) z1
              rw [ht] at h3
              obtain ⟨u, hu⟩ : ∃ u, t / z = u := ⟨_, rfl⟩
              rw [hu] at d1 d2 d3 h3
              have tt : IntKind.i64.wrap t = t := IntWalk.i64_in _ (by omega)
              have tu : IntKind.i64.wrap u = u := IntWalk.i64_in _ (by omega)
              have tz : IntKind.i64.wrap (z - 1) = z - 1 := IntWalk.i64_in _ (by omega)
              have ny : y ≠ 0 := by omega
              have nz : z ≠ 0 := by omega
              have nx : x ≠ 0 := by omega
              obtain ⟨P, hP⟩ : ∃ P, r * z = P := ⟨_, rfl⟩
              rw [hP] at b3 b4 hC2
              have tP : IntKind.i64.wrap P = P := IntWalk.i64_in _ (by omega)
              have tP2 : IntKind.i64.wrap (P + v) = P + v := IntWalk.i64_in _ (by omega)
              have tC : IntKind.i64.wrap C = C := IntWalk.i64_in _ (by omega)
              have eL : (C * y + x - 1) / x = flwL x y C := rfl
              have eH : min (((C + 1) * y - 1) / x) 1000000000000 = flwH x y C := rfl
              rw [eL] at o1 o2 o3
              rw [eH] at HMN
              obtain ⟨L, hL⟩ : ∃ L, flwL x y C = L := ⟨_, rfl⟩
              obtain ⟨Hh, hHh⟩ : ∃ L, flwH x y C = L := ⟨_, rfl⟩
              obtain ⟨E, hE⟩ : ∃ E, ((C + 1) * y - 1) / x = E := ⟨_, rfl⟩
              rw [hL] at o1 o2 o3 h5
              rw [hHh] at HMN h5
              rw [hE] at o4 o5 o6 HMN
              obtain ⟨Q1, hQ1⟩ : ∃ Q, C * y = Q := ⟨_, rfl⟩
              rw [hQ1] at o1 o3 p1 p2 p3
              obtain ⟨Q2, hQ2⟩ : ∃ Q, (C + 1) * y = Q := ⟨_, rfl⟩
              rw [hQ2] at o4 o6 p2
              have q1 : IntKind.i64.wrap Q1 = Q1 := IntWalk.i64_in _ (by omega)
              have q2 : IntKind.i64.wrap (Q1 + x) = Q1 + x := IntWalk.i64_in _ (by omega)
              have q3 : IntKind.i64.wrap (Q1 + x - 1) = Q1 + x - 1 := IntWalk.i64_in _ (by omega)
              have q4 : IntKind.i64.wrap L = L := IntWalk.i64_in _ (by omega)
              have q5 : IntKind.i64.wrap (C + 1) = C + 1 := IntWalk.i64_in _ (by omega)
              have q6 : IntKind.i64.wrap Q2 = Q2 := IntWalk.i64_in _ (by omega)
              have q7 : IntKind.i64.wrap (Q2 - 1) = Q2 - 1 := IntWalk.i64_in _ (by omega)
              have q8 : IntKind.i64.wrap E = E := IntWalk.i64_in _ (by omega)
              have h3' : u ≥ r := by omega
              have hXX := hid hX
              have hTT := hid ht
              have hPP := hid hP
              have hCC := hid hC2
              have hQQ := hid hQ1
              have hQQ2 := hid hQ2
              clear hv hf hok HZ h2 hz hm hu d2 d3 m0 m1 mq s1 s2 z1 z2 x1 x2 y1 y2 b1 b2 b3 b4 b5 b6 b7 h4 hC hL hHh hE o2 o3 o5 o6 p1 p2 p3 eL eH
              go_enter Try.func12, Try.ntmps12
              go_wp2_with fail
              refine H.out.mono ?_
              rintro e w1 ⟨rfl, d, rfl⟩
              go_wp2_with fail
              refine (HZ2.out d).mono ?_
              rintro e w2 ⟨rfl, rfl⟩
              go_wp2_with fail
              refine (HI.out _).mono ?_
              rintro e w2 ⟨rfl, rfl⟩
              go_wp2_with fail
              refine (HJ.out _).mono ?_
              rintro e w2 ⟨rfl, rfl⟩
              go_wp2_with fail
              refine (HMN.out _).mono ?_
              rintro e w2 ⟨rfl, rfl⟩
              go_wp2_with fail
              go_ret3
              exact ⟨rfl, below_drewN bel.out d⟩
            · rw [flwA_yes hv hf h2 h3 h4 h5]
              obtain ⟨C, hC⟩ : ∃ C, flwC zs s r v = C := ⟨_, rfl⟩
              have hC2 : r * szL zs + v - s = C := hC
              rw [hC] at HJ h4 h5 HMN p1 p2 p3 o1 o2 o3 o4 o5 o6 ⊢
              obtain ⟨z, hz⟩ : ∃ z, szL zs = z := ⟨_, rfl⟩
              have mq := quo_bd (X := 1000000000000 * x) (y := y) (by omega) y1
              have m0 : 0 ≤ flwM x y := mq.2.1
              have m1 : flwM x y ≤ 1000000000000 * x := mq.2.2
              have me : (1000000000000 * x).tdiv y = flwM x y := mq.1
              rw [hz] at HZ2 HI z1 z2 s2 h3 hC2 b3 b4
              obtain ⟨m, hm⟩ : ∃ m, flwM x y = m := ⟨_, rfl⟩
              rw [hm] at m0 m1 me h3 HJ b1 b2 b4 h4
              obtain ⟨X, hX⟩ : ∃ X, 1000000000000 * x = X := ⟨_, rfl⟩
              rw [hX] at me m1
              have tX : IntKind.i64.wrap X = X := IntWalk.i64_in _ (by omega)
              have tm : IntKind.i64.wrap m = m := IntWalk.i64_in _ (by omega)
              obtain ⟨t, ht⟩ : ∃ t, s + m = t := ⟨_, rfl⟩
              obtain ⟨d1, d2, d3⟩ := quo_bd (X := t) (y := z) (by omega) z1
              rw [ht] at h3
              obtain ⟨u, hu⟩ : ∃ u, t / z = u := ⟨_, rfl⟩
              rw [hu] at d1 d2 d3 h3
              have tt : IntKind.i64.wrap t = t := IntWalk.i64_in _ (by omega)
              have tu : IntKind.i64.wrap u = u := IntWalk.i64_in _ (by omega)
              have tz : IntKind.i64.wrap (z - 1) = z - 1 := IntWalk.i64_in _ (by omega)
              have ny : y ≠ 0 := by omega
              have nz : z ≠ 0 := by omega
              have nx : x ≠ 0 := by omega
              obtain ⟨P, hP⟩ : ∃ P, r * z = P := ⟨_, rfl⟩
              rw [hP] at b3 b4 hC2
              have tP : IntKind.i64.wrap P = P := IntWalk.i64_in _ (by omega)
              have tP2 : IntKind.i64.wrap (P + v) = P + v := IntWalk.i64_in _ (by omega)
              have tC : IntKind.i64.wrap C = C := IntWalk.i64_in _ (by omega)
              have eL : (C * y + x - 1) / x = flwL x y C := rfl
              have eH : min (((C + 1) * y - 1) / x) 1000000000000 = flwH x y C := rfl
              rw [eL] at o1 o2 o3
              rw [eH] at HMN
              obtain ⟨L, hL⟩ : ∃ L, flwL x y C = L := ⟨_, rfl⟩
              obtain ⟨Hh, hHh⟩ : ∃ L, flwH x y C = L := ⟨_, rfl⟩
              obtain ⟨E, hE⟩ : ∃ E, ((C + 1) * y - 1) / x = E := ⟨_, rfl⟩
              rw [hL] at o1 o2 o3 h5 ⊢
              rw [hHh] at HMN h5 ⊢
              rw [hE] at o4 o5 o6 HMN
              obtain ⟨Q1, hQ1⟩ : ∃ Q, C * y = Q := ⟨_, rfl⟩
              rw [hQ1] at o1 o3 p1 p2 p3
              obtain ⟨Q2, hQ2⟩ : ∃ Q, (C + 1) * y = Q := ⟨_, rfl⟩
              rw [hQ2] at o4 o6 p2
              have q1 : IntKind.i64.wrap Q1 = Q1 := IntWalk.i64_in _ (by omega)
              have q2 : IntKind.i64.wrap (Q1 + x) = Q1 + x := IntWalk.i64_in _ (by omega)
              have q3 : IntKind.i64.wrap (Q1 + x - 1) = Q1 + x - 1 := IntWalk.i64_in _ (by omega)
              have q4 : IntKind.i64.wrap L = L := IntWalk.i64_in _ (by omega)
              have q5 : IntKind.i64.wrap (C + 1) = C + 1 := IntWalk.i64_in _ (by omega)
              have q6 : IntKind.i64.wrap Q2 = Q2 := IntWalk.i64_in _ (by omega)
              have q7 : IntKind.i64.wrap (Q2 - 1) = Q2 - 1 := IntWalk.i64_in _ (by omega)
              have q8 : IntKind.i64.wrap E = E := IntWalk.i64_in _ (by omega)
              have h3' : u ≥ r := by omega
              have hXX := hid hX
              have hTT := hid ht
              have hPP := hid hP
              have hCC := hid hC2
              have hQQ := hid hQ1
              have hQQ2 := hid hQ2
              clear hv hf hok HZ h2 hz hm hu d2 d3 m0 m1 mq s1 s2 z1 z2 x1 x2 y1 y2 b1 b2 b3 b4 b5 b6 b7 h4 hC hL hHh hE o2 o3 o5 o6 p1 p2 p3 eL eH
              go_enter Try.func12, Try.ntmps12
              go_wp2_with fail
              refine H.out.mono ?_
              rintro e w1 ⟨rfl, d, rfl⟩
              go_wp2_with fail
              refine (HZ2.out d).mono ?_
              rintro e w2 ⟨rfl, rfl⟩
              go_wp2_with fail
              refine (HI.out _).mono ?_
              rintro e w2 ⟨rfl, rfl⟩
              go_wp2_with fail
              refine (HJ.out _).mono ?_
              rintro e w2 ⟨rfl, rfl⟩
              go_wp2_with fail
              refine (HMN.out _).mono ?_
              rintro e w2 ⟨rfl, rfl⟩
              go_wp2_with fail
              go_ret3
              exact ⟨rfl, below_drewN bel.out d⟩
          · rw [flwA_count hv hf h2 h3 h4]
            rw [in_no h4] at HJ
            obtain ⟨C, hC⟩ : ∃ C, flwC zs s r v = C := ⟨_, rfl⟩
            have hC2 : r * szL zs + v - s = C := hC
            rw [hC] at HJ h4
            obtain ⟨z, hz⟩ : ∃ z, szL zs = z := ⟨_, rfl⟩
            have mq := quo_bd (X := 1000000000000 * x) (y := y) (by omega) y1
            have m0 : 0 ≤ flwM x y := mq.2.1
            have m1 : flwM x y ≤ 1000000000000 * x := mq.2.2
            have me : (1000000000000 * x).tdiv y = flwM x y := mq.1
            rw [hz] at HZ2 HI z1 z2 s2 h3 hC2 b3 b4
            obtain ⟨m, hm⟩ : ∃ m, flwM x y = m := ⟨_, rfl⟩
            rw [hm] at m0 m1 me h3 HJ b1 b2 b4 h4
            obtain ⟨X, hX⟩ : ∃ X, 1000000000000 * x = X := ⟨_, rfl⟩
            rw [hX] at me m1
            have tX : IntKind.i64.wrap X = X := IntWalk.i64_in _ (by omega)
            have tm : IntKind.i64.wrap m = m := IntWalk.i64_in _ (by omega)
            obtain ⟨t, ht⟩ : ∃ t, s + m = t := ⟨_, rfl⟩
            obtain ⟨d1, d2, d3⟩ := quo_bd (X := t) (y := z) (by omega) z1
            rw [ht] at h3
            obtain ⟨u, hu⟩ : ∃ u, t / z = u := ⟨_, rfl⟩
            rw [hu] at d1 d2 d3 h3
            have tt : IntKind.i64.wrap t = t := IntWalk.i64_in _ (by omega)
            have tu : IntKind.i64.wrap u = u := IntWalk.i64_in _ (by omega)
            have tz : IntKind.i64.wrap (z - 1) = z - 1 := IntWalk.i64_in _ (by omega)
            have ny : y ≠ 0 := by omega
            have nz : z ≠ 0 := by omega
            have nx : x ≠ 0 := by omega
            obtain ⟨P, hP⟩ : ∃ P, r * z = P := ⟨_, rfl⟩
            rw [hP] at b3 b4 hC2
            have tP : IntKind.i64.wrap P = P := IntWalk.i64_in _ (by omega)
            have tP2 : IntKind.i64.wrap (P + v) = P + v := IntWalk.i64_in _ (by omega)
            have tC : IntKind.i64.wrap C = C := IntWalk.i64_in _ (by omega)
            have hXX := hid hX
            have hTT := hid ht
            have hPP := hid hP
            have hCC := hid hC2
            have h3' : u ≥ r := by omega
            clear hv hf hok HZ h2 hz hm hu d2 d3 m0 m1 mq s1 s2 z1 z2 x1 x2 y1 y2 b1 b2 b3 b4 b5 b6 b7 h4 hC
            go_enter Try.func12, Try.ntmps12
            go_wp2_with fail
            refine H.out.mono ?_
            rintro e w1 ⟨rfl, d, rfl⟩
            go_wp2_with fail
            refine (HZ2.out d).mono ?_
            rintro e w2 ⟨rfl, rfl⟩
            go_wp2_with fail
            refine (HI.out _).mono ?_
            rintro e w2 ⟨rfl, rfl⟩
            go_wp2_with fail
            refine (HJ.out _).mono ?_
            rintro e w2 ⟨rfl, rfl⟩
            go_wp2_with fail
            go_ret3
            exact ⟨rfl, below_drewN bel.out d⟩
      · rw [flwA_value hv hf h2]
        rw [in_no h2] at HI
        obtain ⟨z, hz⟩ : ∃ z, szL zs = z := ⟨_, rfl⟩
        rw [hz] at HZ2 HI z1 z2
        have tz : IntKind.i64.wrap (z - 1) = z - 1 := IntWalk.i64_in _ (by omega)
        clear hv hf hok HZ h2 hz s2
        go_enter Try.func12, Try.ntmps12
        go_wp2_with fail
        refine H.out.mono ?_
        rintro e w1 ⟨rfl, d, rfl⟩
        go_wp2_with fail
        refine (HZ2.out d).mono ?_
        rintro e w2 ⟨rfl, rfl⟩
        go_wp2_with fail
        refine (HI.out _).mono ?_
        rintro e w2 ⟨rfl, rfl⟩
        go_wp2_with fail
        go_ret3
        exact ⟨rfl, below_drewN bel.out d⟩
    · rw [flwA_range hv hf]
      rw [askI_range hv hf] at H
      clear hv c0 c1 c2 c3 hf
      go_enter Try.func12, Try.ntmps12
      go_wp2_with fail
      refine H.out.mono ?_
      rintro e w1 ⟨rfl, d, rfl⟩
      go_wp2_with fail
      go_ret3
      exact ⟨rfl, below_drewN bel.out d⟩
end Go.Proofs.Ytoenpfjnjpgbfaa
