/- What is possible between two readings: mathematics. -/
import Derived.Test.YtofpgkbcodopiaaFlowT
import Derived.Test.YtofpgkbcodopiaaFlowE
import Derived.Test.YtofpgkbcodopiaaMgP
namespace Go.Proofs.Ytofpgkbcodopiaa
set_option linter.unusedVariables false
theorem mod_apart {z a b : Int} (h0 : 0 ≤ a) (h1 : a < b) (h2 : b < z) : a % z ≠ b % z := by
  rw [Int.emod_eq_of_lt h0 (by omega), Int.emod_eq_of_lt (by omega) h2]; omega
theorem lst_val {z u v low : Int} (hz : 1 ≤ z) (hv : 0 ≤ v ∧ v < z) : (u + lstI z (v - u) low) % z = v := by
  unfold lstI
  rw [show u + (low + (v - u - low) % z) = (u + low) + (v - u - low) % z by omega, Int.add_emod_emod, show u + low + (v - u - low) = v by omega]
  exact Int.emod_eq_of_lt hv.1 hv.2
theorem gst_val {z u v high : Int} (hz : 1 ≤ z) (hv : 0 ≤ v ∧ v < z) : (u + gstI z (v - u) high) % z = v := by
  unfold gstI
  rw [show u + (high - (high - (v - u)) % z) = (u + high) - (high - (v - u)) % z by omega, Int.sub_emod_emod, show u + high - (high - (v - u)) = v by omega]
  exact Int.emod_eq_of_lt hv.1 hv.2
theorem lst_ge {z way low : Int} (hz : 1 ≤ z) : low ≤ lstI z way low ∧ lstI z way low < low + z := by
  have := Int.emod_nonneg (way - low) (show z ≠ 0 by omega)
  have := Int.emod_lt_of_pos (way - low) (show 0 < z by omega)
  unfold lstI; omega
/-- no count ahead of the least one leads there -/
theorem lst_first {z u v low c : Int} (hz : 1 ≤ z) (hv : 0 ≤ v ∧ v < z) (h1 : low ≤ c) (h2 : c < lstI z (v - u) low) : (u + c) % z ≠ v := fun h => by
  have hL := lst_val (z := z) (u := u) (v := v) (low := low) hz hv
  have hb := lst_ge (z := z) (way := v - u) (low := low) hz
  have e : ((u + c) - (u + lstI z (v - u) low)) % z = 0 := by
    apply Int.emod_eq_emod_iff_emod_sub_eq_zero.1
    rw [h, hL]
  rw [show (u + c) - (u + lstI z (v - u) low) = -(lstI z (v - u) low - c) by omega] at e
  have e2 := Int.dvd_of_emod_eq_zero e
  have e3 := Int.dvd_neg.1 e2
  have := Int.le_of_dvd (by omega) e3
  omega
theorem back_val {z u v low : Int} : (v + (low - (v - u)) % z) % z = (u + low) % z := by
  rw [Int.add_emod_emod, show v + (low - (v - u)) = u + low by omega]
theorem back_bd {z way low : Int} (hz : 1 ≤ z) : 0 ≤ (low - way) % z ∧ (low - way) % z < z :=
  ⟨Int.emod_nonneg _ (by omega), Int.emod_lt_of_pos _ (by omega)⟩
/-- a log that is drawn: ahead of a day, of values that are shown -/
def LogP (z : Int) (js : List (Int × Int)) (d : Int) : Prop :=
  (∀ j, j < js.length → 0 ≤ rd js j ∧ rd js j < d ∧ 0 ≤ rv js j ∧ rv js j < z) ∧ (∀ j, j + 1 < js.length → rd js j < rd js (j + 1)) ∧ 0 ≤ d ∧ d ≤ 4 + 4 * (js.length : Int)
theorem rd_old {js : List (Int × Int)} {p : Int × Int} {j : Nat} (h : j < js.length) : rd (js ++ [p]) j = rd js j ∧ rv (js ++ [p]) j = rv js j := by
  unfold rd rv; rw [List.getElem?_append_left h]; exact ⟨rfl, rfl⟩
theorem rd_new {js : List (Int × Int)} {p : Int × Int} : rd (js ++ [p]) js.length = p.1 ∧ rv (js ++ [p]) js.length = p.2 := by
  simp [rd, rv]
theorem LogP.nil (z : Int) (d : Int) (h : 0 ≤ d ∧ d ≤ 4) : LogP z [] d := ⟨fun j hj => by simp at hj, fun j hj => by simp at hj, h.1, by simp; omega⟩
theorem LogP.snoc {z : Int} {js : List (Int × Int)} {d : Int} (h : LogP z js d) {v e : Int} (hv : 0 ≤ v ∧ v < z) (he : 1 ≤ e ∧ e ≤ 4) : LogP z (js ++ [(d, v)]) (d + e) := by
  obtain ⟨h1, h2, h3, h4⟩ := h
  refine ⟨fun j hj => ?_, fun j hj => ?_, by omega, by simp; omega⟩
  · simp at hj
    by_cases c : j < js.length
    · rw [(rd_old c).1, (rd_old c).2]; have := h1 j c; omega
    · obtain rfl : j = js.length := by omega
      rw [rd_new.1, rd_new.2]; simp only; omega
  · simp at hj
    by_cases c : j + 1 < js.length
    · rw [(rd_old c).1, (rd_old (show j < js.length by omega)).1]; exact h2 j c
    · obtain hj2 : j + 1 = js.length := by omega
      rw [(rd_old (show j < js.length by omega)).1, hj2, rd_new.1]
      exact (h1 j (by omega)).2.1
/-- all that the law asks of two readings that lie in a log -/
theorem poss_key {zs : List Int} {a u b v lo hi : Int} (h1 : okL zs = true) (h2 : okRd (szL zs) a u = true) (h3 : okRd (szL zs) b v = true) (h4 : okF lo hi = true) (h5 : a < b) :
    ∃ Lq Gq C2 D : Int, cntR zs a u b v lo hi = ((Lq, Gq), C2) ∧ backR zs a u b v lo hi = (D, 0) ∧ (0 ≤ D ∧ D < szL zs) ∧ lo * (b - a) ≤ hi * (b - a) ∧
      ((C2 = 0 ∧ D = 0 ∧ rndR zs a u b v lo hi = (((u + Lq) / szL zs, (u + Gq) / szL zs), 0) ∧ lo * (b - a) ≤ Lq ∧ Lq ≤ Gq ∧ Gq ≤ hi * (b - a) ∧ (u + Lq) % szL zs = v ∧ (u + Gq) % szL zs = v ∧ ∀ c, lo * (b - a) ≤ c → c < Lq → (u + c) % szL zs ≠ v) ∨
       (C2 = 6 ∧ (u + lo * (b - a)) % szL zs = (v + D) % szL zs ∧ (u + lo * (b - a)) % szL zs ≠ v)) := by
  have hc := codeP_6 h1 h2 h3 h4 h5
  obtain ⟨_, _, _, z1, z2⟩ := okL_out h1
  obtain ⟨_, _, u0, u1⟩ := okRd_out h2
  obtain ⟨_, _, v0, v1⟩ := okRd_out h3
  obtain ⟨l0, l1, l2⟩ := okF_out h4
  have hle : lo * (b - a) ≤ hi * (b - a) := Int.mul_le_mul_of_nonneg_right l1 (by omega)
  obtain ⟨z, hz⟩ : ∃ z, szL zs = z := ⟨_, rfl⟩
  obtain ⟨LO, hLO⟩ : ∃ x, lo * (b - a) = x := ⟨_, rfl⟩
  obtain ⟨HI, hHI⟩ : ∃ x, hi * (b - a) = x := ⟨_, rfl⟩
  have p := pos_iff z (v - u) LO HI (by omega)
  cases hp : posI z (v - u) LO HI with
  | true =>
    rw [hp] at p
    have hL : lstI z (v - u) LO ≤ HI := of_decide_eq_true p.symm
    have hcn := cntR_yes hc (by rw [hz, hLO, hHI]; exact hp)
    have hr := rndR_yes (zs := zs) (a := a) (u := u) (b := b) (v := v) (lo := lo) (hi := hi) (by rw [hcn])
    have hb := backR_yes hc
    rw [hz, hLO, hHI] at hcn hb ⊢
    rw [hcn, hz] at hr
    have hb2 : backI z (v - u) LO HI = 0 := by unfold backI; rw [hp]; rfl
    rw [hb2] at hb
    rw [hLO, hHI] at hle
    refine ⟨_, _, _, _, hcn, hb, by omega, hle, .inl ⟨rfl, rfl, hr, (lst_ge (by omega)).1, gst_ge z _ _ _ (by omega) hL, gst_le z _ _ (by omega), lst_val (by omega) (by omega), gst_val (by omega) (by omega), fun c k1 k2 => lst_first (by omega) (by omega) k1 k2⟩⟩
  | false =>
    rw [hp] at p
    have hL : ¬ lstI z (v - u) LO ≤ HI := of_decide_eq_false p.symm
    have hcn := cntR_none hc (by rw [hz, hLO, hHI]; exact hp)
    have hb := backR_yes hc
    rw [hz, hLO, hHI] at hb ⊢
    have hb2 : backI z (v - u) LO HI = (LO - (v - u)) % z := by unfold backI; rw [hp]; rfl
    rw [hb2] at hb
    rw [hLO, hHI] at hle
    exact ⟨_, _, _, _, hcn, hb, back_bd (by omega), hle, .inr ⟨rfl, back_val.symm, lst_first (by omega) (by omega) (Int.le_refl _) (by omega)⟩⟩
/-- two readings of a log that is drawn -/
theorem LogP.two {z d : Int} {js : List (Int × Int)} (h : LogP z js d) (hl : js.length ≤ 8) {k : Nat} (hk : k + 1 < js.length) : okRd z (rd js k) (rv js k) = true ∧ okRd z (rd js (k + 1)) (rv js (k + 1)) = true ∧ rd js k < rd js (k + 1) ∧ (0 ≤ rd js k ∧ rd js (k + 1) ≤ 40) ∧ (0 ≤ rv js k ∧ rv js k < z) ∧ (0 ≤ rv js (k + 1) ∧ rv js (k + 1) < z) := by
  obtain ⟨h1, h2, h3, h4⟩ := h
  have a := h1 k (by omega)
  have b := h1 (k + 1) hk
  have c := h2 k hk
  refine ⟨?_, ?_, c, by omega, by omega, by omega⟩
  · unfold okRd; exact decide_eq_true (by omega)
  · unfold okRd; exact decide_eq_true (by omega)
end Go.Proofs.Ytofpgkbcodopiaa
