/- FnTight: that the flow found is tight; plain arithmetic. -/
import Derived.Test.YtofpgkbcodopiaaTiM
import Derived.Test.YtofpgkbcodopiaaSkM
namespace Go.Proofs.Ytofpgkbcodopiaa
set_option linter.unusedVariables false
/-- a count that leads there and is of low and more is at least the least one -/
theorem lst_min {z way low c : Int} (hz : 1 ≤ z) (hc : (c - way) % z = 0) (h : low ≤ c) : lstI z way low ≤ c := by
  unfold lstI
  have e : (way - low) % z = (c - low) % z := by
    apply Int.emod_eq_emod_iff_emod_sub_eq_zero.2
    rw [show way - low - (c - low) = -(c - way) by omega]
    exact Int.emod_eq_zero_of_dvd (Int.dvd_neg.2 (Int.dvd_of_emod_eq_zero hc))
  rw [e]
  have q : (c - low) % z ≤ c - low := by
    have h0 : 0 ≤ c - low := by omega
    have := Int.emod_add_mul_ediv (c - low) z
    have q := Int.ediv_nonneg h0 (show 0 ≤ z by omega)
    have := Int.mul_nonneg (show 0 ≤ z by omega) q
    omega
  omega
theorem gst_fit {z way high : Int} : (gstI z way high - way) % z = 0 := by
  unfold gstI
  rw [show high - (high - way) % z - way = (high - way) - (high - way) % z by omega, Int.sub_emod, Int.emod_emod_of_dvd _ (Int.dvd_refl z), Int.sub_self]
  exact Int.zero_emod _
theorem lst_lo {z way low : Int} (hz : 1 ≤ z) : low ≤ lstI z way low := by
  unfold lstI
  have := Int.emod_nonneg (way - low) (show z ≠ 0 by omega)
  omega
/-- where the greatest comes from -/
theorem hiF_from {m : Nat} (z : Int) (js : List (Int × Int)) : ∀ (pre : List (Fin m)) (a : Int), pre.foldl (fun h x => max h (hkI z js x.1)) a = a ∨ ∃ x ∈ pre, pre.foldl (fun h x => max h (hkI z js x.1)) a = hkI z js x.1
  | [], a => .inl rfl
  | x :: pre, a => by
    rcases hiF_from z js pre (max a (hkI z js x.1)) with h | ⟨y, hy, h⟩
    · rw [List.foldl_cons, h]
      rcases Int.le_total a (hkI z js x.1) with q | q
      · exact .inr ⟨x, List.mem_cons_self .., by omega⟩
      · exact .inl (by omega)
    · exact .inr ⟨y, List.mem_cons_of_mem _ hy, by rw [List.foldl_cons, h]⟩
theorem loF_from {m : Nat} (z : Int) (js : List (Int × Int)) (H : Int) : ∀ (pre : List (Fin m)) (a : Int), pre.foldl (fun l x => min l (lkI z js H x.1)) a = a ∨ ∃ x ∈ pre, pre.foldl (fun l x => min l (lkI z js H x.1)) a = lkI z js H x.1
  | [], a => .inl rfl
  | x :: pre, a => by
    rcases loF_from z js H pre (min a (lkI z js H x.1)) with h | ⟨y, hy, h⟩
    · rw [List.foldl_cons, h]
      rcases Int.le_total a (lkI z js H x.1) with q | q
      · exact .inl (by omega)
      · exact .inr ⟨x, List.mem_cons_self .., by omega⟩
    · exact .inr ⟨y, List.mem_cons_of_mem _ hy, by rw [List.foldl_cons, h]⟩
theorem loF_le {m : Nat} (z : Int) (js : List (Int × Int)) (H : Int) : ∀ (pre : List (Fin m)) (a : Int), pre.foldl (fun l x => min l (lkI z js H x.1)) a ≤ a
  | [], a => Int.le_refl _
  | x :: pre, a => Int.le_trans (loF_le z js H pre _) (Int.min_le_left _ _)
theorem loF_mem {m : Nat} (z : Int) (js : List (Int × Int)) (H : Int) : ∀ (pre : List (Fin m)) (a : Int) (x : Fin m), x ∈ pre → pre.foldl (fun l x => min l (lkI z js H x.1)) a ≤ lkI z js H x.1
  | [], _, _, h => by cases h
  | y :: pre, a, x, h => by
    rcases List.mem_cons.1 h with rfl | h
    · exact Int.le_trans (loF_le z js H pre _) (Int.min_le_right _ _)
    · exact loF_mem z js H pre _ x h
/-- what is suspect of an interval -/
def susI (z : Int) (js : List (Int × Int)) (lo hi : Int) (k : Nat) : Bool := !posI z (wyI js k) (lo * dyI js k) (hi * dyI js k)
/-- one flow less at the high end: some interval is suspect -/
theorem tight_hi {m : Nat} {z : Int} {js : List (Int × Int)} (hz : 1 ≤ z) (hd : ∀ x : Fin m, 1 ≤ dyI js x.1) (h : 0 < hiP z js (List.finRange m)) : ∃ x : Fin m, susI z js 0 (hiP z js (List.finRange m) - 1) x.1 = true := by
  rcases hiF_from z js (List.finRange m) 0 with e | ⟨x, _, e⟩
  · unfold hiP at h; omega
  · refine ⟨x, ?_⟩
    have e' : hiP z js (List.finRange m) = hkI z js x.1 := e
    have hdx := hd x
    have h1 : hkI z js x.1 * dyI js x.1 ≤ lstI z (wyI js x.1) 0 + dyI js x.1 - 1 := by
      have := Int.ediv_mul_le (lstI z (wyI js x.1) 0 + dyI js x.1 - 1) (show dyI js x.1 ≠ 0 by omega)
      exact this
    unfold susI
    rw [pos_iff _ _ _ _ hz, e', Int.zero_mul, Int.sub_mul, Int.one_mul, decide_eq_false (by omega)]
    rfl
/-- one flow more at the low end: some interval is suspect -/
theorem tight_lo {m : Nat} {z : Int} {js : List (Int × Int)} {H : Int} (hz : 1 ≤ z) (hd : ∀ x : Fin m, 1 ≤ dyI js x.1) (h : loP z js H (List.finRange m) < H) : ∃ x : Fin m, susI z js (loP z js H (List.finRange m) + 1) H x.1 = true := by
  rcases loF_from z js H (List.finRange m) H with e | ⟨x, _, e⟩
  · unfold loP at h; omega
  · refine ⟨x, ?_⟩
    have e' : loP z js H (List.finRange m) = lkI z js H x.1 := e
    have hdx := hd x
    have h1 : gstI z (wyI js x.1) (H * dyI js x.1) < (lkI z js H x.1 + 1) * dyI js x.1 := Int.lt_ediv_add_one_mul_self _ (by omega)
    have h2 := lst_lo (z := z) (way := wyI js x.1) (low := (lkI z js H x.1 + 1) * dyI js x.1) hz
    unfold susI posI
    rw [e', decide_eq_false (by omega)]
    rfl
/-- with the flow found no interval is suspect -/
theorem tight_none {m : Nat} {z : Int} {js : List (Int × Int)} (hz : 1 ≤ z) (hd : ∀ x : Fin m, 1 ≤ dyI js x.1) (x : Fin m) : susI z js (loP z js (hiP z js (List.finRange m)) (List.finRange m)) (hiP z js (List.finRange m)) x.1 = false := by
  obtain ⟨H, hH⟩ : ∃ H, hiP z js (List.finRange m) = H := ⟨_, rfl⟩
  obtain ⟨L, hL⟩ : ∃ L, loP z js H (List.finRange m) = L := ⟨_, rfl⟩
  rw [hH, hL]
  have hdx := hd x
  have h1 : L ≤ lkI z js H x.1 := by rw [← hL]; exact loF_mem z js H _ H x (List.mem_finRange x)
  have h2 : lkI z js H x.1 * dyI js x.1 ≤ gstI z (wyI js x.1) (H * dyI js x.1) := Int.ediv_mul_le _ (by omega)
  have h3 : L * dyI js x.1 ≤ lkI z js H x.1 * dyI js x.1 := Int.mul_le_mul_of_nonneg_right h1 (by omega)
  have h4 := lst_min (z := z) (way := wyI js x.1) (low := L * dyI js x.1) hz gst_fit (Int.le_trans h3 h2)
  unfold susI posI
  rw [decide_eq_true h4]
  rfl
/-- the greatest is less than the number of values -/
theorem hk_lt {z : Int} {js : List (Int × Int)} {k : Nat} (hz : 1 ≤ z) (hd : 1 ≤ dyI js k) : hkI z js k < z := by
  have hl := lst_bd (way := wyI js k) hz
  have h0 : 1 * (z - 1) ≤ dyI js k * (z - 1) := Int.mul_le_mul_of_nonneg_right hd (by omega)
  refine Int.ediv_lt_of_lt_mul (by omega) ?_
  have e : z * dyI js k = dyI js k * (z - 1) + dyI js k := by rw [Int.mul_sub, Int.mul_comm z]; omega
  omega
theorem hiP_lt {m : Nat} {z : Int} {js : List (Int × Int)} (hz : 1 ≤ z) (hd : ∀ x : Fin m, 1 ≤ dyI js x.1) : hiP z js (List.finRange m) < z := by
  rcases hiF_from z js (List.finRange m) 0 with e | ⟨x, _, e⟩
  · have : hiP z js (List.finRange m) = 0 := e
    omega
  · have e' : hiP z js (List.finRange m) = hkI z js x.1 := e
    have := hk_lt hz (hd x)
    omega
/-- the readings from the answer on have the same digit -/
theorem backF_all {P : Nat → Bool} : ∀ k i, backF P k ≤ i → i < k → P i = true
  | 0, i, _, h => by omega
  | k + 1, i, h1, h2 => by
    cases hp : P k with
    | true =>
      rw [backF_yes (by omega) (by simpa using hp)] at h1
      by_cases c : i = k
      · subst c; exact hp
      · exact backF_all k i (by simpa using h1) (by omega)
    | false =>
      rw [backF_no (by omega) (by simpa using hp)] at h1
      omega
theorem since_all {zs : List Int} {js : List (Int × Int)} {w i : Nat} (h1 : sinceN zs js w ≤ i) (h2 : i < js.length) : dgJ zs js w i = dgJ zs js w (js.length - 1) := by
  by_cases c : i = js.length - 1
  · rw [c]
  · have := backF_all (P := sameP zs js w js.length) (js.length - 1) i h1 (by omega)
    unfold sameP at this
    exact eq_of_beq this
theorem since_lt {zs : List Int} {js : List (Int × Int)} {w : Nat} (h : anyB (movP zs js w (sinceN zs js w)) js.length = true) : sinceN zs js w + 1 < js.length := by
  unfold anyB at h
  rw [List.any_eq_true] at h
  obtain ⟨i, hi, hm⟩ := h
  have hi2 := List.mem_range.1 hi
  unfold movP at hm
  simp only [Bool.and_eq_true, decide_eq_true_eq] at hm
  omega
/-- the answer of StuckSince, where the log and the wheel are in order -/
theorem stuckR_or {zs : List Int} {js : List (Int × Int)} {w : Nat} (hg : okG zs js = true) (hw : w < zs.length) : (stuckR zs js (w : Int) = (0, 6)) ∨ (stuckR zs js (w : Int) = ((sinceN zs js w : Int), 0) ∧ sinceN zs js w + 1 < js.length) := by
  cases h : anyB (movP zs js w (sinceN zs js w)) js.length with
  | true => exact .inr ⟨stuckR_yes hg hw h, since_lt h⟩
  | false => exact .inl (stuckR_no hg hw h)
/-- what an interval's list holds -/
theorem endsP_has {m : Nat} (P : Nat → Bool) (k : Nat) (hk : k < m) : hasL (endsP P (List.finRange m)) ((k : Int) + 1) = P k := by
  cases h : P k with
  | true =>
    refine hasL_iff.2 ?_
    unfold endsP
    exact List.mem_map.2 ⟨⟨k, hk⟩, List.mem_filter.2 ⟨List.mem_finRange _, h⟩, rfl⟩
  | false =>
    cases hh : hasL (endsP P (List.finRange m)) ((k : Int) + 1) with
    | false => rfl
    | true =>
      have := hasL_iff.1 hh
      unfold endsP at this
      obtain ⟨y, hy, e⟩ := List.mem_map.1 this
      have hp := (List.mem_filter.1 hy).2
      have e2 : y.1 = k := by omega
      rw [e2, h] at hp
      cases hp
theorem endsP_none {m : Nat} (P : Nat → Bool) (h : ∀ x : Fin m, P x.1 = false) : (endsP P (List.finRange m)).length = 0 := by
  unfold endsP
  rw [List.length_map]
  exact List.length_eq_zero_iff.2 (List.filter_eq_nil_iff.2 (fun x _ => by simp [h x]))
theorem endsP_some {m : Nat} (P : Nat → Bool) (x : Fin m) (h : P x.1 = true) : 0 < (endsP P (List.finRange m)).length := by
  unfold endsP
  rw [List.length_map]
  exact List.length_pos_of_mem (List.mem_filter.2 ⟨List.mem_finRange x, h⟩)
end Go.Proofs.Ytofpgkbcodopiaa
