/- The tightest flow: plain arithmetic. -/
import Derived.Test.YtofpgkbcodopiaaEndsT
namespace Go.Proofs.Ytofpgkbcodopiaa
/-- days and way of an interval, what flow it wants at least, and what it bears at most -/
def dyI (js : List (Int × Int)) (k : Nat) : Int := rd js (k + 1) - rd js k
def wyI (js : List (Int × Int)) (k : Nat) : Int := rv js (k + 1) - rv js k
def hkI (z : Int) (js : List (Int × Int)) (k : Nat) : Int := (lstI z (wyI js k) 0 + dyI js k - 1) / dyI js k
def lkI (z : Int) (js : List (Int × Int)) (H : Int) (k : Nat) : Int := gstI z (wyI js k) (H * dyI js k) / dyI js k
def hiP {m : Nat} (z : Int) (js : List (Int × Int)) (pre : List (Fin m)) : Int := pre.foldl (fun h x => max h (hkI z js x.1)) 0
def loP {m : Nat} (z : Int) (js : List (Int × Int)) (H : Int) (pre : List (Fin m)) : Int := pre.foldl (fun l x => min l (lkI z js H x.1)) H
theorem hiP_snoc {m : Nat} (z : Int) (js : List (Int × Int)) (pre : List (Fin m)) (x : Fin m) : hiP z js (pre ++ [x]) = max (hiP z js pre) (hkI z js x.1) := by simp [hiP]
theorem loP_snoc {m : Nat} (z : Int) (js : List (Int × Int)) (H : Int) (pre : List (Fin m)) (x : Fin m) : loP z js H (pre ++ [x]) = min (loP z js H pre) (lkI z js H x.1) := by simp [loP]
theorem fold_ge {m : Nat} (z : Int) (js : List (Int × Int)) : ∀ (pre : List (Fin m)) (a : Int), a ≤ pre.foldl (fun h x => max h (hkI z js x.1)) a
  | [], a => Int.le_refl _
  | x :: pre, a => Int.le_trans (Int.le_max_left _ _) (fold_ge z js pre _)
theorem fold_mem {m : Nat} (z : Int) (js : List (Int × Int)) : ∀ (pre : List (Fin m)) (a : Int) (x : Fin m), x ∈ pre → hkI z js x.1 ≤ pre.foldl (fun h x => max h (hkI z js x.1)) a
  | [], _, _, h => by cases h
  | y :: pre, a, x, h => by
    rcases List.mem_cons.1 h with rfl | h
    · exact Int.le_trans (Int.le_max_right _ _) (fold_ge z js pre _)
    · exact fold_mem z js pre _ x h
theorem hiP_ge {m : Nat} (z : Int) (js : List (Int × Int)) (pre : List (Fin m)) : 0 ≤ hiP z js pre := fold_ge z js pre 0
theorem hiP_mem {m : Nat} (z : Int) (js : List (Int × Int)) (pre : List (Fin m)) (x : Fin m) (h : x ∈ pre) : hkI z js x.1 ≤ hiP z js pre := fold_mem z js pre 0 x h
theorem hiP_all {m : Nat} (z : Int) (js : List (Int × Int)) (x : Fin m) : hkI z js x.1 ≤ hiP z js (List.finRange m) := hiP_mem z js _ x (List.mem_finRange x)
theorem lst_bd {z way : Int} (hz : 1 ≤ z) : 0 ≤ lstI z way 0 ∧ lstI z way 0 < z := by
  unfold lstI
  have h1 := Int.emod_nonneg (way - 0) (show z ≠ 0 by omega)
  have h2 := Int.emod_lt_of_pos (way - 0) (show 0 < z by omega)
  omega
/-- what an interval wants: where a flow is as great, its greatest count is at least its least one -/
theorem hk_le {z : Int} {js : List (Int × Int)} {k : Nat} {H : Int} (hz : 1 ≤ z) (hd : 1 ≤ dyI js k) (h : hkI z js k ≤ H) : lstI z (wyI js k) 0 ≤ H * dyI js k := by
  have hl := lst_bd (way := wyI js k) hz
  have h1 : (lstI z (wyI js k) 0 + dyI js k - 1) < (hkI z js k + 1) * dyI js k := Int.lt_ediv_add_one_mul_self _ (by omega)
  have h2 : (hkI z js k + 1) * dyI js k ≤ (H + 1) * dyI js k := Int.mul_le_mul_of_nonneg_right (by omega) (by omega)
  have h3 : (H + 1) * dyI js k = H * dyI js k + dyI js k := by rw [Int.add_mul, Int.one_mul]
  omega
theorem hk_bd {z : Int} {js : List (Int × Int)} {k : Nat} (hz : 1 ≤ z ∧ z ≤ 1000000000000) (hd : 1 ≤ dyI js k) : 0 ≤ hkI z js k ∧ hkI z js k ≤ 1000000000000 := by
  have hl := lst_bd (way := wyI js k) hz.1
  constructor
  · exact Int.ediv_nonneg (by omega) (by omega)
  · refine Int.ediv_le_of_le_mul (by omega) ?_
    have : 1000000000000 * 1 ≤ 1000000000000 * dyI js k := Int.mul_le_mul_of_nonneg_left hd (by omega)
    have h2 : 1000000000000 * dyI js k = 999999999999 * dyI js k + dyI js k := by omega
    have h3 : 999999999999 * 1 ≤ 999999999999 * dyI js k := Int.mul_le_mul_of_nonneg_left hd (by omega)
    omega
theorem gst_bd {z : Int} {js : List (Int × Int)} {k : Nat} {H : Int} (hz : 1 ≤ z ∧ z ≤ 1000000000000) (hd : 1 ≤ dyI js k) (h : hkI z js k ≤ H) : 0 ≤ gstI z (wyI js k) (H * dyI js k) ∧ gstI z (wyI js k) (H * dyI js k) ≤ H * dyI js k := by
  have h1 := hk_le hz.1 hd h
  have h2 := gst_ge z (wyI js k) 0 (H * dyI js k) hz.1 h1
  have h3 := lst_bd (way := wyI js k) hz.1
  have h4 := gst_le z (wyI js k) (H * dyI js k) hz.1
  omega
theorem lk_bd {z : Int} {js : List (Int × Int)} {k : Nat} {H : Int} (hz : 1 ≤ z ∧ z ≤ 1000000000000) (hd : 1 ≤ dyI js k) (h : hkI z js k ≤ H) : 0 ≤ lkI z js H k ∧ lkI z js H k ≤ H := by
  have h1 := gst_bd hz hd h
  constructor
  · exact Int.ediv_nonneg h1.1 (by omega)
  · exact Int.ediv_le_of_le_mul (by omega) h1.2
theorem loF_bd {m : Nat} {z : Int} {js : List (Int × Int)} {H : Int} (hz : 1 ≤ z ∧ z ≤ 1000000000000) (hd : ∀ x : Fin m, 1 ≤ dyI js x.1) (hH : ∀ x : Fin m, hkI z js x.1 ≤ H) : ∀ (pre : List (Fin m)) (a : Int), 0 ≤ a → a ≤ H → 0 ≤ pre.foldl (fun l x => min l (lkI z js H x.1)) a ∧ pre.foldl (fun l x => min l (lkI z js H x.1)) a ≤ H
  | [], a, h0, h1 => ⟨h0, h1⟩
  | x :: pre, a, h0, h1 => by
    have h2 := lk_bd hz (hd x) (hH x)
    exact loF_bd hz hd hH pre (min a (lkI z js H x.1)) (by omega) (by omega)
theorem loP_bd {m : Nat} {z : Int} {js : List (Int × Int)} {H : Int} (h0 : 0 ≤ H) (hz : 1 ≤ z ∧ z ≤ 1000000000000) (hd : ∀ x : Fin m, 1 ≤ dyI js x.1) (hH : ∀ x : Fin m, hkI z js x.1 ≤ H) (pre : List (Fin m)) : 0 ≤ loP z js H pre ∧ loP z js H pre ≤ H :=
  loF_bd hz hd hH pre H h0 (Int.le_refl _)
theorem hiF_bd {m : Nat} {z : Int} {js : List (Int × Int)} (hz : 1 ≤ z ∧ z ≤ 1000000000000) (hd : ∀ x : Fin m, 1 ≤ dyI js x.1) : ∀ (pre : List (Fin m)) (a : Int), a ≤ 1000000000000 → pre.foldl (fun h x => max h (hkI z js x.1)) a ≤ 1000000000000
  | [], a, h => h
  | x :: pre, a, h => by
    have h2 := hk_bd (k := x.1) hz (hd x)
    exact hiF_bd hz hd pre (max a (hkI z js x.1)) (by omega)
theorem hiP_bd {m : Nat} {z : Int} {js : List (Int × Int)} (hz : 1 ≤ z ∧ z ≤ 1000000000000) (hd : ∀ x : Fin m, 1 ≤ dyI js x.1) (pre : List (Fin m)) : 0 ≤ hiP z js pre ∧ hiP z js pre ≤ 1000000000000 :=
  ⟨hiP_ge z js pre, hiF_bd hz hd pre 0 (by omega)⟩
/-- the answer: the flow, and a code -/
def tiR (zs : List Int) (js : List (Int × Int)) (most : Int) : (Int × Int) × Int :=
  if okG zs js then
    if 0 ≤ most ∧ most ≤ 1000000 then
      if hiP (szL zs) js (List.finRange (js.length - 1)) ≤ most then
        ((loP (szL zs) js (hiP (szL zs) js (List.finRange (js.length - 1))) (List.finRange (js.length - 1)), hiP (szL zs) js (List.finRange (js.length - 1))), 0)
      else ((0, 0), 6)
    else ((0, 0), 2)
  else ((0, 0), 1)
theorem tiR_log {zs : List Int} {js : List (Int × Int)} {most : Int} (h : okG zs js = false) : tiR zs js most = ((0, 0), 1) := by simp [tiR, h]
theorem tiR_most {zs : List Int} {js : List (Int × Int)} {most : Int} (h : okG zs js = true) (k : ¬ (0 ≤ most ∧ most ≤ 1000000)) : tiR zs js most = ((0, 0), 2) := by
  unfold tiR; rw [if_pos h, if_neg k]
theorem tiR_none {zs : List Int} {js : List (Int × Int)} {most : Int} (h : okG zs js = true) (k : 0 ≤ most ∧ most ≤ 1000000) (l : ¬ hiP (szL zs) js (List.finRange (js.length - 1)) ≤ most) : tiR zs js most = ((0, 0), 6) := by
  unfold tiR; rw [if_pos h, if_pos k, if_neg l]
theorem tiR_yes {zs : List Int} {js : List (Int × Int)} {most : Int} (h : okG zs js = true) (k : 0 ≤ most ∧ most ≤ 1000000) (l : hiP (szL zs) js (List.finRange (js.length - 1)) ≤ most) : tiR zs js most = ((loP (szL zs) js (hiP (szL zs) js (List.finRange (js.length - 1))) (List.finRange (js.length - 1)), hiP (szL zs) js (List.finRange (js.length - 1))), 0) := by
  unfold tiR; rw [if_pos h, if_pos k, if_pos l]
theorem okG_dy {zs : List Int} {js : List (Int × Int)} (h : okG zs js = true) (x : Fin (js.length - 1)) : 1 ≤ dyI js x.1 ∧ dyI js x.1 ≤ 100000 ∧ -1000000000000 ≤ wyI js x.1 ∧ wyI js x.1 ≤ 1000000000000 := by
  obtain ⟨h1, h2, h3, h4⟩ := okG_out h
  have hx := x.2
  have o1 := okRd_out (h3 x.1 (by omega))
  have o2 := okRd_out (h3 (x.1 + 1) (by omega))
  have o3 := h4 x.1 (by omega)
  have o4 := (okL_out h1).2.2.2.2
  unfold dyI wyI
  omega
end Go.Proofs.Ytofpgkbcodopiaa
