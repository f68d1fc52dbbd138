/- FirstMove: plain mathematics; the right digits, for the parts. -/
import Derived.Test.YtkgldcjbaghapaaRfA
import Derived.Test.YtkgldcjbaghapaaOfS
import Derived.OrdersHeld
namespace Go.Proofs.Ytkgldcjbaghapaa
open Go.RowKit
def spanL (zs : List Int) : Int := szL zs * 1000
theorem spanL_bd {zs : List Int} (h : okL zs = true) : 1000 ≤ spanL zs ∧ spanL zs ≤ 1000000000000000 := by
  obtain ⟨_, _, _, h1, h2⟩ := okL_out h
  unfold spanL
  omega
def turnOk (zs : List Int) (turn : Int) : Bool := decide (0 ≤ turn) && decide (turn < spanL zs)
theorem turnOk_out {zs : List Int} {turn : Int} (h : turnOk zs turn = true) : 0 ≤ turn ∧ turn < spanL zs := by simpa [turnOk] using h
/-- the digit of a wheel -/
def dgt (zs : List Int) (turn : Int) (k : Nat) : Int := turn / 1000 / szL (zs.take k) % zs[k]?.getD 0
/-- the parts of a wheel -/
def pL (zs : List Int) (js : List (Int × Int)) (turn : Int) : Nat → Int
  | 0 => dgt zs turn 0 * 1000 + turn % 1000
  | k + 1 => dgt zs turn (k + 1) * 1000 + beyJ (jk js k) (jf js k) (pL zs js turn k) (zs[k]?.getD 0)
theorem dgt_bd {zs : List Int} {turn : Int} {k : Nat} (hk : k < zs.length) (hin : inB zs zs.length) : 0 ≤ dgt zs turn k ∧ dgt zs turn k < zs[k]?.getD 0 := by
  have := hin k hk
  exact ⟨Int.emod_nonneg _ (by omega), Int.emod_lt_of_pos _ (by omega)⟩
theorem pL_bd {zs : List Int} {js : List (Int × Int)} {turn : Int} (hin : inB zs zs.length) (hj : ∀ j, j < js.length → okJ (jk js j) (jf js j) = true) (hl : js.length + 1 = zs.length) : ∀ k, k < zs.length → 0 ≤ pL zs js turn k ∧ pL zs js turn k < zs[k]?.getD 0 * 1000
  | 0, h => by
    have d := dgt_bd (turn := turn) h hin
    have r0 := Int.emod_nonneg turn (show (1000 : Int) ≠ 0 by decide)
    have r1 := Int.emod_lt_of_pos turn (show (0 : Int) < 1000 by decide)
    simp only [pL]
    omega
  | k + 1, h => by
    have d := dgt_bd (turn := turn) h hin
    have ih := pL_bd (turn := turn) hin hj hl k (by omega)
    have b := beyJ_bd (hj k (by omega)) (hin k (by omega)) ih
    simp only [pL]
    omega
theorem first_parts (turn z : Int) (h : 0 ≤ turn) (hz : 2 ≤ z) : turn % (z * 1000) = turn / 1000 % z * 1000 + turn % 1000 := by
  have e1 := Int.mul_ediv_add_emod turn 1000
  have e2 := Int.mul_ediv_add_emod (turn / 1000) z
  have r0 := Int.emod_nonneg turn (show (1000 : Int) ≠ 0 by decide)
  have r1 := Int.emod_lt_of_pos turn (show (0 : Int) < 1000 by decide)
  have d0 := Int.emod_nonneg (turn / 1000) (show z ≠ 0 by omega)
  have d1 := Int.emod_lt_of_pos (turn / 1000) (show 0 < z by omega)
  obtain ⟨q, hq⟩ : ∃ q, q = turn / 1000 / z := ⟨_, rfl⟩
  obtain ⟨d, hd⟩ : ∃ d, d = turn / 1000 % z := ⟨_, rfl⟩
  obtain ⟨r, hr⟩ : ∃ r, r = turn % 1000 := ⟨_, rfl⟩
  rw [← hq, ← hd] at e2
  rw [← hr] at e1 r0 r1
  rw [← hd] at d0 d1
  rw [← hd, ← hr]
  have e3 : turn = d * 1000 + r + z * 1000 * q := by
    rw [← e1, ← e2]
    have : 1000 * (z * q + d) = z * 1000 * q + d * 1000 := by
      rw [Int.mul_add, ← Int.mul_assoc, Int.mul_comm 1000 z, Int.mul_comm 1000 d]
    omega
  rw [e3, Int.add_mul_emod_self_left]
  exact Int.emod_eq_of_lt (by omega) (by omega)

/-- the parts of the wheels up to k -/
def pto (zs : List Int) (js : List (Int × Int)) (turn : Int) (k : Nat) : List Value := (List.range 8).map fun j => .int .i64 (if j ≤ k then pL zs js turn j else 0)
theorem pto_len (zs : List Int) (js : List (Int × Int)) (turn : Int) (k : Nat) : (pto zs js turn k).length = 8 := by simp [pto]
theorem pto_zero (zs : List Int) (js : List (Int × Int)) (turn : Int) : pto zs js turn 0 = [.int .i64 (pL zs js turn 0), .int .i64 0, .int .i64 0, .int .i64 0, .int .i64 0, .int .i64 0, .int .i64 0, .int .i64 0] := rfl
theorem pto_get (zs : List Int) (js : List (Int × Int)) (turn : Int) (k : Nat) (hk : k < 8) : (pto zs js turn k)[k]? = some (.int .i64 (pL zs js turn k)) := by simp [pto, hk]
theorem pto_set (zs : List Int) (js : List (Int × Int)) (turn : Int) (k : Nat) (hk : k + 1 < 8) : (pto zs js turn k).set (k + 1) (.int .i64 (pL zs js turn (k + 1))) = pto zs js turn (k + 1) := by
  apply List.ext_getElem?
  intro j
  simp only [pto, List.getElem?_set, List.getElem?_map, List.length_map, List.length_range]
  by_cases hj : k + 1 = j
  · subst hj
    simp [hk]
  · rw [if_neg hj]
    by_cases h8 : j < 8
    · simp only [List.getElem?_range h8, Option.map_some]
      by_cases h : j ≤ k
      · rw [if_pos h, if_pos (by omega)]
      · rw [if_neg h, if_neg (by omega)]
    · simp [List.getElem?_eq_none (show (List.range 8).length ≤ j by simp; omega)]
/-- the parts of all wheels -/
def partsL (zs : List Int) (js : List (Int × Int)) (turn : Int) : List Int := (List.range 8).map fun j => if j < zs.length then pL zs js turn j else 0
theorem pto_all {zs : List Int} {js : List (Int × Int)} {turn : Int} (h : 1 ≤ zs.length) : pto zs js turn (zs.length - 1) = (partsL zs js turn).map (Value.int .i64) := by
  simp only [pto, partsL, List.map_map]
  apply List.map_congr_left
  intro j _
  simp only [Function.comp]
  by_cases h2 : j < zs.length
  · rw [if_pos h2, if_pos (by omega)]
  · rw [if_neg h2, if_neg (by omega)]
theorem partsL_list (zs : List Int) (js : List (Int × Int)) (turn : Int) : (partsL zs js turn).map (Value.int .i64) = [.int .i64 (dg (partsL zs js turn) 0), .int .i64 (dg (partsL zs js turn) 1), .int .i64 (dg (partsL zs js turn) 2), .int .i64 (dg (partsL zs js turn) 3), .int .i64 (dg (partsL zs js turn) 4), .int .i64 (dg (partsL zs js turn) 5), .int .i64 (dg (partsL zs js turn) 6), .int .i64 (dg (partsL zs js turn) 7)] := rfl


theorem beyJ_mono {k f q1 q2 b : Int} (hj : okJ k f = true) (hb : 2 ≤ b ∧ b ≤ 100) (h0 : 0 ≤ q1) (h : q1 ≤ q2) (hq : q2 < b * 1000) : beyJ k f q1 b ≤ beyJ k f q2 b := by
  rcases okJ_out hj with ⟨rfl, rfl⟩ | ⟨rfl, f0, f1⟩
  · rw [beyJ_even, beyJ_even]
    exact Int.ediv_le_ediv (by omega) h
  · by_cases h1 : q1 < (b - 1) * 1000 + f
    · rw [beyJ_rest h1]
      exact (beyJ_bd hj hb ⟨by omega, hq⟩).1
    · have h2 : ¬ q2 < (b - 1) * 1000 + f := by omega
      rw [beyJ_late h1, beyJ_late h2]
      exact Int.ediv_le_ediv (by omega) (by omega)
theorem beyJ_nil {k f b : Int} (hj : okJ k f = true) (hb : 2 ≤ b ∧ b ≤ 100) : beyJ k f 0 b = 0 := by
  rcases okJ_out hj with ⟨rfl, rfl⟩ | ⟨rfl, f0, f1⟩
  · rw [beyJ_even]; simp
  · exact beyJ_rest (by omega)
theorem dgt_step (zs : List Int) (t c : Int) (k : Nat) (hs : 1 ≤ szL (zs.take k)) (hz : 2 ≤ zs[k]?.getD 0) : dgt zs (t + c * (szL (zs.take k) * zs[k]?.getD 0 * 1000)) k = dgt zs t k := by
  unfold dgt
  obtain ⟨s, hs'⟩ : ∃ s, s = szL (zs.take k) := ⟨_, rfl⟩
  obtain ⟨z, hz'⟩ : ∃ z, z = zs[k]?.getD 0 := ⟨_, rfl⟩
  rw [← hs'] at hs ⊢
  rw [← hz'] at hz ⊢
  have e1 : t + c * (s * z * 1000) = t + (c * z * s) * 1000 := by
    rw [show c * (s * z * 1000) = (c * z * s) * 1000 from by
      rw [← Int.mul_assoc, Int.mul_comm s z, ← Int.mul_assoc]]
  rw [e1, Int.add_mul_ediv_right _ _ (by decide), Int.add_mul_ediv_right _ _ (by omega), Int.add_mul_emod_self_right]
theorem pL_step {zs : List Int} {js : List (Int × Int)} (hin : inB zs zs.length) (h8 : zs.length ≤ 8) : ∀ (k : Nat), k < zs.length → ∀ (t c : Int), pL zs js (t + c * (szL (zs.take (k + 1)) * 1000)) k = pL zs js t k
  | 0, hk, t, c => by
    have hz := hin 0 hk
    have hs : 1 ≤ szL (zs.take 0) := (szL_bd zs 0 (Nat.zero_le _) (inB_zero _)).1
    rw [szL_take zs 0 hk]
    simp only [pL]
    rw [dgt_step zs t c 0 hs hz.1]
    have e : (t + c * (szL (zs.take 0) * zs[0]?.getD 0 * 1000)) % 1000 = t % 1000 := by
      rw [← Int.mul_assoc, Int.add_mul_emod_self_right]
    rw [e]
  | k + 1, hk, t, c => by
    have hz := hin (k + 1) hk
    have hs : 1 ≤ szL (zs.take (k + 1)) := (szL_bd zs (k + 1) (by omega) (fun j hj => hin j (by omega))).1
    have ih := pL_step (js := js) hin h8 k (by omega) t (c * zs[k + 1]?.getD 0)
    rw [szL_take zs (k + 1) hk]
    simp only [pL]
    rw [dgt_step zs t c (k + 1) hs hz.1]
    have e : t + c * (szL (zs.take (k + 1)) * zs[k + 1]?.getD 0 * 1000) = t + c * zs[k + 1]?.getD 0 * (szL (zs.take (k + 1)) * 1000) := by
      rw [Int.mul_comm (szL (zs.take (k + 1))) (zs[k + 1]?.getD 0), Int.mul_assoc (zs[k + 1]?.getD 0), ← Int.mul_assoc c]
    rw [e, ih]
theorem pL_mono {zs : List Int} {js : List (Int × Int)} (hin : inB zs zs.length) (hj : ∀ j, j < js.length → okJ (jk js j) (jf js j) = true) (hl : js.length + 1 = zs.length) (h8 : zs.length ≤ 8) : ∀ (k : Nat), k < zs.length → ∀ (t1 t2 : Int), 0 ≤ t1 → t1 ≤ t2 → t2 < szL (zs.take (k + 1)) * 1000 → pL zs js t1 k ≤ pL zs js t2 k
  | 0, hk, t1, t2, h0, h1, h2 => by
    have hz := hin 0 hk
    rw [szL_take zs 0 hk, List.take_zero, szL_nil, Int.one_mul] at h2
    have e : ∀ t : Int, 0 ≤ t → t < zs[0]?.getD 0 * 1000 → pL zs js t 0 = t := fun t a b => by
      simp only [pL, dgt, List.take_zero, szL_nil, Int.ediv_one]
      rw [Int.emod_eq_of_lt (by omega) (by omega)]
      omega
    rw [e t1 h0 (by omega), e t2 (by omega) h2]
    exact h1
  | k + 1, hk, t1, t2, h0, h1, h2 => by
    have hz := hin (k + 1) hk
    have hzk := hin k (by omega)
    have hjk := hj k (by omega)
    have hs : 1 ≤ szL (zs.take (k + 1)) := (szL_bd zs (k + 1) (by omega) (fun j hj => hin j (by omega))).1
    rw [szL_take zs (k + 1) hk] at h2
    have ih := pL_mono (js := js) hin hj hl h8 k (by omega)
    have per := fun t c => pL_step (js := js) hin h8 k (by omega) t c
    have bd := fun t => pL_bd (turn := t) hin hj hl k (by omega)
    simp only [pL]
    obtain ⟨z, hz'⟩ : ∃ z, z = zs[k + 1]?.getD 0 := ⟨_, rfl⟩
    obtain ⟨Q, hQ⟩ : ∃ Q, Q = szL (zs.take (k + 1)) * 1000 := ⟨_, rfl⟩
    have Qp : 0 < Q := by omega
    have dd : ∀ t : Int, 0 ≤ t → t < Q * z → dgt zs t (k + 1) = t / Q := fun t a b => by
      unfold dgt
      rw [show t / 1000 / szL (zs.take (k + 1)) = t / (1000 * szL (zs.take (k + 1))) from by first | exact Int.ediv_ediv_of_nonneg (by decide) | exact Int.ediv_ediv_eq_ediv_mul _ (by decide) | (rw [Int.ediv_ediv]; simp), Int.mul_comm 1000, ← hQ, ← hz']
      refine Int.emod_eq_of_lt (Int.ediv_nonneg a (by omega)) ?_
      rw [Int.ediv_lt_iff_lt_mul Qp, Int.mul_comm]; exact b
    have h3 : t2 < Q * z := by
      rw [hQ, hz', Int.mul_assoc, Int.mul_comm 1000, ← Int.mul_assoc]; exact h2
    rw [dd t1 h0 (by omega), dd t2 (by omega) h3]
    have q1 := Int.emod_add_mul_ediv t1 Q
    have q2 := Int.emod_add_mul_ediv t2 Q
    have m1 := Int.emod_nonneg t1 (show Q ≠ 0 by omega)
    have m2 := Int.emod_nonneg t2 (show Q ≠ 0 by omega)
    have n1 := Int.emod_lt_of_pos t1 Qp
    have n2 := Int.emod_lt_of_pos t2 Qp
    have p1 : pL zs js t1 k = pL zs js (t1 % Q) k := by
      have := per (t1 % Q) (t1 / Q)
      rw [← hQ, Int.mul_comm, q1] at this
      exact this
    have p2 : pL zs js t2 k = pL zs js (t2 % Q) k := by
      have := per (t2 % Q) (t2 / Q)
      rw [← hQ, Int.mul_comm, q2] at this
      exact this
    have le : t1 / Q ≤ t2 / Q := Int.ediv_le_ediv Qp h1
    by_cases heq : t1 / Q = t2 / Q
    · rw [heq] at q1 ⊢
      have hle : t1 % Q ≤ t2 % Q := by omega
      have := ih (t1 % Q) (t2 % Q) m1 hle (by rw [← hQ]; exact n2)
      rw [p1, p2]
      have := beyJ_mono hjk hzk (bd (t1 % Q)).1 this (bd (t2 % Q)).2
      omega
    · have b1 := beyJ_bd hjk hzk (bd t1)
      have b2 := beyJ_bd hjk hzk (bd t2)
      omega
theorem pL_nil {zs : List Int} {js : List (Int × Int)} (hin : inB zs zs.length) (hj : ∀ j, j < js.length → okJ (jk js j) (jf js j) = true) (hl : js.length + 1 = zs.length) : ∀ (k : Nat), k < zs.length → pL zs js 0 k = 0
  | 0, _ => by simp [pL, dgt]
  | k + 1, hk => by
    simp only [pL]
    rw [pL_nil hin hj hl k (by omega), beyJ_nil (hj k (by omega)) (hin k (by omega))]
    simp [dgt]
/-- T is the first turn at which the wheel has moved -/
def fmIs (zs : List Int) (js : List (Int × Int)) (k : Nat) (T : Int) : Prop :=
  1 ≤ T ∧ T ≤ szL (zs.take k) * 1000 ∧ (∀ t, 0 ≤ t → t < T → pL zs js t k = 0) ∧ (∀ t, T ≤ t → t < szL (zs.take k) * 1000 → 0 < pL zs js t k)
theorem fm_ex {zs : List Int} {js : List (Int × Int)} (hin : inB zs zs.length) (hj : ∀ j, j < js.length → okJ (jk js j) (jf js j) = true) (hl : js.length + 1 = zs.length) (h8 : zs.length ≤ 8) (k : Nat) (hk : k < zs.length) : ∃ T, fmIs zs js k T := by
  have hs : 1 ≤ szL (zs.take k) := (szL_bd zs k (by omega) (fun j hj => hin j (by omega))).1
  have hz := hin k hk
  have mono := fun t1 t2 a b (c : t2 < szL (zs.take (k + 1)) * 1000) => pL_mono (js := js) hin hj hl h8 k hk t1 t2 a b c
  have s2 := szL_take zs k hk
  have s3 : szL (zs.take k) ≤ szL (zs.take (k + 1)) := by
    have := szL_mono zs k hk (fun j hj => hin j (by omega))
    omega
  have p0 := fun t => pL_bd (turn := t) hin hj hl k hk
  have ex : ∀ N : Nat, ∃ T : Nat, T ≤ N ∧ (∀ t : Int, 0 ≤ t → t < T → pL zs js t k = 0) ∧ (T < N → 0 < pL zs js T k) := fun N => by
    induction N with
    | zero => exact ⟨0, Nat.le_refl _, fun t a b => by omega, fun h => by omega⟩
    | succ N ih =>
      obtain ⟨T, h1, h2, h3⟩ := ih
      by_cases h : T < N
      · exact ⟨T, by omega, h2, fun _ => h3 h⟩
      · obtain rfl : T = N := by omega
        by_cases hp : pL zs js (T : Int) k = 0
        · refine ⟨T + 1, Nat.le_refl _, fun t a b => ?_, fun h => by omega⟩
          by_cases e : t = (T : Int)
          · rw [e]; exact hp
          · exact h2 t a (by omega)
        · exact ⟨T, by omega, h2, fun _ => by have := (p0 (T : Int)).1; omega⟩
  obtain ⟨T, h1, h2, h3⟩ := ex (szL (zs.take k) * 1000).toNat
  have hP : ((szL (zs.take k) * 1000).toNat : Int) = szL (zs.take k) * 1000 := Int.toNat_of_nonneg (by omega)
  have h4 : (T : Int) ≤ szL (zs.take k) * 1000 := by omega
  have h0 := pL_nil (js := js) hin hj hl k hk
  refine ⟨T, ?_, h4, h2, fun t a b => ?_⟩
  · by_cases e : T = 0
    · subst e
      have := h3 (by omega)
      have h0' : pL zs js ((0 : Nat) : Int) k = 0 := h0
      omega
    · omega
  · have := mono T t (by omega) a (by omega)
    have := h3 (by omega)
    omega
noncomputable def fmT (zs : List Int) (js : List (Int × Int)) (k : Nat) : Int := Classical.epsilon (fmIs zs js k)
theorem fm_spec {zs : List Int} {js : List (Int × Int)} (hv : okM zs js = true) (k : Nat) (hk : k < zs.length) : fmIs zs js k (fmT zs js k) := by
  obtain ⟨hv1, hl, hj⟩ := okM_out hv
  obtain ⟨h1, h8, hin, _, _⟩ := okL_out hv1
  exact Classical.epsilon_spec (fm_ex hin (fun j h => okJs_out hj j h) hl h8 k hk)
noncomputable def fmR (zs : List Int) (js : List (Int × Int)) (y : Int) : Int × Int :=
  if okM zs js then (if 0 ≤ y ∧ y < zs.length then (fmT zs js y.toNat, 0) else (0, 2)) else (0, 1)
theorem fmR_no {zs : List Int} {js : List (Int × Int)} {y : Int} (h : okM zs js = false) : fmR zs js y = (0, 1) := by simp [fmR, h]
theorem fmR_out {zs : List Int} {js : List (Int × Int)} {y : Int} (h : okM zs js = true) (k : ¬ (0 ≤ y ∧ y < zs.length)) : fmR zs js y = (0, 2) := by unfold fmR; rw [if_pos h, if_neg k]
theorem fmR_yes {zs : List Int} {js : List (Int × Int)} {k : Nat} (h : okM zs js = true) (hk : k < zs.length) : fmR zs js k = (fmT zs js k, 0) := by unfold fmR; rw [if_pos h, if_pos ⟨by omega, by omega⟩, Int.toNat_natCast]
set_option maxRecDepth 100000 in
set_option maxHeartbeats 1000000 in
theorem moRight_any (b n cap g m cap' : Nat) (zs : List Int) (js : List (Int × Int)) (turn : Int) (w : World) (hS : Stk w b zs) (hn : n = zs.length) (hv : okL zs = true) (ht : 0 ≤ turn ∧ turn ≤ 1000000000000000) :
    Calls Try.prog 55 #[.agg #[.slice (some ⟨b, 0, none⟩) n cap, .slice (some ⟨g, 0, none⟩) m cap'], .int .i64 turn] w fun e w' => e = .returned (.agg #[.int .u8 (dg (dgL zs (turn / 1000)) 0), .int .u8 (dg (dgL zs (turn / 1000)) 1), .int .u8 (dg (dgL zs (turn / 1000)) 2), .int .u8 (dg (dgL zs (turn / 1000)) 3), .int .u8 (dg (dgL zs (turn / 1000)) 4), .int .u8 (dg (dgL zs (turn / 1000)) 5), .int .u8 (dg (dgL zs (turn / 1000)) 6), .int .u8 (dg (dgL zs (turn / 1000)) 7)]) ∧ Below w.heap.size w w' := by
  have bel : Below w.heap.size w ((w.alloc (.cells #[.slice (some ⟨b, 0, none⟩) n cap, .slice (some ⟨g, 0, none⟩) m cap'] 35)).alloc (.cells #[.int .u8 0, .int .u8 0, .int .u8 0, .int .u8 0, .int .u8 0, .int .u8 0, .int .u8 0, .int .u8 0] 29)) := ((Below.refl _ w).alloc (Nat.le_refl _) _).alloc (by simp) _
  have rR' := Row.new (w.alloc (.cells #[.slice (some ⟨b, 0, none⟩) n cap, .slice (some ⟨g, 0, none⟩) m cap'] 35)) 29 [.int .u8 0, .int .u8 0, .int .u8 0, .int .u8 0, .int .u8 0, .int .u8 0, .int .u8 0, .int .u8 0]
  simp only [World.size_alloc] at rR'
  have rR := hid rR'
  have t0 := Int.ediv_nonneg ht.1 (show (0 : Int) ≤ 1000 by decide)
  have t1 : turn / 1000 ≤ 1000000000000 := by omega
  have HD := hid (digits_any b n cap zs hn hv (turn / 1000) t0 t1 ((w.alloc (.cells #[.slice (some ⟨b, 0, none⟩) n cap, .slice (some ⟨g, 0, none⟩) m cap'] 35)).alloc (.cells #[.int .u8 0, .int .u8 0, .int .u8 0, .int .u8 0, .int .u8 0, .int .u8 0, .int .u8 0, .int .u8 0] 29)) (hS.below bel hS.1))
  obtain ⟨e0, he0⟩ : ∃ x, x = dg (dgL zs (turn / 1000)) 0 := ⟨_, rfl⟩
  obtain ⟨e1, he1⟩ : ∃ x, x = dg (dgL zs (turn / 1000)) 1 := ⟨_, rfl⟩
  obtain ⟨e2, he2⟩ : ∃ x, x = dg (dgL zs (turn / 1000)) 2 := ⟨_, rfl⟩
  obtain ⟨e3, he3⟩ : ∃ x, x = dg (dgL zs (turn / 1000)) 3 := ⟨_, rfl⟩
  obtain ⟨e4, he4⟩ : ∃ x, x = dg (dgL zs (turn / 1000)) 4 := ⟨_, rfl⟩
  obtain ⟨e5, he5⟩ : ∃ x, x = dg (dgL zs (turn / 1000)) 5 := ⟨_, rfl⟩
  obtain ⟨e6, he6⟩ : ∃ x, x = dg (dgL zs (turn / 1000)) 6 := ⟨_, rfl⟩
  obtain ⟨e7, he7⟩ : ∃ x, x = dg (dgL zs (turn / 1000)) 7 := ⟨_, rfl⟩
  rw [← he0, ← he1, ← he2, ← he3, ← he4, ← he5, ← he6, ← he7] at HD
  rw [← he0, ← he1, ← he2, ← he3, ← he4, ← he5, ← he6, ← he7]
  obtain ⟨h1, h2⟩ := ht
  clear hS hn hv rR' he0 he1 he2 he3 he4 he5 he6 he7
  go_enter Try.func55, Try.ntmps55
  go_wp2_with fail
  refine HD.out.mono ?_
  rintro e w1 ⟨rfl, hB1⟩
  have hz1 := hB1.size
  simp only [World.size_alloc] at hB1 hz1
  have r1 := (rR.out.below hB1 (by omega))
  have g0 := r1.cell 0; have k0 := r1.frozen 0; have g1 := r1.cell 1; have k1 := r1.frozen 1; have g2 := r1.cell 2; have k2 := r1.frozen 2; have g3 := r1.cell 3; have k3 := r1.frozen 3; have g4 := r1.cell 4; have k4 := r1.frozen 4; have g5 := r1.cell 5; have k5 := r1.frozen 5; have g6 := r1.cell 6; have k6 := r1.frozen 6; have g7 := r1.cell 7; have k7 := r1.frozen 7
  simp only [List.getElem?_cons_zero, List.getElem?_cons_succ] at g0 g1 g2 g3 g4 g5 g6 g7
  have r2 := hid (r1.set8 rfl (.int .u8 e0) (.int .u8 e1) (.int .u8 e2) (.int .u8 e3) (.int .u8 e4) (.int .u8 e5) (.int .u8 e6) (.int .u8 e7))
  have b2 := hid (below_set8 (g := w.heap.size + 1) (bel.trans (hB1.mono (by omega))) (by omega) (.int .u8 e0) (.int .u8 e1) (.int .u8 e2) (.int .u8 e3) (.int .u8 e4) (.int .u8 e5) (.int .u8 e6) (.int .u8 e7))
  clear r1
  go_wp2_with fail
  clear g0 k0 g1 k1 g2 k2 g3 k3 g4 k4 g5 k5 g6 k6 g7 k7
  obtain ⟨W, hW⟩ : ∃ W, W = ((((((((w1.setCell ⟨w.heap.size + 1, 0, none⟩ (.int .u8 e0)).setCell ⟨w.heap.size + 1, 1, none⟩ (.int .u8 e1)).setCell ⟨w.heap.size + 1, 2, none⟩ (.int .u8 e2)).setCell ⟨w.heap.size + 1, 3, none⟩ (.int .u8 e3)).setCell ⟨w.heap.size + 1, 4, none⟩ (.int .u8 e4)).setCell ⟨w.heap.size + 1, 5, none⟩ (.int .u8 e5)).setCell ⟨w.heap.size + 1, 6, none⟩ (.int .u8 e6)).setCell ⟨w.heap.size + 1, 7, none⟩ (.int .u8 e7)) := ⟨_, rfl⟩
  rw [← hW] at r2 b2 ⊢
  clear hW
  have r2 := r2.out
  have g0 := r2.cell 0; have g1 := r2.cell 1; have g2 := r2.cell 2; have g3 := r2.cell 3; have g4 := r2.cell 4; have g5 := r2.cell 5; have g6 := r2.cell 6; have g7 := r2.cell 7
  simp only [List.getElem?_cons_zero, List.getElem?_cons_succ] at g0 g1 g2 g3 g4 g5 g6 g7
  exact bodyPost_ret (v := .agg #[.int .u8 e0, .int .u8 e1, .int .u8 e2, .int .u8 e3, .int .u8 e4, .int .u8 e5, .int .u8 e6, .int .u8 e7]) (by simp [results, Try.results55, go_sem, g0, g1, g2, g3, g4, g5, g6, g7]) rfl ⟨rfl, b2.out⟩


end Go.Proofs.Ytkgldcjbaghapaa
