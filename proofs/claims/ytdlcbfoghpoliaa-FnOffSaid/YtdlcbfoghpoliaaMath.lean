/- Plain mathematics of stacks of wheels: sizes, places, values, digits. No program in it. -/
import Derived.Below
import Derived.IntWalk
namespace Go.Proofs.Ytdlcbfoghpoliaa
open Go.RowKit

theorem hid {p : Prop} (h : p) : Hid p := h

/-- the product of all bases -/
def szL (zs : List Int) : Int := zs.foldl (· * ·) 1
def okL (zs : List Int) : Bool := decide (1 ≤ zs.length ∧ zs.length ≤ 8 ∧ (∀ z ∈ zs, 2 ≤ z ∧ z ≤ 100) ∧ szL zs ≤ 1000000000000)

theorem szL_nil : szL [] = 1 := rfl
theorem szL_snoc (zs : List Int) (z : Int) : szL (zs ++ [z]) = szL zs * z := by simp [szL]
theorem take_snoc' (zs : List Int) (k : Nat) (h : k < zs.length) : zs.take (k + 1) = zs.take k ++ [zs[k]?.getD 0] := by
  rw [List.take_succ_eq_append_getElem h]; simp [h]
theorem szL_take (zs : List Int) (k : Nat) (h : k < zs.length) : szL (zs.take (k + 1)) = szL (zs.take k) * (zs[k]?.getD 0) := by
  rw [take_snoc' zs k h, szL_snoc]
/-- each of the first k bases lies within its bounds -/
def inB (zs : List Int) (k : Nat) : Prop := ∀ j, j < k → 2 ≤ zs[j]?.getD 0 ∧ zs[j]?.getD 0 ≤ 100
theorem inB_zero (zs : List Int) : inB zs 0 := fun j h => by omega
theorem inB_succ {zs : List Int} {k : Nat} (h : inB zs k) (h2 : 2 ≤ zs[k]?.getD 0) (h3 : zs[k]?.getD 0 ≤ 100) : inB zs (k + 1) := fun j hj => by
  by_cases e : j = k
  · subst e; exact ⟨h2, h3⟩
  · exact h j (by omega)
theorem inB_mem {zs : List Int} (h : inB zs zs.length) : ∀ z ∈ zs, 2 ≤ z ∧ z ≤ 100 := fun z hz => by
  obtain ⟨j, hj, rfl⟩ := List.mem_iff_getElem.1 hz
  have := h j hj
  simpa [hj] using this
theorem mem_inB {zs : List Int} (h : ∀ z ∈ zs, 2 ≤ z ∧ z ≤ 100) (k : Nat) (hk : k ≤ zs.length) : inB zs k := fun j hj => by
  have hj' : j < zs.length := by omega
  have := h zs[j] (List.getElem_mem hj')
  simpa [hj'] using this
theorem pow_bd : ∀ (k : Nat), k ≤ 8 → (100 : Int) ^ k ≤ 10000000000000000
  | 0, _ => by decide
  | 1, _ => by decide
  | 2, _ => by decide
  | 3, _ => by decide
  | 4, _ => by decide
  | 5, _ => by decide
  | 6, _ => by decide
  | 7, _ => by decide
  | 8, _ => by decide
  | n + 9, h => by omega
theorem szL_bd (zs : List Int) : ∀ (k : Nat), k ≤ zs.length → inB zs k → 1 ≤ szL (zs.take k) ∧ szL (zs.take k) ≤ 100 ^ k
  | 0, _, _ => by simp [szL]
  | k + 1, hk, h => by
    have ih := szL_bd zs k (by omega) (fun j hj => h j (by omega))
    have hz := h k (by omega)
    rw [szL_take zs k (by omega)]
    obtain ⟨p, hp⟩ : ∃ p, p = szL (zs.take k) := ⟨_, rfl⟩
    obtain ⟨z, hz'⟩ : ∃ z, z = zs[k]?.getD 0 := ⟨_, rfl⟩
    rw [← hp] at ih; rw [← hz'] at hz; rw [← hp, ← hz']
    refine ⟨?_, ?_⟩
    · have : 1 * 1 ≤ p * z := Int.mul_le_mul ih.1 (by omega) (by omega) (by omega)
      omega
    · rw [Int.pow_succ]
      exact Int.mul_le_mul ih.2 hz.2 (by omega) (by have := ih.1; omega)
theorem szL_mono (zs : List Int) (k : Nat) (hk : k < zs.length) (h : inB zs (k + 1)) : 2 * szL (zs.take k) ≤ szL (zs.take (k + 1)) := by
  have ih := szL_bd zs k (by omega) (fun j hj => h j (by omega))
  rw [szL_take zs k hk]
  have hz := h k (by omega)
  have : szL (zs.take k) * 2 ≤ szL (zs.take k) * zs[k]?.getD 0 := Int.mul_le_mul_of_nonneg_left hz.1 (by omega)
  omega
/-- the bounds of a product that the walk wants -/
theorem szL_step (zs : List Int) (k : Nat) (hk : k < zs.length) (h8 : zs.length ≤ 8) (h : inB zs (k + 1)) :
    1 ≤ szL (zs.take k) ∧ szL (zs.take k) ≤ 10000000000000000 ∧ 1 ≤ szL (zs.take k) * zs[k]?.getD 0 ∧ szL (zs.take k) * zs[k]?.getD 0 ≤ 10000000000000000 := by
  have a := szL_bd zs k (by omega) (fun j hj => h j (by omega))
  have b := szL_bd zs (k + 1) (by omega) h
  rw [szL_take zs k hk] at b
  have p1 := pow_bd k (by omega)
  have p2 := pow_bd (k + 1) (by omega)
  exact ⟨a.1, Int.le_trans a.2 p1, b.1, Int.le_trans b.2 p2⟩
theorem okL_len0 (zs : List Int) (h : zs.length < 1) : okL zs = false := by simp [okL]; omega
theorem okL_len9 (zs : List Int) (h : 8 < zs.length) : okL zs = false := by simp [okL]; omega
theorem okL_low (zs : List Int) (k : Nat) (hk : k < zs.length) (h : zs[k]?.getD 0 < 2) : okL zs = false := by
  simp only [okL, decide_eq_false_iff_not, not_and]
  intro _ _ hall
  have := hall zs[k] (List.getElem_mem hk)
  simp [hk] at h
  omega
theorem okL_high (zs : List Int) (k : Nat) (hk : k < zs.length) (h : 100 < zs[k]?.getD 0) : okL zs = false := by
  simp only [okL, decide_eq_false_iff_not, not_and]
  intro _ _ hall
  have := hall zs[k] (List.getElem_mem hk)
  simp [hk] at h
  omega
theorem okL_end (zs : List Int) (h1 : 1 ≤ zs.length) (h8 : zs.length ≤ 8) (h : inB zs zs.length) : okL zs = decide (szL zs ≤ 1000000000000) := by
  simp only [okL]
  have := inB_mem h
  by_cases hs : szL zs ≤ 1000000000000
  · simp only [hs, decide_true, decide_eq_true_eq]; exact ⟨h1, h8, this, trivial⟩
  · simp [hs]
/-- what okL says -/
theorem okL_out {zs : List Int} (h : okL zs = true) : 1 ≤ zs.length ∧ zs.length ≤ 8 ∧ inB zs zs.length ∧ 1 ≤ szL zs ∧ szL zs ≤ 1000000000000 := by
  simp only [okL, decide_eq_true_eq] at h
  obtain ⟨h1, h8, hall, hs⟩ := h
  have hi := mem_inB hall zs.length (Nat.le_refl _)
  have := szL_bd zs zs.length (Nat.le_refl _) hi
  rw [List.take_length] at this
  exact ⟨h1, h8, hi, this.1, hs⟩

/-! ### digits: a list of eight numbers -/
/-- the digits of the wheels are less than their bases, all others are 0 -/
def okTo (zs ds : List Int) (k : Nat) : Prop := ∀ j, j < k → (j < zs.length → ds[j]?.getD 0 < zs[j]?.getD 0) ∧ (zs.length ≤ j → ds[j]?.getD 0 = 0)
def okD (zs ds : List Int) : Bool := (List.range 8).all fun j => if j < zs.length then decide (ds[j]?.getD 0 < zs[j]?.getD 0) else decide (ds[j]?.getD 0 = 0)
def okV (zs ds : List Int) : Bool := okL zs && okD zs ds
theorem okTo_zero (zs ds : List Int) : okTo zs ds 0 := fun j h => by omega
theorem okTo_low {zs ds : List Int} {k : Nat} (h : okTo zs ds k) (hk : k < zs.length) (e : ds[k]?.getD 0 < zs[k]?.getD 0) : okTo zs ds (k + 1) := fun j hj => by
  by_cases h' : j = k
  · subst h'; exact ⟨fun _ => e, fun h2 => by omega⟩
  · exact h j (by omega)
theorem okTo_high {zs ds : List Int} {k : Nat} (h : okTo zs ds k) (hk : zs.length ≤ k) (e : ds[k]?.getD 0 = 0) : okTo zs ds (k + 1) := fun j hj => by
  by_cases h' : j = k
  · subst h'; exact ⟨fun _ => by omega, fun _ => e⟩
  · exact h j (by omega)
theorem okD_of {zs ds : List Int} (h : okTo zs ds 8) : okD zs ds = true := by
  simp only [okD, List.all_eq_true, List.mem_range]
  intro j hj
  have := h j hj
  split
  · simp [this.1 (by assumption)]
  · simp [this.2 (by omega)]
theorem okD_out {zs ds : List Int} (h : okD zs ds = true) : okTo zs ds 8 := by
  simp only [okD, List.all_eq_true, List.mem_range] at h
  intro j hj
  have := h j hj
  by_cases h' : j < zs.length
  · rw [if_pos h'] at this
    exact ⟨fun _ => by simpa using this, fun h2 => by omega⟩
  · rw [if_neg h'] at this
    exact ⟨fun h2 => absurd h2 h', fun _ => by simpa using this⟩
theorem okD_low {zs ds : List Int} (k : Nat) (hk : k < 8) (hz : k < zs.length) (e : zs[k]?.getD 0 ≤ ds[k]?.getD 0) : okD zs ds = false := by
  cases h : okD zs ds with
  | false => rfl
  | true => have := (okD_out h k hk).1 hz; omega
theorem okD_high {zs ds : List Int} (k : Nat) (hk : k < 8) (hz : zs.length ≤ k) (e : ds[k]?.getD 0 ≠ 0) : okD zs ds = false := by
  cases h : okD zs ds with
  | false => rfl
  | true => have := (okD_out h k hk).2 hz; exact absurd this e
theorem okV_no {zs ds : List Int} (h : okL zs = false) : okV zs ds = false := by simp [okV, h]
theorem okV_yes {zs ds : List Int} (h : okL zs = true) : okV zs ds = okD zs ds := by simp [okV, h]
theorem okV_out {zs ds : List Int} (h : okV zs ds = true) : okL zs = true ∧ okD zs ds = true := by simpa [okV] using h

/-! ### values -/
def valL (zs ds : List Int) : Nat → Int
  | 0 => 0
  | k + 1 => valL zs ds k + ds[k]?.getD 0 * szL (zs.take k)
/-- the digits of the first k wheels are less than their bases -/
def ltTo (zs ds : List Int) (k : Nat) : Prop := ∀ j, j < k → 0 ≤ ds[j]?.getD 0 ∧ ds[j]?.getD 0 < zs[j]?.getD 0
theorem valL_bd (zs ds : List Int) : ∀ k, k ≤ zs.length → inB zs k → ltTo zs ds k → 0 ≤ valL zs ds k ∧ valL zs ds k < szL (zs.take k)
  | 0, _, _, _ => by simp [valL, szL]
  | k + 1, hk, hi, hl => by
    have ih := valL_bd zs ds k (by omega) (fun j hj => hi j (by omega)) (fun j hj => hl j (by omega))
    have hs := (szL_bd zs k (by omega) (fun j hj => hi j (by omega))).1
    have hd := hl k (by omega)
    rw [szL_take zs k (by omega)]
    simp only [valL]
    obtain ⟨p, hp⟩ : ∃ p, p = szL (zs.take k) := ⟨_, rfl⟩
    obtain ⟨z, hz⟩ : ∃ z, z = zs[k]?.getD 0 := ⟨_, rfl⟩
    obtain ⟨d, hd'⟩ : ∃ d, d = ds[k]?.getD 0 := ⟨_, rfl⟩
    rw [← hp] at ih hs; rw [← hz, ← hd'] at hd; rw [← hp, ← hz, ← hd']
    have h1 : 0 ≤ d * p := Int.mul_nonneg hd.1 (by omega)
    have h2 : (d + 1) * p ≤ z * p := Int.mul_le_mul_of_nonneg_right (by omega) (by omega)
    rw [Int.add_mul, Int.one_mul] at h2
    rw [Int.mul_comm p z]
    omega
/-- the bounds that a sum over the places wants -/
theorem valL_step (zs ds : List Int) (k : Nat) (hk : k < zs.length) (h8 : zs.length ≤ 8) (hi : inB zs (k + 1)) (hl : ltTo zs ds (k + 1)) :
    0 ≤ ds[k]?.getD 0 * szL (zs.take k) ∧ ds[k]?.getD 0 * szL (zs.take k) ≤ 10000000000000000 ∧ 0 ≤ valL zs ds k ∧ valL zs ds k ≤ 10000000000000000 ∧ valL zs ds (k + 1) ≤ 10000000000000000 := by
  have a := valL_bd zs ds k (by omega) (fun j hj => hi j (by omega)) (fun j hj => hl j (by omega))
  have b := valL_bd zs ds (k + 1) (by omega) hi hl
  have c := szL_step zs k hk h8 hi
  rw [szL_take zs k hk] at b
  have hs := (szL_bd zs k (by omega) (fun j hj => hi j (by omega))).1
  have h1 : 0 ≤ ds[k]?.getD 0 * szL (zs.take k) := Int.mul_nonneg (hl k (by omega)).1 (by omega)
  have e : valL zs ds (k + 1) = valL zs ds k + ds[k]?.getD 0 * szL (zs.take k) := rfl
  omega
/-- the sum that a walk over the wheels comes to, wraps and all -/
def vfold {n : Nat} (zs ds : List Int) (pre : List (Fin n)) : Int := pre.foldl (fun s x => wrap64 (s + ds[x.1]?.getD 0 * szL (zs.take x.1))) 0
theorem vfold_snoc {n : Nat} (zs ds : List Int) (pre : List (Fin n)) (x : Fin n) : vfold zs ds (pre ++ [x]) = wrap64 (vfold zs ds pre + ds[x.1]?.getD 0 * szL (zs.take x.1)) := by simp [vfold]
theorem finTake_succ (n k : Nat) (hk : k < n) : (List.finRange n).take (k + 1) = (List.finRange n).take k ++ [⟨k, hk⟩] := by
  rw [List.take_succ_eq_append_getElem (by simpa using hk)]
  simp
theorem finTake_length (n k : Nat) (hk : k ≤ n) : ((List.finRange n).take k).length = k := by simp [hk]
theorem finTake_all (n : Nat) : (List.finRange n).take n = List.finRange n := List.take_of_length_le (by simp)
theorem vfold_take {n : Nat} (zs ds : List Int) (hn : n ≤ zs.length) (h8 : zs.length ≤ 8) (hi : inB zs n) (hl : ltTo zs ds n) : ∀ k, k ≤ n → vfold zs ds ((List.finRange n).take k) = valL zs ds k
  | 0, _ => rfl
  | k + 1, hk => by
    rw [finTake_succ n k (by omega), vfold_snoc, vfold_take zs ds hn h8 hi hl k (by omega)]
    have b := valL_step zs ds k (by omega) h8 (fun j hj => hi j (by omega)) (fun j hj => hl j (by omega))
    show wrap64 (valL zs ds k + ds[k]?.getD 0 * szL (zs.take k)) = valL zs ds (k + 1)
    have e : valL zs ds (k + 1) = valL zs ds k + ds[k]?.getD 0 * szL (zs.take k) := rfl
    rw [e]
    exact IntWalk.wrap64_in _ ⟨by omega, by omega⟩
theorem vfold_all {n : Nat} (zs ds : List Int) (hn : n ≤ zs.length) (h8 : zs.length ≤ 8) (hi : inB zs n) (hl : ltTo zs ds n) : vfold zs ds (List.finRange n) = valL zs ds n := by
  have := vfold_take zs ds hn h8 hi hl n (Nat.le_refl _)
  rwa [finTake_all] at this
theorem okD_lt {zs ds : List Int} (h : okD zs ds = true) (h8 : zs.length ≤ 8) (hd : ∀ j, j < 8 → 0 ≤ ds[j]?.getD 0) : ltTo zs ds zs.length := fun j hj =>
  ⟨hd j (by omega), (okD_out h j (by omega)).1 hj⟩

/-! ### the digits of a value -/
def dgL (zs : List Int) (v : Int) : List Int := (List.range 8).map fun k => if k < zs.length then v / szL (zs.take k) % zs[k]?.getD 0 else 0
theorem dgL_get (zs : List Int) (v : Int) (k : Nat) (hk : k < 8) : (dgL zs v)[k]?.getD 0 = if k < zs.length then v / szL (zs.take k) % zs[k]?.getD 0 else 0 := by simp [dgL, hk]
theorem dgL_len (zs : List Int) (v : Int) : (dgL zs v).length = 8 := by simp [dgL]
theorem dgL_bd (zs : List Int) (v : Int) (hz : inB zs zs.length) (k : Nat) (hk : k < 8) : 0 ≤ (dgL zs v)[k]?.getD 0 ∧ (dgL zs v)[k]?.getD 0 ≤ 99 := by
  rw [dgL_get zs v k hk]
  split
  · have := hz k (by assumption)
    have h1 := Int.emod_nonneg (v / szL (zs.take k)) (show zs[k]?.getD 0 ≠ 0 by omega)
    have h2 := Int.emod_lt_of_pos (v / szL (zs.take k)) (show 0 < zs[k]?.getD 0 by omega)
    omega
  · omega
theorem dgL_okD (zs : List Int) (v : Int) (hz : inB zs zs.length) : okD zs (dgL zs v) = true := okD_of fun k hk => by
  rw [dgL_get zs v k hk]
  refine ⟨fun h => ?_, fun h => by rw [if_neg (by omega)]⟩
  rw [if_pos h]
  have := hz k h
  exact Int.emod_lt_of_pos _ (by omega)

/-! ### writing the digits, wheel by wheel -/
def dg (l : List Int) (i : Nat) : Int := l[i]?.getD 0
def zero8 : List Value := [.int .u8 0, .int .u8 0, .int .u8 0, .int .u8 0, .int .u8 0, .int .u8 0, .int .u8 0, .int .u8 0]
def dset (zs : List Int) (v : Int) (l : List Value) (k : Nat) : List Value := l.set k (.int .u8 (v / szL (zs.take k) % zs[k]?.getD 0))
def dfold {n : Nat} (zs : List Int) (v : Int) (pre : List (Fin n)) : List Value := pre.foldl (fun l x => dset zs v l x.1) zero8
theorem dfold_snoc {n : Nat} (zs : List Int) (v : Int) (pre : List (Fin n)) (x : Fin n) : dfold zs v (pre ++ [x]) = (dfold zs v pre).set x.1 (.int .u8 (v / szL (zs.take x.1) % zs[x.1]?.getD 0)) := by simp [dfold, dset]
theorem dfold_len {n : Nat} (zs : List Int) (v : Int) (pre : List (Fin n)) : (dfold zs v pre).length = 8 := by
  have key : ∀ (pre : List (Fin n)) (l : List Value), l.length = 8 → (pre.foldl (fun l x => dset zs v l x.1) l).length = 8 := by
    intro pre
    induction pre with
    | nil => intro l h; exact h
    | cons x xs ih => intro l h; exact ih _ (by simp [dset, h])
  exact key pre zero8 rfl
/-- what k wheels have made -/
def dto (zs : List Int) (v : Int) (k : Nat) : List Value := (List.range 8).map fun j => .int .u8 (if j < k then v / szL (zs.take j) % zs[j]?.getD 0 else 0)
theorem dto_succ (zs : List Int) (v : Int) (k : Nat) (hk : k < 8) : (dto zs v k).set k (.int .u8 (v / szL (zs.take k) % zs[k]?.getD 0)) = dto zs v (k + 1) := by
  apply List.ext_getElem?
  intro j
  simp only [dto, List.getElem?_set, List.getElem?_map, List.length_map, List.length_range]
  by_cases hj : k = j
  · subst hj
    simp [hk]
  · rw [if_neg hj]
    by_cases h8 : j < 8
    · simp only [List.getElem?_range h8, Option.map_some]
      by_cases h : j < k
      · rw [if_pos h, if_pos (by omega)]
      · rw [if_neg h, if_neg (by omega)]
    · simp [List.getElem?_eq_none (show (List.range 8).length ≤ j by simp; omega)]
theorem dto_zero (zs : List Int) (v : Int) : dto zs v 0 = zero8 := rfl
theorem dfold_take {n : Nat} (zs : List Int) (v : Int) (h8 : n ≤ 8) : ∀ k, k ≤ n → dfold zs v ((List.finRange n).take k) = dto zs v k
  | 0, _ => rfl
  | k + 1, hk => by
    rw [finTake_succ n k (by omega), dfold_snoc, dfold_take zs v h8 k (by omega)]
    exact dto_succ zs v k (by omega)
theorem dto_all (zs : List Int) (v : Int) : dto zs v zs.length = [.int .u8 (dg (dgL zs v) 0), .int .u8 (dg (dgL zs v) 1), .int .u8 (dg (dgL zs v) 2), .int .u8 (dg (dgL zs v) 3), .int .u8 (dg (dgL zs v) 4), .int .u8 (dg (dgL zs v) 5), .int .u8 (dg (dgL zs v) 6), .int .u8 (dg (dgL zs v) 7)] := by
  have e : ∀ k, k < 8 → dg (dgL zs v) k = if k < zs.length then v / szL (zs.take k) % zs[k]?.getD 0 else 0 := fun k hk => dgL_get zs v k hk
  rw [e 0 (by omega), e 1 (by omega), e 2 (by omega), e 3 (by omega), e 4 (by omega), e 5 (by omega), e 6 (by omega), e 7 (by omega)]
  rfl
theorem dfold_all {n : Nat} (zs : List Int) (v : Int) (hn : n = zs.length) (h8 : n ≤ 8) : dfold zs v (List.finRange n) = [.int .u8 (dg (dgL zs v) 0), .int .u8 (dg (dgL zs v) 1), .int .u8 (dg (dgL zs v) 2), .int .u8 (dg (dgL zs v) 3), .int .u8 (dg (dgL zs v) 4), .int .u8 (dg (dgL zs v) 5), .int .u8 (dg (dgL zs v) 6), .int .u8 (dg (dgL zs v) 7)] := by
  have := dfold_take zs v h8 n (Nat.le_refl _)
  rw [finTake_all] at this
  rw [this, hn, dto_all]
/-- a digit as the machine reckons it -/
theorem digit_raw (v p z : Int) (hv : 0 ≤ v) (hv2 : v ≤ 1000000000000) (hp : 1 ≤ p) (hz : 2 ≤ z) (hz2 : z ≤ 100) :
    IntKind.u8.wrap (IntKind.i64.wrap ((IntKind.i64.wrap (v.tdiv p)).tmod (IntKind.i64.wrap z))) = v / p % z := by
  have e1 : v.tdiv p = v / p := Int.tdiv_eq_ediv_of_nonneg hv
  have h0 : 0 ≤ v / p := Int.ediv_nonneg hv (by omega)
  have h1 : v / p ≤ v := Int.ediv_le_self _ hv
  rw [e1, IntWalk.i64_in (v / p) (by omega), IntWalk.i64_in z (by omega)]
  have e2 : (v / p).tmod z = v / p % z := Int.tmod_eq_emod_of_nonneg h0
  have h2 := Int.emod_nonneg (v / p) (show z ≠ 0 by omega)
  have h3 := Int.emod_lt_of_pos (v / p) (show 0 < z by omega)
  rw [e2, IntWalk.i64_in _ (by omega)]
  simp only [IntKind.wrap, IntKind.signed, IntKind.bits]
  simp
  omega
end Go.Proofs.Ytdlcbfoghpoliaa
