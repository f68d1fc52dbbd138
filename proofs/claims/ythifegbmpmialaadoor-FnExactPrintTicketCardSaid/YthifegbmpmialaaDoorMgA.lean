/- Texts of this seat, merged: Math Base Open Gcd Valid Ratio OpenR Dev Places Digits Value Sizes Count LawsD Vals Held DevV Floor. -/
import Derived.Below
import Derived.IntWalk
import Derived.Test.YthifegbmpmialaaDoorProg
import Derived.WalkKit
import Derived.WalkSpells
import Derived.WalkLawsBesides
import Derived.Deep.QuietTactic
import Derived.BigQuiet
import Derived.ProofKit
import Derived.OpenShut
import Derived.ShutString
import Derived.ChangeOld
import Derived.JoinedOf
import Derived.KernelRfl
import Derived.RegionTactic
import Derived.Deep.RegionWith
import Derived.Deep.RegionHeld3
import Derived.OrdersHeld
import Derived.Lib.SmallJoins
import Derived.Deep.Fields
import Derived.Deep.Slices
import Derived.Deep.DeepCutAuto
import Derived.RangeFuncNested
import Derived.RangeFuncBound
import Derived.RangeFuncCalls
import Derived.RangeFuncLeaves
import Derived.RangeFuncBox
import Derived.Shelf.Abstract
import Derived.Shelf.RegionOpen
import Derived.OwnWalkIn
import Derived.TacticsInMore
import Derived.LoopNIn
import Derived.LoopIn

namespace Go.Proofs.YthifegbmpmialaaDoor
open Go.RowKit

theorem hid {p : Prop} (h : p) : Hid p := h

/-- the product of all bases -/
def szL (zs : List Int) : Int := zs.foldl (· * ·) 1
def okL (zs : List Int) : Bool := decide (1 ≤ zs.length ∧ zs.length ≤ 8 ∧ (∀ z ∈ zs, 2 ≤ z ∧ z ≤ 100) ∧ szL zs ≤ 1000000000000)

theorem szL_nil : szL [] = 1 := rfl
theorem szL_snoc (zs : List Int) (z : Int) : szL (zs ++ [z]) = szL zs * z := by simp [szL]
theorem take_snoc' (zs : List Int) (k : Nat) (h : k < zs.length) : zs.take (k + 1) = zs.take k ++ [zs[k]?.getD 0] := by
  rw [List.take_succ_eq_append_getElem h]; simp [h]
theorem szL_take (zs : List Int) (k : Nat) (h : k < zs.length) : szL (zs.take (k + 1)) = szL (zs.take k) * (zs[k]?.getD 0) := by
  rw [take_snoc' zs k h, szL_snoc]
/-- each of the first k bases lies within its bounds -/
def inB (zs : List Int) (k : Nat) : Prop := ∀ j, j < k → 2 ≤ zs[j]?.getD 0 ∧ zs[j]?.getD 0 ≤ 100
theorem inB_zero (zs : List Int) : inB zs 0 := fun j h => by omega
theorem inB_succ {zs : List Int} {k : Nat} (h : inB zs k) (h2 : 2 ≤ zs[k]?.getD 0) (h3 : zs[k]?.getD 0 ≤ 100) : inB zs (k + 1) := fun j hj => by
  by_cases e : j = k
  · subst e; exact ⟨h2, h3⟩
  · exact h j (by omega)
theorem inB_mem {zs : List Int} (h : inB zs zs.length) : ∀ z ∈ zs, 2 ≤ z ∧ z ≤ 100 := fun z hz => by
  obtain ⟨j, hj, rfl⟩ := List.mem_iff_getElem.1 hz
  have := h j hj
  simpa [hj] using this
theorem mem_inB {zs : List Int} (h : ∀ z ∈ zs, 2 ≤ z ∧ z ≤ 100) (k : Nat) (hk : k ≤ zs.length) : inB zs k := fun j hj => by
  have hj' : j < zs.length := by omega
  have := h zs[j] (List.getElem_mem hj')
  simpa [hj'] using this
theorem pow_bd : ∀ (k : Nat), k ≤ 8 → (100 : Int) ^ k ≤ 10000000000000000
  | 0, _ => by decide
  | 1, _ => by decide
  | 2, _ => by decide
  | 3, _ => by decide
  | 4, _ => by decide
  | 5, _ => by decide
  | 6, _ => by decide
  | 7, _ => by decide
  | 8, _ => by decide
  | n + 9, h => by omega
theorem szL_bd (zs : List Int) : ∀ (k : Nat), k ≤ zs.length → inB zs k → 1 ≤ szL (zs.take k) ∧ szL (zs.take k) ≤ 100 ^ k
  | 0, _, _ => by simp [szL]
  | k + 1, hk, h => by
    have ih := szL_bd zs k (by omega) (fun j hj => h j (by omega))
    have hz := h k (by omega)
    rw [szL_take zs k (by omega)]
    obtain ⟨p, hp⟩ : ∃ p, p = szL (zs.take k) := ⟨_, rfl⟩
    obtain ⟨z, hz'⟩ : ∃ z, z = zs[k]?.getD 0 := ⟨_, rfl⟩
    rw [← hp] at ih; rw [← hz'] at hz; rw [← hp, ← hz']
    refine ⟨?_, ?_⟩
    · have : 1 * 1 ≤ p * z := Int.mul_le_mul ih.1 (by omega) (by omega) (by omega)
      omega
    · rw [Int.pow_succ]
      exact Int.mul_le_mul ih.2 hz.2 (by omega) (by have := ih.1; omega)
theorem szL_mono (zs : List Int) (k : Nat) (hk : k < zs.length) (h : inB zs (k + 1)) : 2 * szL (zs.take k) ≤ szL (zs.take (k + 1)) := by
  have ih := szL_bd zs k (by omega) (fun j hj => h j (by omega))
  rw [szL_take zs k hk]
  have hz := h k (by omega)
  have : szL (zs.take k) * 2 ≤ szL (zs.take k) * zs[k]?.getD 0 := Int.mul_le_mul_of_nonneg_left hz.1 (by omega)
  omega
/-- the bounds of a product that the walk wants -/
theorem szL_step (zs : List Int) (k : Nat) (hk : k < zs.length) (h8 : zs.length ≤ 8) (h : inB zs (k + 1)) :
    1 ≤ szL (zs.take k) ∧ szL (zs.take k) ≤ 10000000000000000 ∧ 1 ≤ szL (zs.take k) * zs[k]?.getD 0 ∧ szL (zs.take k) * zs[k]?.getD 0 ≤ 10000000000000000 := by
  have a := szL_bd zs k (by omega) (fun j hj => h j (by omega))
  have b := szL_bd zs (k + 1) (by omega) h
  rw [szL_take zs k hk] at b
  have p1 := pow_bd k (by omega)
  have p2 := pow_bd (k + 1) (by omega)
  exact ⟨a.1, Int.le_trans a.2 p1, b.1, Int.le_trans b.2 p2⟩
theorem okL_len0 (zs : List Int) (h : zs.length < 1) : okL zs = false := by simp [okL]; omega
theorem okL_len9 (zs : List Int) (h : 8 < zs.length) : okL zs = false := by simp [okL]; omega
theorem okL_low (zs : List Int) (k : Nat) (hk : k < zs.length) (h : zs[k]?.getD 0 < 2) : okL zs = false := by
  simp only [okL, decide_eq_false_iff_not, not_and]
  intro _ _ hall
  have := hall zs[k] (List.getElem_mem hk)
  simp [hk] at h
  omega
theorem okL_high (zs : List Int) (k : Nat) (hk : k < zs.length) (h : 100 < zs[k]?.getD 0) : okL zs = false := by
  simp only [okL, decide_eq_false_iff_not, not_and]
  intro _ _ hall
  have := hall zs[k] (List.getElem_mem hk)
  simp [hk] at h
  omega
theorem okL_end (zs : List Int) (h1 : 1 ≤ zs.length) (h8 : zs.length ≤ 8) (h : inB zs zs.length) : okL zs = decide (szL zs ≤ 1000000000000) := by
  simp only [okL]
  have := inB_mem h
  by_cases hs : szL zs ≤ 1000000000000
  · simp only [hs, decide_true, decide_eq_true_eq]; exact ⟨h1, h8, this, trivial⟩
  · simp [hs]
/-- what okL says -/
theorem okL_out {zs : List Int} (h : okL zs = true) : 1 ≤ zs.length ∧ zs.length ≤ 8 ∧ inB zs zs.length ∧ 1 ≤ szL zs ∧ szL zs ≤ 1000000000000 := by
  simp only [okL, decide_eq_true_eq] at h
  obtain ⟨h1, h8, hall, hs⟩ := h
  have hi := mem_inB hall zs.length (Nat.le_refl _)
  have := szL_bd zs zs.length (Nat.le_refl _) hi
  rw [List.take_length] at this
  exact ⟨h1, h8, hi, this.1, hs⟩

/-! ### digits: a list of eight numbers -/
/-- the digits of the wheels are less than their bases, all others are 0 -/
def okTo (zs ds : List Int) (k : Nat) : Prop := ∀ j, j < k → (j < zs.length → ds[j]?.getD 0 < zs[j]?.getD 0) ∧ (zs.length ≤ j → ds[j]?.getD 0 = 0)
def okD (zs ds : List Int) : Bool := (List.range 8).all fun j => if j < zs.length then decide (ds[j]?.getD 0 < zs[j]?.getD 0) else decide (ds[j]?.getD 0 = 0)
def okV (zs ds : List Int) : Bool := okL zs && okD zs ds
theorem okTo_zero (zs ds : List Int) : okTo zs ds 0 := fun j h => by omega
theorem okTo_low {zs ds : List Int} {k : Nat} (h : okTo zs ds k) (hk : k < zs.length) (e : ds[k]?.getD 0 < zs[k]?.getD 0) : okTo zs ds (k + 1) := fun j hj => by
  by_cases h' : j = k
  · subst h'; exact ⟨fun _ => e, fun h2 => by omega⟩
  · exact h j (by omega)
theorem okTo_high {zs ds : List Int} {k : Nat} (h : okTo zs ds k) (hk : zs.length ≤ k) (e : ds[k]?.getD 0 = 0) : okTo zs ds (k + 1) := fun j hj => by
  by_cases h' : j = k
  · subst h'; exact ⟨fun _ => by omega, fun _ => e⟩
  · exact h j (by omega)
theorem okD_of {zs ds : List Int} (h : okTo zs ds 8) : okD zs ds = true := by
  simp only [okD, List.all_eq_true, List.mem_range]
  intro j hj
  have := h j hj
  split
  · simp [this.1 (by assumption)]
  · simp [this.2 (by omega)]
theorem okD_out {zs ds : List Int} (h : okD zs ds = true) : okTo zs ds 8 := by
  simp only [okD, List.all_eq_true, List.mem_range] at h
  intro j hj
  have := h j hj
  by_cases h' : j < zs.length
  · rw [if_pos h'] at this
    exact ⟨fun _ => by simpa using this, fun h2 => by omega⟩
  · rw [if_neg h'] at this
    exact ⟨fun h2 => absurd h2 h', fun _ => by simpa using this⟩
theorem okD_low {zs ds : List Int} (k : Nat) (hk : k < 8) (hz : k < zs.length) (e : zs[k]?.getD 0 ≤ ds[k]?.getD 0) : okD zs ds = false := by
  cases h : okD zs ds with
  | false => rfl
  | true => have := (okD_out h k hk).1 hz; omega
theorem okD_high {zs ds : List Int} (k : Nat) (hk : k < 8) (hz : zs.length ≤ k) (e : ds[k]?.getD 0 ≠ 0) : okD zs ds = false := by
  cases h : okD zs ds with
  | false => rfl
  | true => have := (okD_out h k hk).2 hz; exact absurd this e
theorem okV_no {zs ds : List Int} (h : okL zs = false) : okV zs ds = false := by simp [okV, h]
theorem okV_yes {zs ds : List Int} (h : okL zs = true) : okV zs ds = okD zs ds := by simp [okV, h]
theorem okV_out {zs ds : List Int} (h : okV zs ds = true) : okL zs = true ∧ okD zs ds = true := by simpa [okV] using h

/-! ### values -/
def valL (zs ds : List Int) : Nat → Int
  | 0 => 0
  | k + 1 => valL zs ds k + ds[k]?.getD 0 * szL (zs.take k)
/-- the digits of the first k wheels are less than their bases -/
def ltTo (zs ds : List Int) (k : Nat) : Prop := ∀ j, j < k → 0 ≤ ds[j]?.getD 0 ∧ ds[j]?.getD 0 < zs[j]?.getD 0
theorem valL_bd (zs ds : List Int) : ∀ k, k ≤ zs.length → inB zs k → ltTo zs ds k → 0 ≤ valL zs ds k ∧ valL zs ds k < szL (zs.take k)
  | 0, _, _, _ => by simp [valL, szL]
  | k + 1, hk, hi, hl => by
    have ih := valL_bd zs ds k (by omega) (fun j hj => hi j (by omega)) (fun j hj => hl j (by omega))
    have hs := (szL_bd zs k (by omega) (fun j hj => hi j (by omega))).1
    have hd := hl k (by omega)
    rw [szL_take zs k (by omega)]
    simp only [valL]
    obtain ⟨p, hp⟩ : ∃ p, p = szL (zs.take k) := ⟨_, rfl⟩
    obtain ⟨z, hz⟩ : ∃ z, z = zs[k]?.getD 0 := ⟨_, rfl⟩
    obtain ⟨d, hd'⟩ : ∃ d, d = ds[k]?.getD 0 := ⟨_, rfl⟩
    rw [← hp] at ih hs; rw [← hz, ← hd'] at hd; rw [← hp, ← hz, ← hd']
    have h1 : 0 ≤ d * p := Int.mul_nonneg hd.1 (by omega)
    have h2 : (d + 1) * p ≤ z * p := Int.mul_le_mul_of_nonneg_right (by omega) (by omega)
    rw [Int.add_mul, Int.one_mul] at h2
    rw [Int.mul_comm p z]
    omega
/-- the bounds that a sum over the places wants -/
theorem valL_step (zs ds : List Int) (k : Nat) (hk : k < zs.length) (h8 : zs.length ≤ 8) (hi : inB zs (k + 1)) (hl : ltTo zs ds (k + 1)) :
    0 ≤ ds[k]?.getD 0 * szL (zs.take k) ∧ ds[k]?.getD 0 * szL (zs.take k) ≤ 10000000000000000 ∧ 0 ≤ valL zs ds k ∧ valL zs ds k ≤ 10000000000000000 ∧ valL zs ds (k + 1) ≤ 10000000000000000 := by
  have a := valL_bd zs ds k (by omega) (fun j hj => hi j (by omega)) (fun j hj => hl j (by omega))
  have b := valL_bd zs ds (k + 1) (by omega) hi hl
  have c := szL_step zs k hk h8 hi
  rw [szL_take zs k hk] at b
  have hs := (szL_bd zs k (by omega) (fun j hj => hi j (by omega))).1
  have h1 : 0 ≤ ds[k]?.getD 0 * szL (zs.take k) := Int.mul_nonneg (hl k (by omega)).1 (by omega)
  have e : valL zs ds (k + 1) = valL zs ds k + ds[k]?.getD 0 * szL (zs.take k) := rfl
  omega
/-- the sum that a walk over the wheels comes to, wraps and all -/
def vfold {n : Nat} (zs ds : List Int) (pre : List (Fin n)) : Int := pre.foldl (fun s x => wrap64 (s + ds[x.1]?.getD 0 * szL (zs.take x.1))) 0
theorem vfold_snoc {n : Nat} (zs ds : List Int) (pre : List (Fin n)) (x : Fin n) : vfold zs ds (pre ++ [x]) = wrap64 (vfold zs ds pre + ds[x.1]?.getD 0 * szL (zs.take x.1)) := by simp [vfold]
theorem finTake_succ (n k : Nat) (hk : k < n) : (List.finRange n).take (k + 1) = (List.finRange n).take k ++ [⟨k, hk⟩] := by
  rw [List.take_succ_eq_append_getElem (by simpa using hk)]
  simp
theorem finTake_length (n k : Nat) (hk : k ≤ n) : ((List.finRange n).take k).length = k := by simp [hk]
theorem finTake_all (n : Nat) : (List.finRange n).take n = List.finRange n := List.take_of_length_le (by simp)
theorem vfold_take {n : Nat} (zs ds : List Int) (hn : n ≤ zs.length) (h8 : zs.length ≤ 8) (hi : inB zs n) (hl : ltTo zs ds n) : ∀ k, k ≤ n → vfold zs ds ((List.finRange n).take k) = valL zs ds k
  | 0, _ => rfl
  | k + 1, hk => by
    rw [finTake_succ n k (by omega), vfold_snoc, vfold_take zs ds hn h8 hi hl k (by omega)]
    have b := valL_step zs ds k (by omega) h8 (fun j hj => hi j (by omega)) (fun j hj => hl j (by omega))
    show wrap64 (valL zs ds k + ds[k]?.getD 0 * szL (zs.take k)) = valL zs ds (k + 1)
    have e : valL zs ds (k + 1) = valL zs ds k + ds[k]?.getD 0 * szL (zs.take k) := rfl
    rw [e]
    exact IntWalk.wrap64_in _ ⟨by omega, by omega⟩
theorem vfold_all {n : Nat} (zs ds : List Int) (hn : n ≤ zs.length) (h8 : zs.length ≤ 8) (hi : inB zs n) (hl : ltTo zs ds n) : vfold zs ds (List.finRange n) = valL zs ds n := by
  have := vfold_take zs ds hn h8 hi hl n (Nat.le_refl _)
  rwa [finTake_all] at this
theorem okD_lt {zs ds : List Int} (h : okD zs ds = true) (h8 : zs.length ≤ 8) (hd : ∀ j, j < 8 → 0 ≤ ds[j]?.getD 0) : ltTo zs ds zs.length := fun j hj =>
  ⟨hd j (by omega), (okD_out h j (by omega)).1 hj⟩

/-! ### the digits of a value -/
def dgL (zs : List Int) (v : Int) : List Int := (List.range 8).map fun k => if k < zs.length then v / szL (zs.take k) % zs[k]?.getD 0 else 0
theorem dgL_get (zs : List Int) (v : Int) (k : Nat) (hk : k < 8) : (dgL zs v)[k]?.getD 0 = if k < zs.length then v / szL (zs.take k) % zs[k]?.getD 0 else 0 := by simp [dgL, hk]
theorem dgL_len (zs : List Int) (v : Int) : (dgL zs v).length = 8 := by simp [dgL]
theorem dgL_bd (zs : List Int) (v : Int) (hz : inB zs zs.length) (k : Nat) (hk : k < 8) : 0 ≤ (dgL zs v)[k]?.getD 0 ∧ (dgL zs v)[k]?.getD 0 ≤ 99 := by
  rw [dgL_get zs v k hk]
  split
  · have := hz k (by assumption)
    have h1 := Int.emod_nonneg (v / szL (zs.take k)) (show zs[k]?.getD 0 ≠ 0 by omega)
    have h2 := Int.emod_lt_of_pos (v / szL (zs.take k)) (show 0 < zs[k]?.getD 0 by omega)
    omega
  · omega
theorem dgL_okD (zs : List Int) (v : Int) (hz : inB zs zs.length) : okD zs (dgL zs v) = true := okD_of fun k hk => by
  rw [dgL_get zs v k hk]
  refine ⟨fun h => ?_, fun h => by rw [if_neg (by omega)]⟩
  rw [if_pos h]
  have := hz k h
  exact Int.emod_lt_of_pos _ (by omega)

/-! ### writing the digits, wheel by wheel -/
def dg (l : List Int) (i : Nat) : Int := l[i]?.getD 0
def zero8 : List Value := [.int .u8 0, .int .u8 0, .int .u8 0, .int .u8 0, .int .u8 0, .int .u8 0, .int .u8 0, .int .u8 0]
def dset (zs : List Int) (v : Int) (l : List Value) (k : Nat) : List Value := l.set k (.int .u8 (v / szL (zs.take k) % zs[k]?.getD 0))
def dfold {n : Nat} (zs : List Int) (v : Int) (pre : List (Fin n)) : List Value := pre.foldl (fun l x => dset zs v l x.1) zero8
theorem dfold_snoc {n : Nat} (zs : List Int) (v : Int) (pre : List (Fin n)) (x : Fin n) : dfold zs v (pre ++ [x]) = (dfold zs v pre).set x.1 (.int .u8 (v / szL (zs.take x.1) % zs[x.1]?.getD 0)) := by simp [dfold, dset]
theorem dfold_len {n : Nat} (zs : List Int) (v : Int) (pre : List (Fin n)) : (dfold zs v pre).length = 8 := by
  have key : ∀ (pre : List (Fin n)) (l : List Value), l.length = 8 → (pre.foldl (fun l x => dset zs v l x.1) l).length = 8 := by
    intro pre
    induction pre with
    | nil => intro l h; exact h
    | cons x xs ih => intro l h; exact ih _ (by simp [dset, h])
  exact key pre zero8 rfl
/-- what k wheels have made -/
def dto (zs : List Int) (v : Int) (k : Nat) : List Value := (List.range 8).map fun j => .int .u8 (if j < k then v / szL (zs.take j) % zs[j]?.getD 0 else 0)
theorem dto_succ (zs : List Int) (v : Int) (k : Nat) (hk : k < 8) : (dto zs v k).set k (.int .u8 (v / szL (zs.take k) % zs[k]?.getD 0)) = dto zs v (k + 1) := by
  apply List.ext_getElem?
  intro j
  simp only [dto, List.getElem?_set, List.getElem?_map, List.length_map, List.length_range]
  by_cases hj : k = j
  · subst hj
    simp [hk]
  · rw [if_neg hj]
    by_cases h8 : j < 8
    · simp only [List.getElem?_range h8, Option.map_some]
      by_cases h : j < k
      · rw [if_pos h, if_pos (by omega)]
      · rw [if_neg h, if_neg (by omega)]
    · simp [List.getElem?_eq_none (show (List.range 8).length ≤ j by simp; omega)]
theorem dto_zero (zs : List Int) (v : Int) : dto zs v 0 = zero8 := rfl
theorem dfold_take {n : Nat} (zs : List Int) (v : Int) (h8 : n ≤ 8) : ∀ k, k ≤ n → dfold zs v ((List.finRange n).take k) = dto zs v k
  | 0, _ => rfl
  | k + 1, hk => by
    rw [finTake_succ n k (by omega), dfold_snoc, dfold_take zs v h8 k (by omega)]
    exact dto_succ zs v k (by omega)
theorem dto_all (zs : List Int) (v : Int) : dto zs v zs.length = [.int .u8 (dg (dgL zs v) 0), .int .u8 (dg (dgL zs v) 1), .int .u8 (dg (dgL zs v) 2), .int .u8 (dg (dgL zs v) 3), .int .u8 (dg (dgL zs v) 4), .int .u8 (dg (dgL zs v) 5), .int .u8 (dg (dgL zs v) 6), .int .u8 (dg (dgL zs v) 7)] := by
  have e : ∀ k, k < 8 → dg (dgL zs v) k = if k < zs.length then v / szL (zs.take k) % zs[k]?.getD 0 else 0 := fun k hk => dgL_get zs v k hk
  rw [e 0 (by omega), e 1 (by omega), e 2 (by omega), e 3 (by omega), e 4 (by omega), e 5 (by omega), e 6 (by omega), e 7 (by omega)]
  rfl
theorem dfold_all {n : Nat} (zs : List Int) (v : Int) (hn : n = zs.length) (h8 : n ≤ 8) : dfold zs v (List.finRange n) = [.int .u8 (dg (dgL zs v) 0), .int .u8 (dg (dgL zs v) 1), .int .u8 (dg (dgL zs v) 2), .int .u8 (dg (dgL zs v) 3), .int .u8 (dg (dgL zs v) 4), .int .u8 (dg (dgL zs v) 5), .int .u8 (dg (dgL zs v) 6), .int .u8 (dg (dgL zs v) 7)] := by
  have := dfold_take zs v h8 n (Nat.le_refl _)
  rw [finTake_all] at this
  rw [this, hn, dto_all]
/-- a digit as the machine reckons it -/
theorem digit_raw (v p z : Int) (hv : 0 ≤ v) (hv2 : v ≤ 1000000000000) (hp : 1 ≤ p) (hz : 2 ≤ z) (hz2 : z ≤ 100) :
    IntKind.u8.wrap (IntKind.i64.wrap ((IntKind.i64.wrap (v.tdiv p)).tmod (IntKind.i64.wrap z))) = v / p % z := by
  have e1 : v.tdiv p = v / p := Int.tdiv_eq_ediv_of_nonneg hv
  have h0 : 0 ≤ v / p := Int.ediv_nonneg hv (by omega)
  have h1 : v / p ≤ v := Int.ediv_le_self _ hv
  rw [e1, IntWalk.i64_in (v / p) (by omega), IntWalk.i64_in z (by omega)]
  have e2 : (v / p).tmod z = v / p % z := Int.tmod_eq_emod_of_nonneg h0
  have h2 := Int.emod_nonneg (v / p) (show z ≠ 0 by omega)
  have h3 := Int.emod_lt_of_pos (v / p) (show 0 < z by omega)
  rw [e2, IntWalk.i64_in _ (by omega)]
  simp only [IntKind.wrap, IntKind.signed, IntKind.bits]
  simp
  omega
end Go.Proofs.YthifegbmpmialaaDoor

namespace Go.Proofs.YthifegbmpmialaaDoor
open Go.RowKit
def Row (w : World) (g : Nat) (e : TypeId) (xs : List Value) : Prop := w.heap[g]? = some (.cells xs.toArray e (0, 0))
theorem Row.cell {w : World} {g : Nat} {e : TypeId} {xs : List Value} (h : Row w g e xs) (j : Nat) : w.cell? ⟨g, j, none⟩ = xs[j]? := by
  rw [cell_of_row w g j _ e (0, 0) h]; simp
theorem Row.frozen {w : World} {g : Nat} {e : TypeId} {xs : List Value} (h : Row w g e xs) (j : Nat) : w.frozen? ⟨g, j, none⟩ = false :=
  frozen_of_row w g j _ e h
theorem Row.lt {w : World} {g : Nat} {e : TypeId} {xs : List Value} (h : Row w g e xs) : g < w.heap.size := lt_of_block h
theorem Row.below {w w' : World} {g n : Nat} {e : TypeId} {xs : List Value} (h : Row w g e xs) (hb : Below n w w') (hn : g < n) : Row w' g e xs := (hb.block g hn).trans h
theorem Row.set {w : World} {g : Nat} {e : TypeId} {xs : List Value} (h : Row w g e xs) (j : Nat) (u : Value) : Row (w.setCell ⟨g, j, none⟩ u) g e (xs.set j u) := by
  have := heap_setCell_same w g j _ e u h
  simpa [Row] using this
theorem Row.alloc {w : World} {g : Nat} {e : TypeId} {xs : List Value} (h : Row w g e xs) (o : Obj) : Row (w.alloc o) g e xs :=
  (Below.heap_alloc w o g h.lt).trans h
theorem Row.other {w : World} {g : Nat} {e : TypeId} {xs : List Value} (h : Row w g e xs) {a : Addr} (ha : a.block ≠ g) (u : Value) : Row (w.setCell a u) g e xs :=
  (Below.heap_setCell w a u g (fun e => ha e.symm)).trans h
theorem Row.new (w : World) (e : TypeId) (xs : List Value) : Row (w.alloc (.cells xs.toArray e)) w.heap.size e xs := heap_alloc_new w _
theorem Row.of_owns {w : World} {base g n cap : Nat} {e : TypeId} {xs : List Value} (h : w.ownsRow base e 1 (.slice (some ⟨g, 0, none⟩) n cap) n xs) (hn : n = cap) : Row w g e xs := by
  subst hn
  rcases h.2 with ⟨h', _⟩ | ⟨g', cap', cur, h', hb, hg, hnc, hcm, hcs, htake⟩
  · simp at h'
  · simp only [Value.slice.injEq, Option.some.injEq, Addr.mk.injEq, and_true, true_and] at h'
    obtain ⟨rfl, rfl⟩ := h'
    unfold Row
    rw [hg, ← htake, List.take_of_length_le (by simp [hcs])]

theorem below_drewN {B : Nat} {a w : World} (h : Below B a w) (n : Nat) : Below B a (w.drewN n) := ⟨h.os, h.tape, h.output, h.size, h.block⟩
/-- A stack (a slice of bytes) holds the numbers zs from the head of block b on. -/
def Stk (w : World) (b : Nat) (zs : List Int) : Prop :=
  b < w.heap.size ∧ (∀ j, j < zs.length → w.cell? ⟨b, j, none⟩ = some (.int .u8 (zs[j]?.getD 0))) ∧ (∀ z ∈ zs, 0 ≤ z ∧ z ≤ 255) ∧ zs.length ≤ 1048576

theorem Stk.below {w w' : World} {b n : Nat} {zs : List Int} (h : Stk w b zs) (hb : Below n w w') (hn : b < n) : Stk w' b zs :=
  ⟨Nat.lt_of_lt_of_le h.1 hb.size, fun j hj => (hb.cell (p := ⟨b, j, none⟩) hn).trans (h.2.1 j hj), h.2.2.1, h.2.2.2⟩
theorem Row.stk {w : World} {g : Nat} {e : TypeId} {zs : List Int} (h : Row w g e (zs.map (Value.int .u8))) (hz : ∀ z ∈ zs, 0 ≤ z ∧ z ≤ 255) (hl : zs.length ≤ 1048576) : Stk w g zs :=
  ⟨h.lt, fun j hj => by rw [h.cell]; simp [hj], hz, hl⟩

theorem Tryd.infoU8 : (Tryd.prog.info? 5).map (fun i => (i.zero, i.size, i.bytes)) = some (some (.int .u8 0), 1, 1) := by kernel_rfl

/-- what k rounds of a copy have made of n zero bytes -/
def cpy (zs : List Int) (n k : Nat) : List Value := ((zs.take k) ++ List.replicate (n - k) 0).map (Value.int .u8)
theorem cpy_zero (zs : List Int) (n : Nat) : cpy zs n 0 = List.replicate n (Value.int .u8 0) := by simp [cpy]
theorem cpy_len (zs : List Int) (n k : Nat) (hk : k ≤ n) (hz : n ≤ zs.length) : (cpy zs n k).length = n := by simp [cpy]; omega
theorem cpy_set (zs : List Int) (n k : Nat) (hk : k < n) (hz : n ≤ zs.length) : (cpy zs n k).set k (.int .u8 (zs[k]?.getD 0)) = cpy zs n (k + 1) := by
  apply List.ext_getElem?
  intro j
  have h1 : k < zs.length := by omega
  simp only [cpy, List.getElem?_set, List.getElem?_map, List.length_map, List.getElem?_append, List.length_take, List.length_append, List.length_replicate, List.getElem?_take, List.getElem?_replicate]
  by_cases hj : k = j
  · subst hj
    simp [h1, show min k zs.length = k from by omega, show min (k+1) zs.length = k+1 from by omega]
    omega
  · rw [if_neg hj]
    simp only [show min k zs.length = k from by omega, show min (k+1) zs.length = k+1 from by omega]
    by_cases h2 : j < k
    · simp [h2, show j < k + 1 from by omega]
    · have h3 : ¬ j < k + 1 := by omega
      simp only [h2, h3, if_false]
      by_cases h4 : j < n
      · rw [if_pos (by omega), if_pos (by omega)]
      · rw [if_neg (by omega), if_neg (by omega)]
theorem cpy_all (zs : List Int) (n : Nat) : cpy zs n n = (zs.take n).map (Value.int .u8) := by simp [cpy]

set_option maxHeartbeats 400000 in
/-- laws.toStack at an argument with elements: a new block holds them. -/
theorem toStack_some (b off len cap : Nat) (zs : List Int) (hl : len ≤ 1048576) (hz : len ≤ zs.length) (hb : ∀ z ∈ zs, 0 ≤ z ∧ z ≤ 255) (w : World) (hbs : b < w.heap.size) (hc : ∀ j, j < len → w.cell? ⟨b, off + j, none⟩ = some (.int .u8 (zs[j]?.getD 0))) :
    Calls Tryd.prog 45 #[.slice (some ⟨b, off, none⟩) len cap] w fun e w' => e = .returned (.slice (some ⟨w.heap.size, 0, none⟩) len len) ∧ Below w.heap.size w w' ∧ Stk w' w.heap.size (zs.take len) ∧ w.heap.size < w'.heap.size := by
  obtain ⟨i0, hi, hz0, hz1, hz2⟩ := info_parts Tryd.infoU8
  go_enter Tryd.func45, Tryd.ntmps45
  go_wp2_with (at_make; refine wpList_make_full _ rfl _ _ 30 rfl w.heap.size 5 i0 (.int .u8 0) 1 Tryd.underlying30 hi hz0 hz1 .i64 .i64 _ _ len rfl rfl rfl rfl (by rw [hz2]; omega) (by unfold maxLen; omega) (Nat.le_refl _) ?_; intro w1 hown hgrow)
  have hrow := Row.of_owns hown rfl
  rw [show (madeCells (Value.int .u8 0).cells (len * 1)).toList = cpy zs len 0 from by rw [cpy_zero, Nat.mul_one]; exact toList_madeCells_one _ _] at hrow
  have hB1 : Below w.heap.size w w1 := (Below.refl _ w).grown hgrow (Nat.le_refl _) (fun k e => by cases e)
  clear hown hgrow
  go_wp2
  go_loopw [4] (fun i wr => ∃ k : Nat, k ≤ len ∧ i = .int .i64 k ∧ Row wr w.heap.size 5 (cpy zs len k) ∧ Below w.heap.size w wr) (fun i _ => len - (intOf i).toNat)
  case atStart => exact ⟨0, Nat.zero_le _, rfl, hrow, hB1⟩
  case round =>
    clear hrow hB1
    obtain ⟨k, hk, rfl, hrow, hB⟩ := hrel
    by_cases hlt : k < len
    · have hcx : wr.cell? ⟨b, off + k, none⟩ = some (.int .u8 (zs[k]?.getD 0)) := (hB.cell (p := ⟨b, off + k, none⟩) hbs).trans (hc k hlt)
      have hfz := hrow.frozen k
      have hlen := cpy_len zs len k hk hz
      obtain ⟨old, hold⟩ : ∃ v, wr.cell? ⟨w.heap.size, k, none⟩ = some v := ⟨_, (hrow.cell k).trans (List.getElem?_eq_getElem (by omega))⟩
      have hR2 := hrow.set k (.int .u8 (zs[k]?.getD 0))
      rw [cpy_set zs len k hlt hz] at hR2
      have hB2 : Below w.heap.size w (wr.setCell ⟨w.heap.size, k, none⟩ (.int .u8 (zs[k]?.getD 0))) := hB.setCell (p := ⟨w.heap.size, k, none⟩) (Nat.le_refl _) _
      clear hlen
      go_wp2
      go_roundw
      case rel => exact ⟨k + 1, by omega, by go_num, hR2, hB2⟩
      case measure => simp [intOf]; omega
    · obtain rfl : k = len := by omega
      rw [cpy_all] at hrow
      go_wp2
      go_ret
      exact ⟨rfl, hB, hrow.stk (fun z hz' => hb z (List.mem_of_mem_take hz')) (by simp; omega), hrow.lt⟩
set_option maxHeartbeats 400000 in
/-- .. at an argument without elements: a new block without cells. -/
theorem toStack_none (a : Option Addr) (cap : Nat) (w : World) :
    Calls Tryd.prog 45 #[.slice a 0 cap] w fun e w' => e = .returned (.slice (some ⟨w.heap.size, 0, none⟩) 0 0) ∧ Below w.heap.size w w' ∧ Stk w' w.heap.size [] ∧ w.heap.size < w'.heap.size := by
  obtain ⟨i0, hi, hz0, hz1, hz2⟩ := info_parts Tryd.infoU8
  go_enter Tryd.func45, Tryd.ntmps45
  go_wp2_with (at_make; refine wpList_make_full _ rfl _ _ 30 rfl w.heap.size 5 i0 (.int .u8 0) 1 Tryd.underlying30 hi hz0 hz1 .i64 .i64 _ _ 0 rfl rfl rfl rfl (by rw [hz2]; omega) (by unfold maxLen; omega) (Nat.le_refl _) ?_; intro w1 hown hgrow)
  have hrow := Row.of_owns hown rfl
  have hB : Below w.heap.size w w1 := (Below.refl _ w).grown hgrow (Nat.le_refl _) (fun k e => by cases e)
  clear hown hgrow
  go_wp2
  refine wp_loop_rounds 1 ?_
  rw [rounds_succ]
  go_wp2
  go_ret
  exact ⟨rfl, hB, Row.stk (zs := []) (by simpa [madeCells] using hrow) (by simp) (by simp), hrow.lt⟩

set_option maxHeartbeats 400000 in
/-- laws.eqStack at two stacks with the same numbers. -/
theorem eqStack_same (b1 b2 n c1 c2 : Nat) (zs : List Int) (w : World) (h1 : Stk w b1 zs) (h2 : Stk w b2 zs) (hn : n = zs.length) :
    Calls Tryd.prog 47 #[.slice (some ⟨b1, 0, none⟩) n c1, .slice (some ⟨b2, 0, none⟩) n c2] w fun e w' => e = .returned (.bool true) ∧ Below w.heap.size w w' := by
  have hl := h1.2.2.2
  have hC1 := hid h1.2.1
  have hC2 := hid h2.2.1
  have hN := hid hn
  rw [← hn] at hl
  clear h1 h2 hn
  have hne : ((n : Int) != (n : Int)) = false := by simp
  go_enter Tryd.func47, Tryd.ntmps47
  go_wp2
  go_loopw [5] (fun i wr => ∃ k : Nat, k ≤ n ∧ i = .int .i64 k ∧ ∃ d, wr = w.drewN d) (fun i _ => n - (intOf i).toNat)
  case atStart => exact ⟨0, Nat.zero_le _, rfl, 0, rfl⟩
  case round =>
    obtain ⟨k, hk, rfl, d, rfl⟩ := hrel
    by_cases hlt : k < n
    · have hx1 := hC1.out k (by rw [← hN.out]; exact hlt)
      have hx2 := hC2.out k (by rw [← hN.out]; exact hlt)
      have hb : ((zs[k]?.getD 0) != (zs[k]?.getD 0)) = false := by simp
      have hlt' : (k : Int) < (n : Int) := by omega
      go_wp2
      go_quiet (fail)
      go_wp2
      all_goals go_roundw
      case rel => exact ⟨k + 1, by omega, by go_num, _, rfl⟩
      case measure => simp [intOf]; omega
    · obtain rfl : k = n := by omega
      go_wp2
      go_ret
      exact ⟨rfl, below_drewN (Below.refl _ _) d⟩
set_option maxHeartbeats 2000000 in
set_option maxRecDepth 100000 in
theorem toDigits_any (d0 d1 d2 d3 d4 d5 d6 d7 : Int) (w : World) :
    Calls Tryd.prog 46 #[.agg #[.int .u8 d0, .int .u8 d1, .int .u8 d2, .int .u8 d3, .int .u8 d4, .int .u8 d5, .int .u8 d6, .int .u8 d7]] w fun e w' => e = .returned (.agg #[.int .u8 d0, .int .u8 d1, .int .u8 d2, .int .u8 d3, .int .u8 d4, .int .u8 d5, .int .u8 d6, .int .u8 d7]) ∧ Below w.heap.size w w' := by
  go_enter Tryd.func46, Tryd.ntmps46
  go_wp2
  refine wp_loop_rounds 9 ?_
  iterate 9 (rw [rounds_succ]; go_wp2)
  exact bodyPost_ret (v := .agg #[.int .u8 d0, .int .u8 d1, .int .u8 d2, .int .u8 d3, .int .u8 d4, .int .u8 d5, .int .u8 d6, .int .u8 d7]) (by simp [results, Tryd.results46, go_sem]) rfl ⟨rfl, ((((Below.refl _ _).alloc (Nat.le_refl _) _).alloc (by simp) _).alloc (by simp; omega) _)⟩
set_option maxHeartbeats 2000000 in
set_option maxRecDepth 100000 in
theorem eqDigits_same (d0 d1 d2 d3 d4 d5 d6 d7 : Int) (w : World) :
    Calls Tryd.prog 48 #[.agg #[.int .u8 d0, .int .u8 d1, .int .u8 d2, .int .u8 d3, .int .u8 d4, .int .u8 d5, .int .u8 d6, .int .u8 d7], .agg #[.int .u8 d0, .int .u8 d1, .int .u8 d2, .int .u8 d3, .int .u8 d4, .int .u8 d5, .int .u8 d6, .int .u8 d7]] w fun e w' => e = .returned (.bool true) ∧ Below w.heap.size w w' := by
  go_enter Tryd.func48, Tryd.ntmps48
  go_wp2
  refine wp_loop_rounds 9 ?_
  iterate 8 (rw [rounds_succ]; go_wp2; go_quiet (fail); go_wp2)
  rw [rounds_succ]
  go_wp2
  go_ret
  exact ⟨rfl, below_drewN (((Below.refl _ _).alloc (Nat.le_refl _) _).alloc (by simp) _) _⟩
end Go.Proofs.YthifegbmpmialaaDoor

namespace Go.Proofs.YthifegbmpmialaaDoor
open Go.ChangeShapes Go.WideShapes Go.ChangeAt Go.RowKit

/-- eight bytes -/
def Oct (d0 d1 d2 d3 d4 d5 d6 d7 : Int) : Prop :=
  (0 ≤ d0 ∧ d0 ≤ 255) ∧ (0 ≤ d1 ∧ d1 ≤ 255) ∧ (0 ≤ d2 ∧ d2 ≤ 255) ∧ (0 ≤ d3 ∧ d3 ≤ 255) ∧ (0 ≤ d4 ∧ d4 ≤ 255) ∧ (0 ≤ d5 ∧ d5 ≤ 255) ∧ (0 ≤ d6 ∧ d6 ≤ 255) ∧ (0 ≤ d7 ∧ d7 ≤ 255)

/-- what a law is told of a slice of bytes that came in -/
def InB (w : World) (a : Option Addr) (len : Nat) (zs : List Int) : Prop :=
  zs.length = len ∧ (∀ z ∈ zs, 0 ≤ z ∧ z ≤ 255) ∧ (len = 0 ∨ ∃ b off, a = some ⟨b, off, none⟩ ∧ b < w.heap.size ∧ ∀ j, j < len → w.cell? ⟨b, off + j, none⟩ = some (.int .u8 (zs[j]?.getD 0)))
theorem InB.below {w w' : World} {a : Option Addr} {len : Nat} {zs : List Int} {n : Nat} (h : InB w a len zs) (hb : Below n w w') (hn : w.heap.size ≤ n) : InB w' a len zs := by
  refine ⟨h.1, h.2.1, ?_⟩
  rcases h.2.2 with h0 | ⟨b, off, e, hl, hc⟩
  · exact .inl h0
  · exact .inr ⟨b, off, e, Nat.lt_of_lt_of_le hl hb.size, fun j hj => (hb.cell (p := ⟨b, off + j, none⟩) (Nat.lt_of_lt_of_le hl hn)).trans (hc j hj)⟩

section
variable {H : Type} {enc : TypeId × Value → H} {P : Program} {W : World}

theorem open_bytes {t e : TypeId} (ht : P.underlying t = some (.slice e)) (he : P.underlying e = some (.int .u8)) (hc : P.cellsOf e = 1) {a : Option Addr} {len cap : Nat} {d : DataW H} {p : List MemPlace}
    (h : DataW.Trod enc P W 0 (fun _ => true) true t (.slice a len cap) d p) : ∃ zs, InB W a len zs := by
  obtain ⟨fuel, hf⟩ := h
  rcases open_ints ht he hc hf with ⟨hcs, _⟩ | ⟨x, l, c, zs, hcs, _, hl, hm, hz, hx, hcell, hwz⟩
  · simp [Value.cells] at hcs
    obtain ⟨rfl, rfl, rfl⟩ := hcs
    exact ⟨[], rfl, by simp, .inl rfl⟩
  · simp [Value.cells] at hcs
    obtain ⟨rfl, rfl, rfl⟩ := hcs
    simp only [if_true] at hz
    refine ⟨zs.take len, by simp; omega, fun z hz' => by have := bounds_u8 (hwz z (List.mem_of_mem_take hz')); omega, ?_⟩
    by_cases h0 : len = 0
    · exact .inl h0
    · right
      have hc0 := hcell 0 (by omega)
      obtain ⟨b, off, spot⟩ := x
      have hspot : spot = none := by simpa [Addr.add] using World.cell?_spot hc0
      subst hspot
      have hx' : p = MemPlace.row ⟨b, off, none⟩ zs.length := (Prod.mk.inj hx).2
      have hb : b < W.heap.size := by
        by_cases hb : b < W.heap.size
        · exact hb
        · simp [World.cell?, Addr.add, Array.getElem?_eq_none (Nat.le_of_not_lt hb)] at hc0
      refine ⟨b, off, rfl, hb, fun j hj => ?_⟩
      have := hcell j (by omega)
      rw [show (⟨b, off, none⟩ : Addr).add j = ⟨b, off + j, none⟩ from by
        by_cases h : j = 0
        · subst h; simp [Addr.add]
        · simp [Addr.add, h]] at this
      rw [this]
      simp [hj]

theorem array8 {α : Type} {cs : Array α} (h : cs.size = 8) : ∃ c0 c1 c2 c3 c4 c5 c6 c7, cs = #[c0, c1, c2, c3, c4, c5, c6, c7] := by
  obtain ⟨l⟩ := cs
  simp at h
  match l, h with
  | [a, b, c, d, e, f, g, i], _ => exact ⟨a, b, c, d, e, f, g, i, rfl⟩

theorem okWide_array {r : Reach} {b0 : Nat} {t e : TypeId} {n : Nat} {v : Value} (ht : P.underlying t = some (.array n e)) (h : Value.okWide P W r b0 t v) : ∃ cs, v = .agg cs ∧ cs.size = P.cellsOf t := by
  simp only [Value.okWide, ht] at h
  obtain ⟨cs, h1, h2, _⟩ := h
  exact ⟨cs, h1, h2⟩

theorem open_oct {r : Reach} {b0 : Nat} {t e : TypeId} {v : Value} {d : DataW H} {p : List MemPlace} (ht : P.underlying t = some (.array 8 e)) (he : P.underlying e = some (.int .u8)) (hc : P.cellsOf e = 1) (hC : P.cellsOf t = 8)
    (hval : Value.okWide P W r b0 t v) (h : DataW.Trod enc P W 0 (fun _ => true) true t v d p) :
    ∃ d0 d1 d2 d3 d4 d5 d6 d7 : Int, v = .agg #[.int .u8 d0, .int .u8 d1, .int .u8 d2, .int .u8 d3, .int .u8 d4, .int .u8 d5, .int .u8 d6, .int .u8 d7] ∧ Oct d0 d1 d2 d3 d4 d5 d6 d7 := by
  obtain ⟨cs, rfl, hsz⟩ := okWide_array ht hval
  obtain ⟨c0, c1, c2, c3, c4, c5, c6, c7, rfl⟩ := array8 (hsz.trans hC)
  obtain ⟨fuel, hf⟩ := h
  obtain ⟨xs, m, _, _, _, hl, hall⟩ := DataW.trod_array ht hf
  have key : ∀ (i : Nat) (c : Value), i < 8 → ([c0, c1, c2, c3, c4, c5, c6, c7] : List Value)[i]? = some c → ∃ n, c = .int .u8 n ∧ 0 ≤ n ∧ n ≤ 255 := by
    intro i c hi hcc
    have hi' := hall i hi
    rw [hc] at hi'
    have hx : (((Value.agg #[c0, c1, c2, c3, c4, c5, c6, c7]).cells.toList.drop (i * 1)).take 1) = [c] := by
      have : (Value.agg #[c0, c1, c2, c3, c4, c5, c6, c7]).cells.toList = [c0, c1, c2, c3, c4, c5, c6, c7] := rfl
      rw [this, Nat.mul_one]
      match i, hi, hcc with
      | 0, _, h | 1, _, h | 2, _, h | 3, _, h | 4, _, h | 5, _, h | 6, _, h | 7, _, h => simp at h; subst h; rfl
    rw [hx] at hi'
    obtain ⟨y, hy⟩ : ∃ y, xs[i]? = some y := ⟨_, List.getElem?_eq_getElem (by omega)⟩
    rw [hy] at hi'
    obtain ⟨n, e0, _, wn⟩ := DataW.trod_int he hi'
    simp only [List.cons.injEq, and_true] at e0
    have := bounds_u8 wn
    exact ⟨n, e0, by omega, by omega⟩
  obtain ⟨d0, rfl, b0⟩ := key 0 c0 (by omega) rfl
  obtain ⟨d1, rfl, b1⟩ := key 1 c1 (by omega) rfl
  obtain ⟨d2, rfl, b2⟩ := key 2 c2 (by omega) rfl
  obtain ⟨d3, rfl, b3⟩ := key 3 c3 (by omega) rfl
  obtain ⟨d4, rfl, b4⟩ := key 4 c4 (by omega) rfl
  obtain ⟨d5, rfl, b5⟩ := key 5 c5 (by omega) rfl
  obtain ⟨d6, rfl, b6⟩ := key 6 c6 (by omega) rfl
  obtain ⟨d7, rfl, b7⟩ := key 7 c7 (by omega) rfl
  exact ⟨d0, d1, d2, d3, d4, d5, d6, d7, rfl, b0, b1, b2, b3, b4, b5, b6, b7⟩
end

/-- laws.toStack at whatever argument. -/
theorem toStack_any (a : Option Addr) (len cap : Nat) (zs : List Int) (w : World) (h : InB w a len zs) (hl : len ≤ 1048576) :
    Calls Tryd.prog 45 #[.slice a len cap] w fun e w' => e = .returned (.slice (some ⟨w.heap.size, 0, none⟩) len len) ∧ Below w.heap.size w w' ∧ Stk w' w.heap.size zs ∧ w.heap.size < w'.heap.size := by
  by_cases h0 : len = 0
  · have hz := h.1
    subst h0
    obtain rfl : zs = [] := List.length_eq_zero_iff.1 hz
    exact toStack_none a cap w
  · rcases h.2.2 with h0' | ⟨b, off, rfl, hb, hc⟩
    · exact absurd h0' h0
    · have := toStack_some b off len cap zs hl (by rw [h.1]; exact Nat.le_refl _) h.2.1 w hb hc
      rwa [List.take_of_length_le (by rw [h.1]; exact Nat.le_refl _)] at this

theorem tt2 {a b : Bool} (h : a = true) (k : b = true) : (a && b) = true := by rw [h, k]; rfl
end Go.Proofs.YthifegbmpmialaaDoor

namespace Go.Proofs.YthifegbmpmialaaDoor
open Go.RowKit

theorem gcdFlip (a b : Nat) : Nat.gcd b (a % b) = Nat.gcd a b := by rw [Nat.gcd_comm a b, Nat.gcd_rec b a]; exact Nat.gcd_comm _ _
/-- the greatest common divisor of two numbers of at least 0 -/
def gcdI (a b : Int) : Int := (Nat.gcd a.toNat b.toNat : Nat)
theorem gcdI_nat (m n : Nat) : gcdI (m : Int) (n : Int) = ((Nat.gcd m n : Nat) : Int) := rfl
theorem gcdI_flip (a b : Int) (ha : 0 ≤ a) (hb : 0 ≤ b) : gcdI b (a % b) = gcdI a b := by
  obtain ⟨m, rfl⟩ := Int.eq_ofNat_of_zero_le ha
  obtain ⟨n, rfl⟩ := Int.eq_ofNat_of_zero_le hb
  rw [show ((m : Int) % (n : Int)) = ((m % n : Nat) : Int) from rfl, gcdI_nat, gcdI_nat, gcdFlip]
theorem gcdI_zero (a : Int) (ha : 0 ≤ a) : gcdI a 0 = a := by
  obtain ⟨m, rfl⟩ := Int.eq_ofNat_of_zero_le ha
  have : gcdI (m : Int) ((0 : Nat) : Int) = (m : Int) := by rw [gcdI_nat, Nat.gcd_zero_right]
  exact this
def okR (p q : Int) : Bool := decide (1 ≤ p ∧ p ≤ 1000000000 ∧ 1 ≤ q ∧ q ≤ 1000000000 ∧ gcdI p q = 1)
theorem okR_out {p q : Int} (h : okR p q = true) : 1 ≤ p ∧ p ≤ 1000000000 ∧ 1 ≤ q ∧ q ≤ 1000000000 ∧ gcdI p q = 1 := by simpa [okR] using h
theorem okR_pl {p q : Int} (h : p < 1) : okR p q = false := by simp only [okR, decide_eq_false_iff_not]; omega
theorem okR_ql {p q : Int} (h : q < 1) : okR p q = false := by simp only [okR, decide_eq_false_iff_not]; omega
theorem okR_ph {p q : Int} (h : 1000000000 < p) : okR p q = false := by simp only [okR, decide_eq_false_iff_not]; omega
theorem okR_qh {p q : Int} (h : 1000000000 < q) : okR p q = false := by simp only [okR, decide_eq_false_iff_not]; omega
theorem okR_mid {p q : Int} (h1 : 1 ≤ p) (h2 : p ≤ 1000000000) (h3 : 1 ≤ q) (h4 : q ≤ 1000000000) : okR p q = decide (gcdI p q = 1) := by simp [okR, h1, h2, h3, h4]
def redP (p q : Int) : Int := p / gcdI p q
def redQ (p q : Int) : Int := q / gcdI p q

/-- the facts on a ratio without common divisors, in whole numbers of at least 0 -/
theorem nat_red (m n : Nat) (hm : 0 < m) : 0 < Nat.gcd m n ∧ Nat.gcd m n ≤ m ∧ m / Nat.gcd m n * Nat.gcd m n = m ∧ n / Nat.gcd m n * Nat.gcd m n = n ∧ 0 < m / Nat.gcd m n ∧ (m / Nat.gcd m n).gcd (n / Nat.gcd m n) = 1 := by
  have g0 : 0 < Nat.gcd m n := Nat.gcd_pos_of_pos_left n hm
  have h1 := Nat.div_mul_cancel (Nat.gcd_dvd_left m n)
  have h2 := Nat.div_mul_cancel (Nat.gcd_dvd_right m n)
  have h3 := Nat.coprime_div_gcd_div_gcd g0
  have h4 := Nat.gcd_le_left n hm
  refine ⟨g0, h4, h1, h2, ?_, h3⟩
  exact Nat.div_pos h4 g0
theorem toI (p : Int) (h : 1 ≤ p) : ∃ m : Nat, p = (m : Int) ∧ 0 < m := by
  obtain ⟨m, rfl⟩ := Int.eq_ofNat_of_zero_le (show 0 ≤ p by omega)
  exact ⟨m, rfl, by omega⟩
theorem redP_nat (m n : Nat) : redP (m : Int) (n : Int) = ((m / Nat.gcd m n : Nat) : Int) := rfl
theorem redQ_nat (m n : Nat) : redQ (m : Int) (n : Int) = ((n / Nat.gcd m n : Nat) : Int) := rfl
theorem red_bd {p q : Int} (hp : 1 ≤ p) (hq : 1 ≤ q) : 1 ≤ gcdI p q ∧ gcdI p q ≤ p ∧ gcdI p q ≤ q ∧ 1 ≤ redP p q ∧ redP p q ≤ p ∧ 1 ≤ redQ p q ∧ redQ p q ≤ q ∧ gcdI (redP p q) (redQ p q) = 1 ∧ redP p q * q = redQ p q * p := by
  obtain ⟨m, rfl, hm⟩ := toI p hp
  obtain ⟨n, rfl, hn⟩ := toI q hq
  rw [redP_nat, redQ_nat, gcdI_nat, gcdI_nat]
  obtain ⟨g0, g1, e1, e2, p1, c⟩ := nat_red m n hm
  have q1 : 0 < n / Nat.gcd m n := Nat.div_pos (Nat.le_of_dvd hn (Nat.gcd_dvd_right m n)) g0
  have g2 : Nat.gcd m n ≤ n := Nat.le_of_dvd hn (Nat.gcd_dvd_right m n)
  have d1 := Nat.div_le_self m (Nat.gcd m n)
  have d2 := Nat.div_le_self n (Nat.gcd m n)
  refine ⟨by omega, by omega, by omega, by omega, by omega, by omega, by omega, by rw [c]; rfl, ?_⟩
  have : m / Nat.gcd m n * n = n / Nat.gcd m n * m := by
    obtain ⟨G, hG⟩ : ∃ G, G = Nat.gcd m n := ⟨_, rfl⟩
    obtain ⟨X, hX⟩ : ∃ X, X = m / G := ⟨_, rfl⟩
    obtain ⟨Y, hY⟩ : ∃ Y, Y = n / G := ⟨_, rfl⟩
    rw [← hG, ← hX] at e1
    rw [← hG, ← hY] at e2
    rw [← hG, ← hX, ← hY, ← e1, ← e2]
    ac_rfl
  exact_mod_cast this
/-- a ratio has one form without common divisors -/
theorem red_one {x y P Q : Int} (hx : 1 ≤ x) (hy : 1 ≤ y) (hP : 1 ≤ P) (hQ : 1 ≤ Q) (c : gcdI x y = 1) (e : x * Q = y * P) : redP P Q = x ∧ redQ P Q = y := by
  obtain ⟨x, rfl, hx'⟩ := toI x hx
  obtain ⟨y, rfl, hy'⟩ := toI y hy
  obtain ⟨P, rfl, hP'⟩ := toI P hP
  obtain ⟨Q, rfl, hQ'⟩ := toI Q hQ
  rw [redP_nat, redQ_nat]
  rw [gcdI_nat] at c
  have c' : Nat.Coprime x y := by have : ((Nat.gcd x y : Nat) : Int) = ((1 : Nat) : Int) := c; exact Int.ofNat_inj.1 this
  have e' : x * Q = y * P := by exact_mod_cast e
  have dx : x ∣ P := by
    have : x ∣ P * y := ⟨Q, by rw [Nat.mul_comm P y]; exact e'.symm⟩
    exact Nat.Coprime.dvd_of_dvd_mul_right c' this
  obtain ⟨k, rfl⟩ := dx
  have : Q = y * k := by
    have : x * Q = x * (y * k) := by rw [e']; simp only [Nat.mul_left_comm]
    exact Nat.eq_of_mul_eq_mul_left hx' this
  subst this
  have hk : 0 < k := by
    cases k with
    | zero => simp at hP'
    | succ k => omega
  have g : Nat.gcd (x * k) (y * k) = k := by rw [Nat.gcd_mul_right, c'.gcd_eq_one, Nat.one_mul]
  rw [g, Nat.mul_div_cancel _ hk, Nat.mul_div_cancel _ hk]
  exact ⟨rfl, rfl⟩
theorem red_self {p q : Int} (hp : 1 ≤ p) (hq : 1 ≤ q) (c : gcdI p q = 1) : redP p q = p ∧ redQ p q = q := red_one hp hq hp hq c (Int.mul_comm p q)
/-- common divisors across two ratios without any are all that the product has -/
theorem cross_one {p q u v : Int} (hp : 1 ≤ p) (hq : 1 ≤ q) (hu : 1 ≤ u) (hv : 1 ≤ v) (c1 : gcdI p q = 1) (c2 : gcdI u v = 1) :
    gcdI (redP p v * redP u q) (redQ u q * redQ p v) = 1 := by
  obtain ⟨p, rfl, hp'⟩ := toI p hp
  obtain ⟨q, rfl, hq'⟩ := toI q hq
  obtain ⟨u, rfl, hu'⟩ := toI u hu
  obtain ⟨v, rfl, hv'⟩ := toI v hv
  rw [gcdI_nat] at c1 c2
  have k1 : Nat.Coprime p q := Int.ofNat_inj.1 (show ((Nat.gcd p q : Nat) : Int) = ((1 : Nat) : Int) from c1)
  have k2 : Nat.Coprime u v := Int.ofNat_inj.1 (show ((Nat.gcd u v : Nat) : Int) = ((1 : Nat) : Int) from c2)
  rw [redP_nat, redP_nat, redQ_nat, redQ_nat]
  have a1 := (nat_red p v hp').2.2.2.2.2
  have a2 := (nat_red u q hu').2.2.2.2.2
  have b1 : Nat.Coprime (p / Nat.gcd p v) (q / Nat.gcd u q) := (k1.coprime_dvd_left (Nat.div_dvd_of_dvd (Nat.gcd_dvd_left p v))).coprime_dvd_right (Nat.div_dvd_of_dvd (Nat.gcd_dvd_right u q))
  have b2 : Nat.Coprime (u / Nat.gcd u q) (v / Nat.gcd p v) := (k2.coprime_dvd_left (Nat.div_dvd_of_dvd (Nat.gcd_dvd_left u q))).coprime_dvd_right (Nat.div_dvd_of_dvd (Nat.gcd_dvd_right p v))
  have : Nat.Coprime (p / Nat.gcd p v * (u / Nat.gcd u q)) (q / Nat.gcd u q * (v / Nat.gcd p v)) :=
    Nat.Coprime.mul_left (Nat.Coprime.mul_right b1 a1) (Nat.Coprime.mul_right a2 b2)
  rw [← Int.natCast_mul, ← Int.natCast_mul, gcdI_nat, this.gcd_eq_one]
  rfl
theorem mul_bd {a b A B : Int} (h1 : 1 ≤ a) (h2 : a ≤ A) (h3 : 1 ≤ b) (h4 : b ≤ B) : 1 ≤ a * b ∧ a * b ≤ A * B := by
  have x := Int.mul_le_mul h1 h3 (by omega) (by omega)
  have y := Int.mul_le_mul h2 h4 (by omega) (by omega)
  omega
theorem cross_eq {p q a b x x' y y' s s' t t' : Int} (h1 : 1 ≤ x') (h2 : 1 ≤ y') (se : s * y' = s' * x) (te : t * x' = t' * y) (xe : x * q = x' * p) (ye : y * b = y' * a) : (s * t) * (q * b) = (t' * s') * (p * a) := by
  have hz : (0 : Int) < x' * y' := Int.mul_pos (by omega) (by omega)
  apply Int.eq_of_mul_eq_mul_left (Int.ne_of_gt hz)
  calc (x' * y') * ((s * t) * (q * b)) = (s * y') * (t * x') * (q * b) := by ac_rfl
    _ = (s' * x) * (t' * y) * (q * b) := by rw [se, te]
    _ = (s' * t') * (x * q) * (y * b) := by ac_rfl
    _ = (s' * t') * (x' * p) * (y' * a) := by rw [xe, ye]
    _ = (x' * y') * ((t' * s') * (p * a)) := by ac_rfl
/-- the product of a ratio without common divisors and one more, by their numbers -/
theorem times_red {p q a b : Int} (hp : 1 ≤ p) (hq : 1 ≤ q) (ha : 1 ≤ a) (hb : 1 ≤ b) :
    redP (redP p q) (redQ a b) * redP (redP a b) (redQ p q) = redP (p * a) (q * b) ∧ redQ (redP a b) (redQ p q) * redQ (redP p q) (redQ a b) = redQ (p * a) (q * b) := by
  obtain ⟨_, _, _, x1, _, x2, _, xc, xe⟩ := red_bd hp hq
  obtain ⟨_, _, _, y1, _, y2, _, yc, ye⟩ := red_bd ha hb
  have C := cross_one x1 x2 y1 y2 xc yc
  obtain ⟨_, _, _, s1, _, s2, _, _, se⟩ := red_bd x1 y2
  obtain ⟨_, _, _, t1, _, t2, _, _, te⟩ := red_bd y1 x2
  have b1 := mul_bd s1 (Int.le_refl _) t1 (Int.le_refl _)
  have b2 := mul_bd t2 (Int.le_refl _) s2 (Int.le_refl _)
  have b3 := mul_bd hp (Int.le_refl _) ha (Int.le_refl _)
  have b4 := mul_bd hq (Int.le_refl _) hb (Int.le_refl _)
  have R := red_one b1.1 b2.1 b3.1 b4.1 C (cross_eq x2 y2 se te xe ye)
  exact ⟨R.1.symm, R.2.symm⟩
end Go.Proofs.YthifegbmpmialaaDoor

namespace Go.Proofs.YthifegbmpmialaaDoor
open Go.RowKit
set_option maxHeartbeats 1000000 in
theorem validStack_any (b n cap : Nat) (zs : List Int) (w : World) (h : Stk w b zs) (hn : n = zs.length) :
    Calls Tryd.prog 86 #[.slice (some ⟨b, 0, none⟩) n cap] w fun e w' => e = .returned (.bool (okL zs)) ∧ w = w' := by
  have hC := hid h.2.1
  have hZ := hid h.2.2.1
  have hl := h.2.2.2
  rw [← hn] at hl
  have hN := hid hn
  clear h hn
  by_cases h1 : n < 1
  · have hf := hid (okL_len0 zs (by rw [← hN.out]; exact h1))
    go_enter Tryd.func86, Tryd.ntmps86
    go_wp2
    go_ret
    exact ⟨by rw [hf.out]; rfl, rfl⟩
  by_cases h8 : 8 < n
  · have hf := hid (okL_len9 zs (by rw [← hN.out]; exact h8))
    go_enter Tryd.func86, Tryd.ntmps86
    go_wp2
    go_ret
    exact ⟨by rw [hf.out]; rfl, rfl⟩
  go_enter Tryd.func86, Tryd.ntmps86
  go_wp2
  go_loop [3, 16] (fun s i => ∃ k : Nat, k ≤ n ∧ i = .int .i64 k ∧ s = .int .i64 (szL (zs.take k)) ∧ inB zs k) (fun _ i => n - (intOf i).toNat)
  case atStart => exact ⟨0, Nat.zero_le _, rfl, rfl, inB_zero _⟩
  case round =>
    obtain ⟨k, hk, rfl, rfl, hin⟩ := hrel
    by_cases hlt : k < n
    · have hltz : k < zs.length := by rw [← hN.out]; exact hlt
      have hx := hC.out k hltz
      have hzb := hZ.out (zs[k]?.getD 0) (by simp [hltz])
      have HL := okL_low zs k hltz
      have HH := okL_high zs k hltz
      have HS := fun a b => szL_step zs k hltz (by rw [← hN.out]; omega) (inB_succ hin a b)
      have HT := hid (szL_take zs k hltz)
      have HI := fun a b => inB_succ hin a b
      obtain ⟨p, hp⟩ : ∃ p, p = szL (zs.take k) := ⟨_, rfl⟩
      obtain ⟨z, hz⟩ : ∃ z, z = zs[k]?.getD 0 := ⟨_, rfl⟩
      rw [← hz] at hx hzb HL HH HS HI
      rw [← hp] at HS
      have HT' : Hid (szL (zs.take (k + 1)) = p * z) := by rw [HT.out, ← hp, ← hz]; exact hid rfl
      clear HT hin
      have hHI := hid HI; have hHS := hid HS; have hHL := hid HL; have hHH := hid HH
      clear HI HS HL HH
      rw [← hp]
      have hp' := hid hp; have hz' := hid hz
      clear hp hz
      by_cases h2 : z < 2
      · have hf := hid (hHL.out h2)
        go_wp2
        go_ret
        exact ⟨by rw [hf.out]; rfl, rfl⟩
      by_cases h3 : 100 < z
      · have hf := hid (hHH.out h3)
        go_wp2
        go_ret
        exact ⟨by rw [hf.out]; rfl, rfl⟩
      obtain ⟨s1, s2, s3, s4⟩ := hHS.out (by omega) (by omega)
      have hi := hHI.out (by omega) (by omega)
      have hHi := hid hi
      clear hi
      go_wp2
      go_round
      case rel => exact ⟨k + 1, by omega, by go_num, by rw [HT'.out], hHi.out⟩
      case measure => simp [intOf]; omega
    · obtain rfl : k = n := by omega
      have hf : okL zs = decide (szL zs ≤ 1000000000000) := okL_end zs (by rw [← hN.out]; omega) (by rw [← hN.out]; omega) (by rw [← hN.out]; exact hin)
      have hz : zs.take k = zs := by rw [hN.out, List.take_length]
      have hf' := hid hf
      clear hf
      rw [hz]
      clear hz hin
      go_wp2
      go_ret
      exact ⟨by rw [hf'.out]; rfl, rfl⟩
theorem inr_any (n lo hi : Int) (w : World) :
    Calls Tryd.prog 61 #[.int .i64 n, .int .i64 lo, .int .i64 hi] w fun e w' => e = .returned (.bool (decide (lo ≤ n) && decide (n ≤ hi))) ∧ w = w' := by
  by_cases h : lo ≤ n
  · have h1 : decide (lo ≤ n) = true := by simpa using h
    go_enter Tryd.func61, Tryd.ntmps61
    go_wp2
    go_ret
    exact ⟨by simp [h], rfl⟩
  · have h1 : decide (lo ≤ n) = false := by simpa using h
    go_enter Tryd.func61, Tryd.ntmps61
    go_wp2
    go_ret
    exact ⟨by simp, rfl⟩
/-- the two ways of l00In -/
theorem inr_yes (n lo hi : Int) (w : World) (h : lo ≤ n ∧ n ≤ hi) : Calls Tryd.prog 61 #[.int .i64 n, .int .i64 lo, .int .i64 hi] w fun e w' => e = .returned (.bool true) ∧ w = w' :=
  (inr_any n lo hi w).mono fun _ _ ⟨he, hw⟩ => ⟨by rw [he]; simp [h.1, h.2], hw⟩
theorem inr_no (n lo hi : Int) (w : World) (h : n < lo ∨ hi < n) : Calls Tryd.prog 61 #[.int .i64 n, .int .i64 lo, .int .i64 hi] w fun e w' => e = .returned (.bool false) ∧ w = w' :=
  (inr_any n lo hi w).mono fun _ _ ⟨he, hw⟩ => ⟨by
    rw [he]
    have : ¬ (lo ≤ n ∧ n ≤ hi) := by omega
    have h2 : (decide (lo ≤ n) && decide (n ≤ hi)) = false := by simpa using fun a => by omega
    rw [h2], hw⟩
theorem min_any (a b : Int) (w : World) :
    Calls Tryd.prog 79 #[.int .i64 a, .int .i64 b] w fun e w' => e = .returned (.int .i64 (min a b)) ∧ w = w' := by
  by_cases h : a < b
  · have hm := hid (show min a b = a from by omega)
    go_enter Tryd.func79, Tryd.ntmps79
    go_wp2
    go_ret
    exact ⟨by rw [hm.out]; rfl, rfl⟩
  · have hm := hid (show min a b = b from by omega)
    go_enter Tryd.func79, Tryd.ntmps79
    go_wp2
    go_ret
    exact ⟨by rw [hm.out]; rfl, rfl⟩

/-- spec.l01Size of the first n bases, each within its bounds: the product, or one more than MaxCount. -/
def szC (zs : List Int) : Int := min (szL zs) 1000000000001
theorem szC_take (zs : List Int) (k : Nat) (hk : k < zs.length) (h : inB zs (k + 1)) :
    min (szC (zs.take k) * (zs[k]?.getD 0)) 1000000000001 = szC (zs.take (k + 1)) := by
  unfold szC
  rw [szL_take zs k hk]
  have a := (szL_bd zs k (by omega) (fun j hj => h j (by omega))).1
  have hz := h k (by omega)
  obtain ⟨p, hp⟩ : ∃ p, p = szL (zs.take k) := ⟨_, rfl⟩
  obtain ⟨z, hz'⟩ : ∃ z, z = zs[k]?.getD 0 := ⟨_, rfl⟩
  rw [← hp] at a; rw [← hz'] at hz; rw [← hp, ← hz']
  by_cases c : p ≤ 1000000000001
  · rw [show min p 1000000000001 = p from by omega]
  · have h1 : 1000000000001 * 1 ≤ p * z := Int.mul_le_mul (by omega) (by omega) (by omega) (by omega)
    have h2 : 1000000000001 * 2 ≤ 1000000000001 * z := Int.mul_le_mul_of_nonneg_left hz.1 (by omega)
    rw [show min p 1000000000001 = 1000000000001 from by omega]
    omega
theorem szC_zero (zs : List Int) : szC (zs.take 0) = 1 := by
  show min (szL []) 1000000000001 = 1
  rw [szL_nil]; omega
theorem szC_bd (zs : List Int) (k : Nat) (hk : k ≤ zs.length) (h : inB zs k) : 1 ≤ szC (zs.take k) ∧ szC (zs.take k) ≤ 1000000000001 := by
  have a := (szL_bd zs k hk h).1
  unfold szC
  omega
set_option maxHeartbeats 1000000 in
theorem l01Size_any (b n cap : Nat) (zs : List Int) (w : World) (h : Stk w b zs) (hn : n ≤ zs.length) (hin : inB zs n) :
    Calls Tryd.prog 62 #[.slice (some ⟨b, 0, none⟩) n cap] w fun e w' => e = .returned (.int .i64 (szC (zs.take n))) ∧ w = w' := by
  have hC := hid h.2.1
  have hl := Nat.le_trans hn h.2.2.2
  have hI := hid hin
  clear h hin
  go_enter Tryd.func62, Tryd.ntmps62
  go_wp2
  go_loop [3, 4] (fun s i => ∃ k : Nat, k ≤ n ∧ i = .int .i64 k ∧ s = .int .i64 (szC (zs.take k))) (fun _ i => n - (intOf i).toNat)
  case atStart => exact ⟨0, Nat.zero_le _, rfl, by rw [szC_zero]⟩
  case round =>
    obtain ⟨k, hk, rfl, rfl⟩ := hrel
    by_cases hlt : k < n
    · have hx := hC.out k (by omega)
      have hzb := hI.out k hlt
      have hb := szC_bd zs k (by omega) (fun j hj => hI.out j (by omega))
      have HT := hid (szC_take zs k (by omega) (fun j hj => hI.out j (by omega)))
      obtain ⟨p, hp⟩ : ∃ p, p = szC (zs.take k) := ⟨_, rfl⟩
      obtain ⟨z, hz⟩ : ∃ z, z = zs[k]?.getD 0 := ⟨_, rfl⟩
      rw [← hz] at hx hzb HT
      rw [← hp] at hb HT
      rw [← hp]
      have hp' := hid hp; have hz' := hid hz
      clear hp hz
      have s1 : p * z ≤ 100000000000100 := by
        have : p * z ≤ 1000000000001 * 100 := Int.mul_le_mul hb.2 hzb.2 (by omega) (by omega)
        omega
      have s2 : 0 ≤ p * z := Int.mul_nonneg (by omega) (by omega)
      go_wp2_with (go_at_call 79; refine (min_any _ _ _).mono ?_; rintro e w' ⟨rfl, rfl⟩)
      go_round
      case rel => exact ⟨k + 1, by omega, by go_num, by rw [← HT.out]⟩
      case measure => simp [intOf]; omega
    · obtain rfl : k = n := by omega
      go_wp2
      go_ret
      exact ⟨rfl, rfl⟩
theorem szC_ok (zs : List Int) : decide (szC zs ≤ 1000000000000) = decide (szL zs ≤ 1000000000000) := by
  by_cases c : szL zs ≤ 1000000000000
  · simp [c, show szC zs ≤ 1000000000000 from by unfold szC; omega]
  · simp [c, show ¬ szC zs ≤ 1000000000000 from by unfold szC; omega]
set_option maxHeartbeats 1000000 in
theorem l01Ok_any (b n cap : Nat) (zs : List Int) (w : World) (h : Stk w b zs) (hn : n = zs.length) :
    Calls Tryd.prog 77 #[.slice (some ⟨b, 0, none⟩) n cap] w fun e w' => e = .returned (.bool (okL zs)) ∧ w = w' := by
  have hS := hid h
  have hC := hid h.2.1
  have hZ := hid h.2.2.1
  have hl := h.2.2.2
  rw [← hn] at hl
  have hN := hid hn
  clear h hn
  by_cases h1 : n < 1
  · have hf := hid (okL_len0 zs (by rw [← hN.out]; exact h1))
    go_enter Tryd.func77, Tryd.ntmps77
    go_wp2_with (go_at_call 61; refine (inr_no _ _ _ _ (by omega)).mono ?_; rintro e w' ⟨rfl, rfl⟩)
    go_ret
    exact ⟨by rw [hf.out]; rfl, rfl⟩
  by_cases h8 : 8 < n
  · have hf := hid (okL_len9 zs (by rw [← hN.out]; exact h8))
    go_enter Tryd.func77, Tryd.ntmps77
    go_wp2_with (go_at_call 61; refine (inr_no _ _ _ _ (by omega)).mono ?_; rintro e w' ⟨rfl, rfl⟩)
    go_ret
    exact ⟨by rw [hf.out]; rfl, rfl⟩
  go_enter Tryd.func77, Tryd.ntmps77
  go_wp2_with (go_at_call 61; refine (inr_yes _ _ _ _ (by omega)).mono ?_; rintro e w' ⟨rfl, rfl⟩)
  go_loop [3] (fun i => ∃ k : Nat, k ≤ n ∧ i = .int .i64 k ∧ inB zs k) (fun i => n - (intOf i).toNat)
  case atStart => exact ⟨0, Nat.zero_le _, rfl, inB_zero _⟩
  case round =>
    obtain ⟨k, hk, rfl, hin⟩ := hrel
    by_cases hlt : k < n
    · have hltz : k < zs.length := by rw [← hN.out]; exact hlt
      have hx := hC.out k hltz
      have hzb := hZ.out (zs[k]?.getD 0) (by simp [hltz])
      have hHL := hid (okL_low zs k hltz)
      have hHH := hid (okL_high zs k hltz)
      have hHI := hid (fun a b => inB_succ hin a b)
      obtain ⟨z, hz⟩ : ∃ z, z = zs[k]?.getD 0 := ⟨_, rfl⟩
      rw [← hz] at hx hzb hHL hHH hHI
      have hz' := hid hz
      clear hz hin
      by_cases h2 : z < 2
      · have hf := hid (hHL.out h2)
        go_wp2
        go_ret
        exact ⟨by rw [hf.out]; rfl, rfl⟩
      by_cases h3 : 100 < z
      · have hf := hid (hHH.out h3)
        go_wp2
        go_ret
        exact ⟨by rw [hf.out]; rfl, rfl⟩
      have hHi := hid (hHI.out (by omega) (by omega))
      go_wp2
      go_round
      case rel => exact ⟨k + 1, by omega, by go_num, hHi.out⟩
      case measure => simp [intOf]; omega
    · obtain rfl : k = n := by omega
      rw [hN.out] at hin
      have hf' := hid ((okL_end zs (by rw [← hN.out]; omega) (by rw [← hN.out]; omega) hin).trans (szC_ok zs).symm)
      have hi' := hid hin
      have hz := hid (show zs.take k = zs by rw [hN.out, List.take_length])
      clear hin
      go_wp2_with (go_at_call 62; refine (l01Size_any _ _ _ zs _ hS.out (Nat.le_of_eq hN.out) (by rw [hN.out]; exact hi'.out)).mono ?_; rw [hz.out]; rintro e w' ⟨rfl, rfl⟩)
      go_ret
      exact ⟨by rw [hf'.out]; rfl, rfl⟩
end Go.Proofs.YthifegbmpmialaaDoor

namespace Go.Proofs.YthifegbmpmialaaDoor
open Go.RowKit

def QuietR (w : World) (v : Value) (e : Ending) (w' : World) : Prop := e = .returned v ∧ ∃ d, w' = w.drewN d
theorem gcd_step (m n : Int) (hm : 0 ≤ m) (hn : 1 ≤ n) : ∃ r, m.tmod n = r ∧ 0 ≤ r ∧ r < n ∧ r ≤ m ∧ gcdI n r = gcdI m n := by
  refine ⟨m % n, Int.tmod_eq_emod_of_nonneg hm, Int.emod_nonneg _ (by omega), Int.emod_lt_of_pos _ (by omega), ?_, gcdI_flip m n hm (by omega)⟩
  have e := Int.mul_ediv_add_emod m n
  have q := Int.ediv_nonneg hm (show 0 ≤ n by omega)
  have := Int.mul_nonneg (show 0 ≤ n by omega) q
  omega
/-- a value is returned, and what was there before is as it was -/
def GivesB (w : World) (v : Value) (e : Ending) (w' : World) : Prop := e = .returned v ∧ Below w.heap.size w w'
theorem Row.drewN {w : World} {g : Nat} {e : TypeId} {xs : List Value} (h : Row w g e xs) (d : Nat) : Row (w.drewN d) g e xs := h
/-- a fresh pair of numbers into which two have been stored -/
theorem pair_stored (w : World) (T : TypeId) (a b x y : Value) (d : Nat) : ∀ W, W = ((((w.alloc (.cells #[a, b] T)).drewN d).setCell ⟨w.heap.size, 0, none⟩ x).setCell ⟨w.heap.size, 1, none⟩ y) →
    Row W w.heap.size T [x, y] ∧ Below w.heap.size w W ∧ W.heap.size = w.heap.size + 1 := by
  rintro W rfl
  have bel : Below w.heap.size w (w.alloc (.cells #[a, b] T)) := (Below.refl _ w).alloc (Nat.le_refl _) _
  refine ⟨(((Row.new w T [a, b]).drewN d).set 0 x).set 1 y, ((below_drewN bel d).setCell (p := ⟨w.heap.size, 0, none⟩) (Nat.le_refl _) x).setCell (p := ⟨w.heap.size, 1, none⟩) (Nat.le_refl _) y, by simp⟩
def I64 (n : Int) : Prop := -9223372036854775808 ≤ n ∧ n ≤ 9223372036854775807
theorem box2_bel (w : World) (T : TypeId) (x y : Value) : Below w.heap.size w (w.alloc (.cells #[x, y] T)) := (Below.refl _ w).alloc (Nat.le_refl _) _
end Go.Proofs.YthifegbmpmialaaDoor

namespace Go.Proofs.YthifegbmpmialaaDoor
open Go.ChangeShapes Go.WideShapes Go.ChangeAt Go.RowKit
theorem wf64 {n : Int} (h : (Lit.int .i64 n).wf = true) : I64 n := by
  simp only [Lit.wf, Bool.and_eq_true, decide_eq_true_eq] at h
  exact ⟨h.1, h.2⟩
section
variable {H : Type} {enc : TypeId × Value → H} {P : Program} {W : World}
theorem open_ratio {r : Reach} {b0 : Nat} {t : TypeId} {f0 f1 : Field} {v : Value} {d : DataW H} {p : List MemPlace} (hs : P.underlying t = some (.struct #[f0, f1])) (hone : Go.Deep.oneCellFields P #[f0, f1] = true) (hC : P.cellsOf t = 2)
    (k0 : P.underlying f0.type = some (.int .i64)) (k1 : P.underlying f1.type = some (.int .i64))
    (hv : Value.okWide P W r b0 t v) (h : DataW.Trod enc P W 0 (fun _ => true) true t v d p) :
    ∃ x y : Int, v = .agg #[.int .i64 x, .int .i64 y] ∧ I64 x ∧ I64 y := by
  obtain ⟨v0, v1, y0, y1, n, rfl, _, _, g0, g1⟩ := Go.Joins.open_agg2 hs hone hC hv h
  obtain ⟨z0, e0, _, w0⟩ := DataW.trod_int k0 g0
  obtain ⟨z1, e1, _, w1⟩ := DataW.trod_int k1 g1
  simp only [List.cons.injEq, and_true] at e0 e1
  subst e0 e1
  exact ⟨z0, z1, rfl, wf64 w0, wf64 w1⟩
end
end Go.Proofs.YthifegbmpmialaaDoor

namespace Go.Proofs.YthifegbmpmialaaDoor
open Go.RowKit Go.ChangeShapes Go.WideShapes Go.ChangeAt
section
variable {H : Type} {enc : TypeId × Value → H} {P : Program} {W : World}
theorem open_bytesD {t e : TypeId} (ht : P.underlying t = some (.slice e)) (he : P.underlying e = some (.int .u8)) (hc : P.cellsOf e = 1) {n : Nat} {v : Value} {y : DataW H × List MemPlace}
    (h : DataW.trod enc P W 0 (fun _ => true) true n t [v] = some y) : ∃ a len cap zs, v = .slice a len cap ∧ len ≤ 9223372036854775807 ∧ InB W a len zs := by
  rcases open_ints ht he hc h with ⟨hcs, _⟩ | ⟨x, l, c, zs, hcs, _, hl, hm, _⟩
  · obtain rfl : v = .slice none 0 0 := by simpa using hcs
    obtain ⟨zs, hz⟩ := open_bytes ht he hc (d := y.1) (p := y.2) ⟨n, h⟩
    exact ⟨_, _, _, zs, rfl, by omega, hz⟩
  · obtain rfl : v = .slice (some x) l c := by simpa using hcs
    obtain ⟨zs, hz⟩ := open_bytes ht he hc (d := y.1) (p := y.2) ⟨n, h⟩
    exact ⟨_, _, _, zs, rfl, by unfold maxLen at hm; omega, hz⟩
/-- eight bytes within a struct -/
theorem open_octC {t e : TypeId} {c0 c1 c2 c3 c4 c5 c6 c7 : Value} {n : Nat} {y : DataW H × List MemPlace} (ht : P.underlying t = some (.array 8 e)) (he : P.underlying e = some (.int .u8)) (hc : P.cellsOf e = 1)
    (h : DataW.trod enc P W 0 (fun _ => true) true n t [c0, c1, c2, c3, c4, c5, c6, c7] = some y) :
    ∃ d0 d1 d2 d3 d4 d5 d6 d7 : Int, [c0, c1, c2, c3, c4, c5, c6, c7] = [Value.int .u8 d0, .int .u8 d1, .int .u8 d2, .int .u8 d3, .int .u8 d4, .int .u8 d5, .int .u8 d6, .int .u8 d7] ∧ Oct d0 d1 d2 d3 d4 d5 d6 d7 := by
  obtain ⟨xs, m, _, _, _, hl, hall⟩ := DataW.trod_array ht h
  have key : ∀ (i : Nat) (c : Value), i < 8 → ([c0, c1, c2, c3, c4, c5, c6, c7] : List Value)[i]? = some c → ∃ n, c = .int .u8 n ∧ 0 ≤ n ∧ n ≤ 255 := by
    intro i c hi hcc
    have hi' := hall i hi
    rw [hc] at hi'
    have hx : (([c0, c1, c2, c3, c4, c5, c6, c7].drop (i * 1)).take 1) = [c] := by
      rw [Nat.mul_one]
      match i, hi, hcc with
      | 0, _, h | 1, _, h | 2, _, h | 3, _, h | 4, _, h | 5, _, h | 6, _, h | 7, _, h => simp at h; subst h; rfl
    rw [hx] at hi'
    obtain ⟨y, hy⟩ : ∃ y, xs[i]? = some y := ⟨_, List.getElem?_eq_getElem (by omega)⟩
    rw [hy] at hi'
    obtain ⟨n, e0, _, wn⟩ := DataW.trod_int he hi'
    simp only [List.cons.injEq, and_true] at e0
    have := bounds_u8 wn
    exact ⟨n, e0, by omega, by omega⟩
  obtain ⟨d0, rfl, b0⟩ := key 0 c0 (by omega) rfl
  obtain ⟨d1, rfl, b1⟩ := key 1 c1 (by omega) rfl
  obtain ⟨d2, rfl, b2⟩ := key 2 c2 (by omega) rfl
  obtain ⟨d3, rfl, b3⟩ := key 3 c3 (by omega) rfl
  obtain ⟨d4, rfl, b4⟩ := key 4 c4 (by omega) rfl
  obtain ⟨d5, rfl, b5⟩ := key 5 c5 (by omega) rfl
  obtain ⟨d6, rfl, b6⟩ := key 6 c6 (by omega) rfl
  obtain ⟨d7, rfl, b7⟩ := key 7 c7 (by omega) rfl
  exact ⟨d0, d1, d2, d3, d4, d5, d6, d7, rfl, b0, b1, b2, b3, b4, b5, b6, b7⟩
theorem array12 {α : Type} {cs : Array α} (h : cs.size = 12) : ∃ c0 c1 c2 c3 c4 c5 c6 c7 c8 c9 c10 c11, cs = #[c0, c1, c2, c3, c4, c5, c6, c7, c8, c9, c10, c11] := by
  obtain ⟨l⟩ := cs
  simp at h
  match l, h with
  | [c0, c1, c2, c3, c4, c5, c6, c7, c8, c9, c10, c11], _ => exact ⟨c0, c1, c2, c3, c4, c5, c6, c7, c8, c9, c10, c11, rfl⟩
theorem array10 {α : Type} {cs : Array α} (h : cs.size = 10) : ∃ c0 c1 c2 c3 c4 c5 c6 c7 c8 c9, cs = #[c0, c1, c2, c3, c4, c5, c6, c7, c8, c9] := by
  obtain ⟨l⟩ := cs
  simp at h
  match l, h with
  | [c0, c1, c2, c3, c4, c5, c6, c7, c8, c9], _ => exact ⟨c0, c1, c2, c3, c4, c5, c6, c7, c8, c9, rfl⟩
/-- the places of a device's fields -/
def devFields (P : Program) (f0 f1 f2 f3 f4 : Field) : Bool :=
  f0.offset == 0 && P.cellsOf f0.type == 1 && (f1.offset == 1 && P.cellsOf f1.type == 8) && (f2.offset == 9 && P.cellsOf f2.type == 1) && (f3.offset == 10 && P.cellsOf f3.type == 1) && (f4.offset == 11 && P.cellsOf f4.type == 1)
theorem open_device {r : Reach} {b0 : Nat} {t eB eD : TypeId} {f0 f1 f2 f3 f4 : Field} {v : Value} {d : DataW H} {p : List MemPlace} (hs : P.underlying t = some (.struct #[f0, f1, f2, f3, f4])) (hone : devFields P f0 f1 f2 f3 f4 = true) (hC : P.cellsOf t = 12)
    (tB : P.underlying f0.type = some (.slice eB)) (uB : P.underlying eB = some (.int .u8)) (cB : P.cellsOf eB = 1) (tD : P.underlying f1.type = some (.array 8 eD)) (uD : P.underlying eD = some (.int .u8)) (cD : P.cellsOf eD = 1)
    (k2 : P.underlying f2.type = some (.int .i64)) (k3 : P.underlying f3.type = some .bool) (k4 : P.underlying f4.type = some (.int .i64))
    (hv : Value.okWide P W r b0 t v) (h : DataW.Trod enc P W 0 (fun _ => true) true t v d p) :
    ∃ a len cap zs d0 d1 d2 d3 d4 d5 d6 d7 pr st tk, v = .agg #[.slice a len cap, .int .u8 d0, .int .u8 d1, .int .u8 d2, .int .u8 d3, .int .u8 d4, .int .u8 d5, .int .u8 d6, .int .u8 d7, .int .i64 pr, .bool st, .int .i64 tk] ∧ len ≤ 9223372036854775807 ∧ InB W a len zs ∧ Oct d0 d1 d2 d3 d4 d5 d6 d7 ∧ I64 pr ∧ I64 tk := by
  obtain ⟨cs, rfl, hsz⟩ := okWide_struct hs hv
  obtain ⟨c0, c1, c2, c3, c4, c5, c6, c7, c8, c9, c10, c11, rfl⟩ := array12 (hsz.trans hC)
  obtain ⟨fuel, hf⟩ := h
  obtain ⟨xs, n, _, _, hl, hlen, hf⟩ := DataW.trod_struct hs hf
  simp only [devFields, Bool.and_eq_true, beq_iff_eq] at hone
  obtain ⟨⟨⟨⟨⟨o0, s0⟩, o1, s1⟩, o2, s2⟩, o3, s3⟩, o4, s4⟩ := hone
  match xs, hlen with
  | [y0, y1, y2, y3, y4], _ =>
    have g0 := hf 0 f0 rfl
    have g1 := hf 1 f1 rfl
    have g2 := hf 2 f2 rfl
    have g3 := hf 3 f3 rfl
    have g4 := hf 4 f4 rfl
    simp [Value.cells, o0, s0] at g0
    simp [Value.cells, o1, s1] at g1
    simp [Value.cells, o2, s2] at g2
    simp [Value.cells, o3, s3] at g3
    simp [Value.cells, o4, s4] at g4
    obtain ⟨a, len, cap, zs, rfl, hll, hz⟩ := open_bytesD tB uB cB g0
    obtain ⟨d0, d1, d2, d3, d4, d5, d6, d7, e1, ho⟩ := open_octC tD uD cD g1
    obtain ⟨z2, e2, _, w2⟩ := DataW.trod_int k2 g2
    obtain ⟨z3, e3, _⟩ := DataW.trod_bool k3 g3
    obtain ⟨z4, e4, _, w4⟩ := DataW.trod_int k4 g4
    simp only [List.cons.injEq, and_true] at e1 e2 e3 e4
    obtain ⟨rfl, rfl, rfl, rfl, rfl, rfl, rfl, rfl⟩ := e1
    subst e2 e3 e4
    exact ⟨a, len, cap, zs, d0, d1, d2, d3, d4, d5, d6, d7, z2, z3, z4, rfl, hll, hz, ho, wf64 w2, wf64 w4⟩
def tickFields (P : Program) (f0 f1 f2 : Field) : Bool :=
  f0.offset == 0 && P.cellsOf f0.type == 1 && (f1.offset == 1 && P.cellsOf f1.type == 8) && (f2.offset == 9 && P.cellsOf f2.type == 1)
theorem open_ticket {r : Reach} {b0 : Nat} {t eD : TypeId} {f0 f1 f2 : Field} {v : Value} {d : DataW H} {p : List MemPlace} (hs : P.underlying t = some (.struct #[f0, f1, f2])) (hone : tickFields P f0 f1 f2 = true) (hC : P.cellsOf t = 10)
    (k0 : P.underlying f0.type = some (.int .i64)) (tD : P.underlying f1.type = some (.array 8 eD)) (uD : P.underlying eD = some (.int .u8)) (cD : P.cellsOf eD = 1) (k2 : P.underlying f2.type = some (.int .u16))
    (hv : Value.okWide P W r b0 t v) (h : DataW.Trod enc P W 0 (fun _ => true) true t v d p) :
    ∃ x d0 d1 d2 d3 d4 d5 d6 d7 c, v = .agg #[.int .i64 x, .int .u8 d0, .int .u8 d1, .int .u8 d2, .int .u8 d3, .int .u8 d4, .int .u8 d5, .int .u8 d6, .int .u8 d7, .int .u16 c] ∧ I64 x ∧ Oct d0 d1 d2 d3 d4 d5 d6 d7 ∧ (0 ≤ c ∧ c ≤ 65535) := by
  obtain ⟨cs, rfl, hsz⟩ := okWide_struct hs hv
  obtain ⟨c0, c1, c2, c3, c4, c5, c6, c7, c8, c9, rfl⟩ := array10 (hsz.trans hC)
  obtain ⟨fuel, hf⟩ := h
  obtain ⟨xs, n, _, _, hl, hlen, hf⟩ := DataW.trod_struct hs hf
  simp only [tickFields, Bool.and_eq_true, beq_iff_eq] at hone
  obtain ⟨⟨⟨o0, s0⟩, o1, s1⟩, o2, s2⟩ := hone
  match xs, hlen with
  | [y0, y1, y2], _ =>
    have g0 := hf 0 f0 rfl
    have g1 := hf 1 f1 rfl
    have g2 := hf 2 f2 rfl
    simp [Value.cells, o0, s0] at g0
    simp [Value.cells, o1, s1] at g1
    simp [Value.cells, o2, s2] at g2
    obtain ⟨z0, e0, _, w0⟩ := DataW.trod_int k0 g0
    obtain ⟨d0, d1, d2, d3, d4, d5, d6, d7, e1, ho⟩ := open_octC tD uD cD g1
    obtain ⟨z2, e2, _, w2⟩ := DataW.trod_int k2 g2
    simp only [List.cons.injEq, and_true] at e0 e1 e2
    obtain ⟨rfl, rfl, rfl, rfl, rfl, rfl, rfl, rfl⟩ := e1
    subst e0 e2
    exact ⟨z0, d0, d1, d2, d3, d4, d5, d6, d7, z2, rfl, wf64 w0, ho, bounds_u16 w2⟩
end
theorem szDevice_ok (a : Option Addr) (len cap : Nat) (d0 d1 d2 d3 d4 d5 d6 d7 : Int) (pr : Int) (st : Bool) (tk : Int) (w : World) (h : len ≤ 1048576) :
    Calls Tryd.prog 9 #[.agg #[.slice a len cap, .int .u8 d0, .int .u8 d1, .int .u8 d2, .int .u8 d3, .int .u8 d4, .int .u8 d5, .int .u8 d6, .int .u8 d7, .int .i64 pr, .bool st, .int .i64 tk], .int .i64 1048576] w fun e w' => e = .returned (.int .i64 (1048576 - len)) ∧ w.alloc (.cells #[.slice a len cap, .int .u8 d0, .int .u8 d1, .int .u8 d2, .int .u8 d3, .int .u8 d4, .int .u8 d5, .int .u8 d6, .int .u8 d7, .int .i64 pr, .bool st, .int .i64 tk] 25) = w' := by
  have h1 : (0 : Int) ≤ 1048576 - (len : Int) := by omega
  go_enter Tryd.func9, Tryd.ntmps9
  go_wp2
  go_ret
  exact ⟨rfl, rfl⟩
theorem szDevice_no (a : Option Addr) (len cap : Nat) (d0 d1 d2 d3 d4 d5 d6 d7 : Int) (pr : Int) (st : Bool) (tk : Int) (w : World) (h : 1048576 < len) (hl : len ≤ 9223372036854775807) :
    Calls Tryd.prog 9 #[.agg #[.slice a len cap, .int .u8 d0, .int .u8 d1, .int .u8 d2, .int .u8 d3, .int .u8 d4, .int .u8 d5, .int .u8 d6, .int .u8 d7, .int .i64 pr, .bool st, .int .i64 tk], .int .i64 1048576] w fun e w' => e = .returned (.int .i64 (-1)) ∧ w.alloc (.cells #[.slice a len cap, .int .u8 d0, .int .u8 d1, .int .u8 d2, .int .u8 d3, .int .u8 d4, .int .u8 d5, .int .u8 d6, .int .u8 d7, .int .i64 pr, .bool st, .int .i64 tk] 25) = w' := by
  have h1 : 1048576 - (len : Int) < 0 := by omega
  clear h
  go_enter Tryd.func9, Tryd.ntmps9
  go_wp2
  go_ret
  exact ⟨rfl, rfl⟩
theorem boxD_bel (w : World) (T : TypeId) (cs : Array Value) : Below w.heap.size w (w.alloc (.cells cs T)) := (Below.refl _ w).alloc (Nat.le_refl _) _
set_option maxRecDepth 100000 in
set_option maxHeartbeats 2000000 in
theorem eqDevice_same (b1 b2 n c1 c2 : Nat) (zs : List Int) (d0 d1 d2 d3 d4 d5 d6 d7 : Int) (pr : Int) (st : Bool) (tk : Int) (w : World) (h1 : Stk w b1 zs) (h2 : Stk w b2 zs) (hn : n = zs.length) :
    Calls Tryd.prog 14 #[.agg #[.slice (some ⟨b1, 0, none⟩) n c1, .int .u8 d0, .int .u8 d1, .int .u8 d2, .int .u8 d3, .int .u8 d4, .int .u8 d5, .int .u8 d6, .int .u8 d7, .int .i64 pr, .bool st, .int .i64 tk], .agg #[.slice (some ⟨b2, 0, none⟩) n c2, .int .u8 d0, .int .u8 d1, .int .u8 d2, .int .u8 d3, .int .u8 d4, .int .u8 d5, .int .u8 d6, .int .u8 d7, .int .i64 pr, .bool st, .int .i64 tk]] w fun e w' => e = .returned (.bool true) ∧ Below w.heap.size w w' := by
  obtain ⟨W, hW⟩ : ∃ W, W = (w.alloc (.cells #[.slice (some ⟨b1, 0, none⟩) n c1, .int .u8 d0, .int .u8 d1, .int .u8 d2, .int .u8 d3, .int .u8 d4, .int .u8 d5, .int .u8 d6, .int .u8 d7, .int .i64 pr, .bool st, .int .i64 tk] 33)).alloc (.cells #[.slice (some ⟨b2, 0, none⟩) n c2, .int .u8 d0, .int .u8 d1, .int .u8 d2, .int .u8 d3, .int .u8 d4, .int .u8 d5, .int .u8 d6, .int .u8 d7, .int .i64 pr, .bool st, .int .i64 tk] 33) := ⟨_, rfl⟩
  have bel : Below w.heap.size w W := by rw [hW]; exact (boxD_bel w _ _).alloc (by simp) _
  have r1 : Row W w.heap.size 33 [.slice (some ⟨b1, 0, none⟩) n c1, .int .u8 d0, .int .u8 d1, .int .u8 d2, .int .u8 d3, .int .u8 d4, .int .u8 d5, .int .u8 d6, .int .u8 d7, .int .i64 pr, .bool st, .int .i64 tk] := by rw [hW]; exact (Row.new w _ _).alloc _
  have r2 : Row W (w.heap.size + 1) 33 [.slice (some ⟨b2, 0, none⟩) n c2, .int .u8 d0, .int .u8 d1, .int .u8 d2, .int .u8 d3, .int .u8 d4, .int .u8 d5, .int .u8 d6, .int .u8 d7, .int .i64 pr, .bool st, .int .i64 tk] := by
    have h := Row.new (w.alloc (.cells #[.slice (some ⟨b1, 0, none⟩) n c1, .int .u8 d0, .int .u8 d1, .int .u8 d2, .int .u8 d3, .int .u8 d4, .int .u8 d5, .int .u8 d6, .int .u8 d7, .int .i64 pr, .bool st, .int .i64 tk] 33)) 33 [.slice (some ⟨b2, 0, none⟩) n c2, .int .u8 d0, .int .u8 d1, .int .u8 d2, .int .u8 d3, .int .u8 d4, .int .u8 d5, .int .u8 d6, .int .u8 d7, .int .i64 pr, .bool st, .int .i64 tk]
    simp only [World.size_alloc] at h
    rw [hW]; exact h
  have R1 := hid r1
  have R2 := hid r2
  have HE := hid (eqStack_same b1 b2 n c1 c2 zs _ (h1.below bel h1.1) (h2.below bel h2.1) hn)
  have l1 := r1.lt
  have l2 := r2.lt
  have BE := hid bel
  have HW := hid hW
  have n1 : (pr != pr) = false := by simp
  have n2 : (st != st) = false := by simp
  have n3 : (tk != tk) = false := by simp
  clear h1 h2 hn r1 r2 bel hW
  go_enter Tryd.func14, Tryd.ntmps14
  go_wp2_with fail
  rw [← HW.out]
  refine HE.out.mono ?_
  rintro e w1 ⟨rfl, hB1⟩
  have s1 := R1.out.below hB1 l1
  have s2 := R2.out.below hB1 l2
  have S1 := hid s1
  have S2 := hid s2
  have p1 := s1.cell 1; have p2 := s1.cell 2; have p3 := s1.cell 3; have p4 := s1.cell 4; have p5 := s1.cell 5; have p6 := s1.cell 6; have p7 := s1.cell 7; have p8 := s1.cell 8; have q1 := s2.cell 1; have q2 := s2.cell 2; have q3 := s2.cell 3; have q4 := s2.cell 4; have q5 := s2.cell 5; have q6 := s2.cell 6; have q7 := s2.cell 7; have q8 := s2.cell 8
  simp only [List.getElem?_cons_zero, List.getElem?_cons_succ] at p1 p2 p3 p4 p5 p6 p7 p8 q1 q2 q3 q4 q5 q6 q7 q8
  clear s1 s2
  go_wp2_with fail
  refine (eqDigits_same _ _ _ _ _ _ _ _ _).mono ?_
  rintro e w2 ⟨rfl, hB2⟩
  have hz1 := hB1.size
  have s1 := S1.out.below hB2 (by omega)
  have s2 := S2.out.below hB2 (by omega)
  clear p1 p2 p3 p4 p5 p6 p7 p8 q1 q2 q3 q4 q5 q6 q7 q8
  have p9 := s1.cell 9; have p10 := s1.cell 10; have p11 := s1.cell 11; have q9 := s2.cell 9; have q10 := s2.cell 10; have q11 := s2.cell 11
  simp only [List.getElem?_cons_zero, List.getElem?_cons_succ] at p9 p10 p11 q9 q10 q11
  clear s1 s2
  go_wp2_with fail
  go_ret
  exact ⟨rfl, BE.out.trans ((hB1.mono BE.out.size).trans (hB2.mono (by have := BE.out.size; omega)))⟩
theorem cell_apartD {W : World} {a p : Addr} {u : Value} (h : p.block ≠ a.block) : (W.setCell a u).cell? p = W.cell? p := World.cell?_of_block (Below.heap_setCell W a u p.block h)
/-- a copy of a device -/
def DeR (w : World) (zs : List Int) (len : Nat) (d0 d1 d2 d3 d4 d5 d6 d7 : Int) (pr : Int) (st : Bool) (tk : Int) (e : Ending) (w' : World) : Prop :=
  ∃ B, e = .returned (.agg #[.slice (some ⟨B, 0, none⟩) len len, .int .u8 d0, .int .u8 d1, .int .u8 d2, .int .u8 d3, .int .u8 d4, .int .u8 d5, .int .u8 d6, .int .u8 d7, .int .i64 pr, .bool st, .int .i64 tk]) ∧ Below w.heap.size w w' ∧ Stk w' B zs ∧ w.heap.size ≤ B
set_option maxRecDepth 100000 in
set_option maxHeartbeats 4000000 in
theorem toDevice_any (a : Option Addr) (len cap : Nat) (zs : List Int) (d0 d1 d2 d3 d4 d5 d6 d7 : Int) (pr : Int) (st : Bool) (tk : Int) (w : World) (h : InB w a len zs) (hl : len ≤ 1048576) :
    Calls Tryd.prog 11 #[.agg #[.slice a len cap, .int .u8 d0, .int .u8 d1, .int .u8 d2, .int .u8 d3, .int .u8 d4, .int .u8 d5, .int .u8 d6, .int .u8 d7, .int .i64 pr, .bool st, .int .i64 tk]] w (DeR w zs len d0 d1 d2 d3 d4 d5 d6 d7 pr st tk) := by
  obtain ⟨U, hU⟩ : ∃ U, U = (((w.alloc (.cells #[.slice a len cap, .int .u8 d0, .int .u8 d1, .int .u8 d2, .int .u8 d3, .int .u8 d4, .int .u8 d5, .int .u8 d6, .int .u8 d7, .int .i64 pr, .bool st, .int .i64 tk] 25)).alloc (.cells #[.slice none 0 0, .int .u8 0, .int .u8 0, .int .u8 0, .int .u8 0, .int .u8 0, .int .u8 0, .int .u8 0, .int .u8 0, .int .i64 0, .bool false, .int .i64 0] 33)).alloc (.cells #[.slice none 0 0, .int .u8 0, .int .u8 0, .int .u8 0, .int .u8 0, .int .u8 0, .int .u8 0, .int .u8 0, .int .u8 0, .int .i64 0, .bool false, .int .i64 0] 33)) := ⟨_, rfl⟩
  have bel : Below w.heap.size w U := by rw [hU]; exact (((Below.refl _ w).alloc (Nat.le_refl _) _).alloc (by simp) _).alloc (by simp; omega) _
  have rA : Row U w.heap.size 25 [.slice a len cap, .int .u8 d0, .int .u8 d1, .int .u8 d2, .int .u8 d3, .int .u8 d4, .int .u8 d5, .int .u8 d6, .int .u8 d7, .int .i64 pr, .bool st, .int .i64 tk] := by rw [hU]; exact ((Row.new w _ _).alloc _).alloc _
  have r1 : Row U (w.heap.size + 1) 33 [.slice none 0 0, .int .u8 0, .int .u8 0, .int .u8 0, .int .u8 0, .int .u8 0, .int .u8 0, .int .u8 0, .int .u8 0, .int .i64 0, .bool false, .int .i64 0] := by
    have h := (Row.new (w.alloc (.cells #[.slice a len cap, .int .u8 d0, .int .u8 d1, .int .u8 d2, .int .u8 d3, .int .u8 d4, .int .u8 d5, .int .u8 d6, .int .u8 d7, .int .i64 pr, .bool st, .int .i64 tk] 25)) 33 [.slice none 0 0, .int .u8 0, .int .u8 0, .int .u8 0, .int .u8 0, .int .u8 0, .int .u8 0, .int .u8 0, .int .u8 0, .int .i64 0, .bool false, .int .i64 0]).alloc (.cells #[.slice none 0 0, .int .u8 0, .int .u8 0, .int .u8 0, .int .u8 0, .int .u8 0, .int .u8 0, .int .u8 0, .int .u8 0, .int .i64 0, .bool false, .int .i64 0] 33)
    simp only [World.size_alloc] at h
    rw [hU]; exact h
  have r2 : Row U (w.heap.size + 1 + 1) 33 [.slice none 0 0, .int .u8 0, .int .u8 0, .int .u8 0, .int .u8 0, .int .u8 0, .int .u8 0, .int .u8 0, .int .u8 0, .int .i64 0, .bool false, .int .i64 0] := by
    have h := Row.new ((w.alloc (.cells #[.slice a len cap, .int .u8 d0, .int .u8 d1, .int .u8 d2, .int .u8 d3, .int .u8 d4, .int .u8 d5, .int .u8 d6, .int .u8 d7, .int .i64 pr, .bool st, .int .i64 tk] 25)).alloc (.cells #[.slice none 0 0, .int .u8 0, .int .u8 0, .int .u8 0, .int .u8 0, .int .u8 0, .int .u8 0, .int .u8 0, .int .u8 0, .int .i64 0, .bool false, .int .i64 0] 33)) 33 [.slice none 0 0, .int .u8 0, .int .u8 0, .int .u8 0, .int .u8 0, .int .u8 0, .int .u8 0, .int .u8 0, .int .u8 0, .int .i64 0, .bool false, .int .i64 0]
    simp only [World.size_alloc] at h
    rw [hU]; exact h
  have sU : U.heap.size = w.heap.size + 1 + 1 + 1 := by rw [hU]; simp
  have HU := hid hU
  have RA := hid rA
  have R1 := hid r1
  have R2 := hid r2
  have SU := hid sU
  have BE := hid bel
  have hI := hid (h.below bel (Nat.le_refl _))
  clear h r1 r2 rA bel sU hU
  go_enter Tryd.func11, Tryd.ntmps11
  go_wp2_with fail
  rw [← HU.out]
  refine (toStack_any a len cap zs _ hI.out hl).mono ?_
  rintro e w1 ⟨rfl, hB1, hS1, hz1⟩
  rw [SU.out] at hB1 hS1 hz1 ⊢
  have q1 := R1.out.below hB1 (by omega)
  have q2 := R2.out.below hB1 (by omega)
  have qa := RA.out.below hB1 (by omega)
  have hbs : Below w.heap.size w w1 := BE.out.trans (hB1.mono (by omega))
  have HS := hid hS1
  obtain ⟨V0, hV0⟩ : ∃ V, V = w1.setCell ⟨w.heap.size + 1 + 1, 0, none⟩ (.slice (some ⟨w.heap.size + 1 + 1 + 1, 0, none⟩) len len) := ⟨_, rfl⟩
  have ne1 : w.heap.size + 1 + 1 ≠ w.heap.size + 1 := by omega
  have nea : w.heap.size + 1 + 1 ≠ w.heap.size := by omega
  have Q1 := hid (show Row V0 (w.heap.size + 1) 33 [.slice none 0 0, .int .u8 0, .int .u8 0, .int .u8 0, .int .u8 0, .int .u8 0, .int .u8 0, .int .u8 0, .int .u8 0, .int .i64 0, .bool false, .int .i64 0] by rw [hV0]; exact q1.other ne1 _)
  have Q2 := hid (show Row V0 (w.heap.size + 1 + 1) 33 [.slice (some ⟨w.heap.size + 1 + 1 + 1, 0, none⟩) len len, .int .u8 0, .int .u8 0, .int .u8 0, .int .u8 0, .int .u8 0, .int .u8 0, .int .u8 0, .int .u8 0, .int .i64 0, .bool false, .int .i64 0] by rw [hV0]; exact q2.set 0 _)
  have QA0 := (show Row V0 w.heap.size 25 [.slice a len cap, .int .u8 d0, .int .u8 d1, .int .u8 d2, .int .u8 d3, .int .u8 d4, .int .u8 d5, .int .u8 d6, .int .u8 d7, .int .i64 pr, .bool st, .int .i64 tk] by rw [hV0]; exact qa.other nea _)
  have QA := hid QA0
  have B0 := hid (show Below w.heap.size w V0 by rw [hV0]; exact hbs.setCell (p := ⟨w.heap.size + 1 + 1, 0, none⟩) (by show w.heap.size ≤ w.heap.size + 1 + 1; omega) _)
  have S0 := hid (show Stk V0 (w.heap.size + 1 + 1 + 1) zs by
    rw [hV0]
    refine ⟨by rw [World.size_setCell]; exact HS.out.1, fun j hj => ?_, HS.out.2.2⟩
    rw [cell_apartD (by show w.heap.size + 1 + 1 + 1 ≠ w.heap.size + 1 + 1; omega)]
    exact HS.out.2.1 j hj)
  have Z0 := hid (show V0.heap.size = w1.heap.size by rw [hV0]; simp)
  have HV0 := hid hV0
  have k0 := q2.cell 0
  have f0 := q2.frozen 0
  simp only [List.getElem?_cons_zero] at k0
  have p1 := QA0.cell 1; have p2 := QA0.cell 2; have p3 := QA0.cell 3; have p4 := QA0.cell 4; have p5 := QA0.cell 5; have p6 := QA0.cell 6; have p7 := QA0.cell 7; have p8 := QA0.cell 8
  simp only [List.getElem?_cons_zero, List.getElem?_cons_succ] at p1 p2 p3 p4 p5 p6 p7 p8
  clear q1 q2 qa hB1 hS1 hbs QA0
  go_upto_region 3 with fail
  rw [← HV0.out]
  clear k0 f0 hV0
  go_wp2_with fail
  refine (toDigits_any d0 d1 d2 d3 d4 d5 d6 d7 _).mono ?_
  rintro e w2 ⟨rfl, hB2⟩
  have hz2 := hB2.size
  rw [Z0.out] at hz2
  have q1 := Q1.out.below hB2 (by rw [Z0.out]; omega)
  have q2 := Q2.out.below hB2 (by rw [Z0.out]; omega)
  have qa := QA.out.below hB2 (by rw [Z0.out]; omega)
  have HB := hid (B0.out.trans (hB2.mono (by rw [Z0.out]; omega)))
  have HS2 := hid (S0.out.below hB2 (by rw [Z0.out]; omega))
  obtain ⟨V, hV⟩ : ∃ V, V = (((((((((((w2.setCell ⟨w.heap.size + 1 + 1, 1, none⟩ (.int .u8 d0)).setCell ⟨w.heap.size + 1 + 1, 2, none⟩ (.int .u8 d1)).setCell ⟨w.heap.size + 1 + 1, 3, none⟩ (.int .u8 d2)).setCell ⟨w.heap.size + 1 + 1, 4, none⟩ (.int .u8 d3)).setCell ⟨w.heap.size + 1 + 1, 5, none⟩ (.int .u8 d4)).setCell ⟨w.heap.size + 1 + 1, 6, none⟩ (.int .u8 d5)).setCell ⟨w.heap.size + 1 + 1, 7, none⟩ (.int .u8 d6)).setCell ⟨w.heap.size + 1 + 1, 8, none⟩ (.int .u8 d7)).setCell ⟨w.heap.size + 1 + 1, 9, none⟩ (.int .i64 pr)).setCell ⟨w.heap.size + 1 + 1, 10, none⟩ (.bool st)).setCell ⟨w.heap.size + 1 + 1, 11, none⟩ (.int .i64 tk)) := ⟨_, rfl⟩
  have rV : Row V (w.heap.size + 1 + 1) 33 [.slice (some ⟨w.heap.size + 1 + 1 + 1, 0, none⟩) len len, .int .u8 d0, .int .u8 d1, .int .u8 d2, .int .u8 d3, .int .u8 d4, .int .u8 d5, .int .u8 d6, .int .u8 d7, .int .i64 pr, .bool st, .int .i64 tk] := by rw [hV]; exact (((((((((((q2.set 1 _).set 2 _).set 3 _).set 4 _).set 5 _).set 6 _).set 7 _).set 8 _).set 9 _).set 10 _).set 11 _)
  have rV1 : Row V (w.heap.size + 1) 33 [.slice none 0 0, .int .u8 0, .int .u8 0, .int .u8 0, .int .u8 0, .int .u8 0, .int .u8 0, .int .u8 0, .int .u8 0, .int .i64 0, .bool false, .int .i64 0] := by
    rw [hV]
    have ne : w.heap.size + 1 + 1 ≠ w.heap.size + 1 := by omega
    exact (((((((((((q1.other ne _).other ne _).other ne _).other ne _).other ne _).other ne _).other ne _).other ne _).other ne _).other ne _).other ne _)
  have HVV := hid hV
  have RV := hid rV
  have RV1 := hid rV1
  clear p1 p2 p3 p4 p5 p6 p7 p8
  have p9 := qa.cell 9; have p10 := qa.cell 10; have p11 := qa.cell 11
  have k1 := q2.cell 1; have k2 := q2.cell 2; have k3 := q2.cell 3; have k4 := q2.cell 4; have k5 := q2.cell 5; have k6 := q2.cell 6; have k7 := q2.cell 7; have k8 := q2.cell 8; have k9 := q2.cell 9; have k10 := q2.cell 10; have k11 := q2.cell 11
  have f1 := q2.frozen 1; have f2 := q2.frozen 2; have f3 := q2.frozen 3; have f4 := q2.frozen 4; have f5 := q2.frozen 5; have f6 := q2.frozen 6; have f7 := q2.frozen 7; have f8 := q2.frozen 8; have f9 := q2.frozen 9; have f10 := q2.frozen 10; have f11 := q2.frozen 11
  simp only [List.getElem?_cons_zero, List.getElem?_cons_succ] at p9 p10 p11 k1 k2 k3 k4 k5 k6 k7 k8 k9 k10 k11
  clear q1 q2 qa hV rV rV1 hB2
  go_upto_region 7 with fail
  rw [← HVV.out]
  have D0 := RV.out.cell 0; have D1 := RV.out.cell 1; have D2 := RV.out.cell 2; have D3 := RV.out.cell 3; have D4 := RV.out.cell 4; have D5 := RV.out.cell 5; have D6 := RV.out.cell 6; have D7 := RV.out.cell 7; have D8 := RV.out.cell 8; have D9 := RV.out.cell 9; have D10 := RV.out.cell 10; have D11 := RV.out.cell 11
  have E0 := RV1.out.cell 0; have E1 := RV1.out.cell 1; have E2 := RV1.out.cell 2; have E3 := RV1.out.cell 3; have E4 := RV1.out.cell 4; have E5 := RV1.out.cell 5; have E6 := RV1.out.cell 6; have E7 := RV1.out.cell 7; have E8 := RV1.out.cell 8; have E9 := RV1.out.cell 9; have E10 := RV1.out.cell 10; have E11 := RV1.out.cell 11
  have G0 := RV1.out.frozen 0; have G1 := RV1.out.frozen 1; have G2 := RV1.out.frozen 2; have G3 := RV1.out.frozen 3; have G4 := RV1.out.frozen 4; have G5 := RV1.out.frozen 5; have G6 := RV1.out.frozen 6; have G7 := RV1.out.frozen 7; have G8 := RV1.out.frozen 8; have G9 := RV1.out.frozen 9; have G10 := RV1.out.frozen 10; have G11 := RV1.out.frozen 11
  simp only [List.getElem?_cons_zero, List.getElem?_cons_succ] at D0 D1 D2 D3 D4 D5 D6 D7 D8 D9 D10 D11 E0 E1 E2 E3 E4 E5 E6 E7 E8 E9 E10 E11
  clear p9 p10 p11 k1 k2 k3 k4 k5 k6 k7 k8 k9 k10 k11 f1 f2 f3 f4 f5 f6 f7 f8 f9 f10 f11
  go_wp2_with fail
  clear D0 D1 D2 D3 D4 D5 D6 D7 D8 D9 D10 D11 E0 E1 E2 E3 E4 E5 E6 E7 E8 E9 E10 E11 G0 G1 G2 G3 G4 G5 G6 G7 G8 G9 G10 G11
  have le1 : w.heap.size ≤ w.heap.size + 1 := by omega
  have le2 : w.heap.size ≤ w.heap.size + 1 + 1 := by omega
  have bV : Below w.heap.size w V := by
    rw [HVV.out]
    exact (((((((((((HB.out.setCell (p := ⟨w.heap.size + 1 + 1, 1, none⟩) le2 _).setCell (p := ⟨w.heap.size + 1 + 1, 2, none⟩) le2 _).setCell (p := ⟨w.heap.size + 1 + 1, 3, none⟩) le2 _).setCell (p := ⟨w.heap.size + 1 + 1, 4, none⟩) le2 _).setCell (p := ⟨w.heap.size + 1 + 1, 5, none⟩) le2 _).setCell (p := ⟨w.heap.size + 1 + 1, 6, none⟩) le2 _).setCell (p := ⟨w.heap.size + 1 + 1, 7, none⟩) le2 _).setCell (p := ⟨w.heap.size + 1 + 1, 8, none⟩) le2 _).setCell (p := ⟨w.heap.size + 1 + 1, 9, none⟩) le2 _).setCell (p := ⟨w.heap.size + 1 + 1, 10, none⟩) le2 _).setCell (p := ⟨w.heap.size + 1 + 1, 11, none⟩) le2 _)
  obtain ⟨Y, hY⟩ : ∃ Y, Y = ((((((((((((V.setCell ⟨w.heap.size + 1, 0, none⟩ (.slice (some ⟨w.heap.size + 1 + 1 + 1, 0, none⟩) len len)).setCell ⟨w.heap.size + 1, 1, none⟩ (.int .u8 d0)).setCell ⟨w.heap.size + 1, 2, none⟩ (.int .u8 d1)).setCell ⟨w.heap.size + 1, 3, none⟩ (.int .u8 d2)).setCell ⟨w.heap.size + 1, 4, none⟩ (.int .u8 d3)).setCell ⟨w.heap.size + 1, 5, none⟩ (.int .u8 d4)).setCell ⟨w.heap.size + 1, 6, none⟩ (.int .u8 d5)).setCell ⟨w.heap.size + 1, 7, none⟩ (.int .u8 d6)).setCell ⟨w.heap.size + 1, 8, none⟩ (.int .u8 d7)).setCell ⟨w.heap.size + 1, 9, none⟩ (.int .i64 pr)).setCell ⟨w.heap.size + 1, 10, none⟩ (.bool st)).setCell ⟨w.heap.size + 1, 11, none⟩ (.int .i64 tk)) := ⟨_, rfl⟩
  rw [← hY]
  have rY : Row Y (w.heap.size + 1) 33 [.slice (some ⟨w.heap.size + 1 + 1 + 1, 0, none⟩) len len, .int .u8 d0, .int .u8 d1, .int .u8 d2, .int .u8 d3, .int .u8 d4, .int .u8 d5, .int .u8 d6, .int .u8 d7, .int .i64 pr, .bool st, .int .i64 tk] := by rw [hY]; exact ((((((((((((RV1.out.set 0 _).set 1 _).set 2 _).set 3 _).set 4 _).set 5 _).set 6 _).set 7 _).set 8 _).set 9 _).set 10 _).set 11 _)
  have bY : Below w.heap.size w Y := by
    rw [hY]
    exact ((((((((((((bV.setCell (p := ⟨w.heap.size + 1, 0, none⟩) le1 _).setCell (p := ⟨w.heap.size + 1, 1, none⟩) le1 _).setCell (p := ⟨w.heap.size + 1, 2, none⟩) le1 _).setCell (p := ⟨w.heap.size + 1, 3, none⟩) le1 _).setCell (p := ⟨w.heap.size + 1, 4, none⟩) le1 _).setCell (p := ⟨w.heap.size + 1, 5, none⟩) le1 _).setCell (p := ⟨w.heap.size + 1, 6, none⟩) le1 _).setCell (p := ⟨w.heap.size + 1, 7, none⟩) le1 _).setCell (p := ⟨w.heap.size + 1, 8, none⟩) le1 _).setCell (p := ⟨w.heap.size + 1, 9, none⟩) le1 _).setCell (p := ⟨w.heap.size + 1, 10, none⟩) le1 _).setCell (p := ⟨w.heap.size + 1, 11, none⟩) le1 _)
  have zY : Y.heap.size = w2.heap.size := by rw [hY, HVV.out]; simp
  have cY : ∀ (j : Nat), Y.cell? ⟨w.heap.size + 1 + 1 + 1, j, none⟩ = w2.cell? ⟨w.heap.size + 1 + 1 + 1, j, none⟩ := fun j => by
    have n1 : w.heap.size + 1 + 1 + 1 ≠ w.heap.size + 1 := by omega
    have n2 : w.heap.size + 1 + 1 + 1 ≠ w.heap.size + 1 + 1 := by omega
    rw [hY, HVV.out, cell_apartD n1, cell_apartD n1, cell_apartD n1, cell_apartD n1, cell_apartD n1, cell_apartD n1, cell_apartD n1, cell_apartD n1, cell_apartD n1, cell_apartD n1, cell_apartD n1, cell_apartD n1, cell_apartD n2, cell_apartD n2, cell_apartD n2, cell_apartD n2, cell_apartD n2, cell_apartD n2, cell_apartD n2, cell_apartD n2, cell_apartD n2, cell_apartD n2, cell_apartD n2]
  have sY : Stk Y (w.heap.size + 1 + 1 + 1) zs := ⟨by omega, fun j hj => (cY j).trans (HS2.out.2.1 j hj), HS2.out.2.2⟩
  clear hY
  have g0 := rY.cell 0; have g1 := rY.cell 1; have g2 := rY.cell 2; have g3 := rY.cell 3; have g4 := rY.cell 4; have g5 := rY.cell 5; have g6 := rY.cell 6; have g7 := rY.cell 7; have g8 := rY.cell 8; have g9 := rY.cell 9; have g10 := rY.cell 10; have g11 := rY.cell 11
  simp only [List.getElem?_cons_zero, List.getElem?_cons_succ] at g0 g1 g2 g3 g4 g5 g6 g7 g8 g9 g10 g11
  exact bodyPost_ret (v := .agg #[.slice (some ⟨w.heap.size + 1 + 1 + 1, 0, none⟩) len len, .int .u8 d0, .int .u8 d1, .int .u8 d2, .int .u8 d3, .int .u8 d4, .int .u8 d5, .int .u8 d6, .int .u8 d7, .int .i64 pr, .bool st, .int .i64 tk]) (by simp [results, Tryd.results11, go_sem, g0, g1, g2, g3, g4, g5, g6, g7, g8, g9, g10, g11]) rfl ⟨_, rfl, bY, sY, by omega⟩
end Go.Proofs.YthifegbmpmialaaDoor

namespace Go.Proofs.YthifegbmpmialaaDoor
open Go.RowKit Go.Shelf

attribute [local go_sem] Oper.semAt_some

set_option maxRecDepth 100000 in
set_option maxHeartbeats 2000000 in
/-- the closure: each wheel with its place, one after the other, for every body that keeps what lay below n₀ -/
theorem places1_in (F : Fence) (m : Nat) (hf : F.fn 101) (hro : F.round = none) (hm : 1 ≤ m) (l Bs n₀ b n cap : Nat) (zs : List Int) (hn : n = zs.length) (h8 : n ≤ 8) (hin : inB zs n) (hb : b < n₀) (J Jx : List (Fin n) → World → Prop)
    (hY : ∀ pre (x : Fin n) W, J pre W → pre.length < n → YieldAt F (m - 1) Tryd.prog l #[.int .i64 (x.1 : Int), .int .i64 (szL (zs.take x.1))] W fun e W' =>
      (e = .returned (.bool true) ∧ J (pre ++ [x]) W' ∧ Below n₀ W W') ∨ (e = .returned (.bool false) ∧ Jx (pre ++ [x]) W'))
    (W : World) (hBs : W.cell? ⟨Bs, 0, none⟩ = some (.slice (some ⟨b, 0, none⟩) n cap)) (hc : ∀ j, j < n → W.cell? ⟨b, j, none⟩ = some (.int .u8 (zs[j]?.getD 0))) (h0 : J [] W) :
    CallsIn F m Tryd.prog 101 #[.func (.yield l) #[] #[], .pointer (some ⟨Bs, 0, none⟩)] W fun e W' => (∃ v, e = .returned v) ∧
      ((∃ ys, ys = List.finRange n ∧ J ys W') ∨ (∃ pre, (∃ k, k ≤ n ∧ pre = (List.finRange n).take k) ∧ Jx pre W')) := by
  have hN := hid hn
  have hI := hid hin
  have hC := hid hc
  clear hn hin hc
  refine callsIn_of_wp Tryd.func101 rfl hf ?_ hro
  simp only [Tryd.ntmps101, List.size_toArray, List.length_cons, List.length_nil, Nat.reduceAdd, Nat.reduceSub, Array.replicate_succ, Array.replicate_zero, List.push_toArray, List.append_toArray, List.nil_append, List.cons_append]
  gi_wp2
  gi_loopw [3, 8] (fun p i wr => ∃ k : Nat, k ≤ n ∧ i = .int .i64 k ∧ p = .int .i64 (szL (zs.take k)) ∧ J ((List.finRange n).take k) wr ∧ Below n₀ W wr)
    (fun _ i _ => n - (intOf i).toNat)
  case atStart => exact ⟨0, Nat.zero_le _, rfl, rfl, h0, Below.refl _ _⟩
  case round =>
    obtain ⟨k, hk, rfl, rfl, hJs, hnx⟩ := hrel
    by_cases hlt : k < n
    · have hcx := (hnx.cell (p := ⟨b, k, none⟩) hb).trans (hC.out k hlt)
      have hzb := hI.out k hlt
      obtain ⟨s1, s2, s3, s4⟩ := szL_step zs k (by rw [← hN.out]; exact hlt) (by rw [← hN.out]; exact h8) (fun j hj => hI.out j (by omega))
      have HT := hid (szL_take zs k (by rw [← hN.out]; exact hlt))
      obtain ⟨fn, tmps, assign, body, hy, hR⟩ := hY _ ⟨k, hlt⟩ wr hJs (by rw [finTake_length n k hk]; exact hlt)
      have hlen := hid (finTake_succ n k hlt)
      dsimp only at hy
      obtain ⟨p, hp⟩ : ∃ p, p = szL (zs.take k) := ⟨_, rfl⟩
      obtain ⟨z, hz⟩ : ∃ z, z = zs[k]?.getD 0 := ⟨_, rfl⟩
      rw [← hp, ← hz] at HT s3 s4
      rw [← hp] at s1 s2 hy ⊢
      rw [← hz] at hcx hzb
      have hp' := hid hp; have hz' := hid hz
      clear hp hz
      gi_wp2
      refine hR.mono ?_
      rintro e W3 (⟨rfl, hJ3, hk3⟩ | ⟨rfl, hJx3⟩)
      · gi_wp2
        go_roundw
        case rel => exact ⟨k + 1, by omega, by simp, by rw [HT.out], by rw [hlen.out]; exact hJ3, hnx.trans hk3⟩
        case measure => simp [intOf]; omega
      · gi_wp2
        refine bodyPost_ret (results_none rfl _ _ _) rfl ?_
        exact ⟨⟨_, rfl⟩, .inr ⟨_, ⟨k + 1, by omega, hlen.out.symm⟩, hJx3⟩⟩
    · obtain rfl : k = n := by omega
      gi_wp2
      go_end0
      exact ⟨⟨_, rfl⟩, .inl ⟨_, (finTake_all k), hJs⟩⟩

set_option maxHeartbeats 1000000 in
theorem places_in (F : Fence) (m : Nat) (hf : F.fn 99) (hro : F.round = none) (a : Option Addr) (len cap : Nat) (w : World) :
    CallsIn F m Tryd.prog 99 #[.slice a len cap] w fun e w' => e = .returned (.func (.func 101) #[] #[.pointer (some ⟨w.heap.size, 0, none⟩)]) ∧ w' = w.alloc (.cells #[.slice a len cap] 30) := by
  refine callsIn_of_wp Tryd.func99 rfl hf ?_ hro
  simp only [Tryd.ntmps99, List.size_toArray, List.length_cons, List.length_nil, Nat.reduceAdd, Nat.reduceSub, Array.replicate_succ, Array.replicate_zero, List.push_toArray, List.append_toArray, List.nil_append, List.cons_append]
  gi_wp2
  go_ret
  exact ⟨rfl, rfl⟩

theorem places_stops (F : Fence) (m : Nat) (hf : F.fn 101) (hro : F.round = none) (hm : 1 ≤ m) (Bs n₀ b n cap : Nat) (zs : List Int) (hn : n = zs.length) (h8 : n ≤ 8) (hin : inB zs n) (w : World) (hBs : Bs < w.heap.size) (hn₀ : n₀ ≤ w.heap.size) (hb : b < n₀)
    (hc : w.cell? ⟨Bs, 0, none⟩ = some (.slice (some ⟨b, 0, none⟩) n cap)) (hI : ∀ j, j < n → w.cell? ⟨b, j, none⟩ = some (.int .u8 (zs[j]?.getD 0))) :
    SeqStopsK F m Tryd.prog 101 #[.pointer (some ⟨Bs, 0, none⟩)] (fun x : Fin n => #[Value.int .i64 (x.1 : Int), Value.int .i64 (szL (zs.take x.1))]) (Below n₀) (fun ys => ys = List.finRange n)
      (fun pre => ∃ k, k ≤ n ∧ pre = (List.finRange n).take k) n w := fun l J Jx W hW _ _ hY h0 => by
  have hc' := (hW.cell (p := ⟨Bs, 0, none⟩) hBs).trans hc
  exact places1_in F m hf hro hm l Bs n₀ b n cap zs hn h8 hin hb J Jx hY W hc' (fun j hj => (hW.cell (p := ⟨b, j, none⟩) (by show b < _; omega)).trans (hI j hj)) h0

set_option maxRecDepth 100000 in
set_option maxHeartbeats 4000000 in
/-- impl.place of a wheel that is there: the product of the bases before it -/
theorem place_in (F : Fence) (m : Nat) (hf1 : F.fn 102) (hf2 : F.fn 99) (hf3 : F.fn 101) (hro : F.round = none) (hm : 3 ≤ m)
    (b n cap k : Nat) (zs : List Int) (hn : n = zs.length) (h8 : n ≤ 8) (hin : inB zs n) (hk : k < n) (w : World) (hS : Stk w b zs) :
    CallsIn F m Tryd.prog 102 #[.slice (some ⟨b, 0, none⟩) n cap, .int .i64 (k : Int)] w fun e W' => e = .returned (.int .i64 (szL (zs.take k))) ∧ Below w.heap.size w W' := by
  have h1 : 1 ≤ m := by omega
  have hlt := hS.1
  have hC := hid hS.2.1
  have hI := hid hin
  have hN := hid hn
  clear hS hin hn
  refine callsIn_of_wp_marks Tryd.func102 rfl hf1 ?_ hro
  simp only [Tryd.ntmps102, List.size_toArray, List.length_cons, List.length_nil, Nat.reduceAdd, Nat.reduceSub, Array.replicate_succ, Array.replicate_zero, List.push_toArray, List.append_toArray, List.nil_append, List.cons_append]
  gi_wp2_with (gi_at_call 99; refine (places_in F (m - 1) hf2 hro _ _ _ _).mono ?_; rintro e w' ⟨rfl, rfl⟩)
  have bK := Boxed.new w 2 (.int .i64 (k : Int))
  have bR := Boxed.new (w.alloc (.cells #[.int .i64 (k : Int)] 2)) 2 (.int .i64 0)
  have bN := Boxed.new ((w.alloc (.cells #[.int .i64 (k : Int)] 2)).alloc (.cells #[.int .i64 0] 2)) 30 (.slice (some ⟨b, 0, none⟩) n cap)
  rw [World.size_alloc] at bR
  rw [World.size_alloc, World.size_alloc] at bN
  have hB0 : Below w.heap.size w (((w.alloc (.cells #[.int .i64 (k : Int)] 2)).alloc (.cells #[.int .i64 0] 2)).alloc (.cells #[.slice (some ⟨b, 0, none⟩) n cap] 30)) := (((Below.refl _ w).alloc (Nat.le_refl _) _).alloc (by simp) _).alloc (by simp; omega) _
  refine wpIn_rangeFunc_ownG hro h1 (gf := 101) (lb := #[.pointer (some ⟨w.heap.size + 1 + 1, 0, none⟩)]) rfl hf3 (enters_of Tryd.func101 (by kernel_rfl) rfl)
    (places_stops F (m - 1) hf3 hro (by omega) (w.heap.size + 1 + 1) w.heap.size b n cap zs hN.out h8 hI.out _ (by simp) (by simp; omega) hlt bN.cell (fun j hj => (hB0.cell (p := ⟨b, j, none⟩) hlt).trans (hC.out j (by rw [← hN.out]; exact hj)))) belowK_t (belowK_b (by simp; omega)) (Below.refl _ _) (fun _ => rfl)
    (fun pre W => ((∀ x ∈ pre, x.1 ≠ k) ∧ (W.cell? ⟨w.heap.size + 1, 0, none⟩ = some (.int .i64 0) ∧ W.frozen? ⟨w.heap.size + 1, 0, none⟩ = false) ∧ W.cell? ⟨w.heap.size, 0, none⟩ = some (.int .i64 (k : Int))) ∧ Below w.heap.size w W)
    (fun c pre W => (c = .ret ∧ W.cell? ⟨w.heap.size + 1, 0, none⟩ = some (.int .i64 (szL (zs.take k)))) ∧ Below w.heap.size w W)
    (OwnFrom.and (Own.from (fun s A B row hs hg hr => ⟨hs.1, ⟨cell_kept hs.2.1.1 hg hr, (frozen_kept hs.2.1.1 hg hr).trans hs.2.1.2⟩, cell_kept hs.2.2 hg hr⟩) _) (ownFrom_below (Nat.le_refl _) (by simp; omega)))
    (fun c => OwnFrom.and (Own.from (fun s A B row hs hg hr => ⟨hs.1, cell_kept hs.2 hg hr⟩) _) (ownFrom_below (Nat.le_refl _) (by simp; omega)))
    ⟨⟨by simp, ⟨(bR.alloc _).cell, (bR.alloc _).frozen⟩, ((bK.alloc _).alloc _).cell⟩, hB0⟩
    (fun x => { tmps := #[.slice (some ⟨b, 0, none⟩) n cap, .int .i64 (k : Int), undef, .pointer (some ⟨w.heap.size, 0, none⟩), .pointer (some ⟨w.heap.size + 1, 0, none⟩), .int .i64 (x.1 : Int), .int .i64 (szL (zs.take x.1)), .slice (some ⟨b, 0, none⟩) n cap, .func (.func 101) #[] #[.pointer (some ⟨w.heap.size + 1 + 1, 0, none⟩)], .int .i64 (x.1 : Int), .int .i64 (szL (zs.take x.1)), undef, undef, undef, undef], defers := [] }) ?assign ?body ?done ?stop
  case assign =>
    intro l x W K hK
    gi_wp2
    exact hK
  case body =>
    rintro l pre x W ⟨⟨hp, ⟨hcr, hfr⟩, hck⟩, hB⟩ _
    by_cases hx : x.1 = k
    · have he : ((x.1 : Int) == (k : Int)) = true := by simp [hx]
      have hX := hid hx
      clear hx
      gi_wp2
      exact ⟨(KeepsOthers.setCell _ _ _).from _, ⟨rfl, by rw [World.cell?_setCell_same' _ _ _ (by rw [hcr]; rfl), hX.out]⟩, hB.setCell (p := ⟨w.heap.size + 1, 0, none⟩) (by show _ ≤ w.heap.size + 1; omega) _⟩
    · have he : ((x.1 : Int) == (k : Int)) = false := by simp; omega
      have hX := hid hx
      clear hx
      gi_wp2
      exact ⟨KeepsFrom.refl _ _, Below.refl _ _, ⟨fun p hp' => (List.mem_append.1 hp').elim (hp p) (fun e => by simp at e; subst e; exact hX.out), ⟨hcr, hfr⟩, hck⟩, hB⟩
  case done =>
    rintro D ys W hD rfl ⟨⟨hne, _⟩, hB⟩ hK
    exact absurd rfl (hne ⟨k, hk⟩ (by simp))
  case stop =>
    rintro D c pre W hD ⟨j, hj, rfl⟩ ⟨⟨rfl, hcr⟩, hB⟩ hK
    gi_wp2
    refine ⟨by simp, .inl ⟨_, _, rfl, run_takeDeferred hK, ?_⟩⟩
    have hc5 := cell_kept hcr (grownBy_putObj' _ D (.deferred none)) (fun r e => by cases e; exact ⟨_, hK, rfl⟩)
    refine ⟨.int .i64 (szL (zs.take k)), ?_, rfl, hB.trans (belowK_b (w := w) (Nat.le_refl _) W D _ _ (by simp at hD; omega) hK rfl rfl)⟩
    simp [results, Tryd.f102, go_sem, hc5]
end Go.Proofs.YthifegbmpmialaaDoor

namespace Go.Proofs.YthifegbmpmialaaDoor
open Go.RowKit

/-- an array of eight bytes is read at a place -/
theorem index_oct (d0 d1 d2 d3 d4 d5 d6 d7 : Int) (k : Nat) (hk : k < 8) (w : World) :
    (Instr.index 31 (.agg #[.int .u8 d0, .int .u8 d1, .int .u8 d2, .int .u8 d3, .int .u8 d4, .int .u8 d5, .int .u8 d6, .int .u8 d7]) (.int .i64 (k : Int))).run Tryd.prog w
      = .ok (.int .u8 (([d0, d1, d2, d3, d4, d5, d6, d7] : List Int)[k]?.getD 0)) w := by
  have i0 : (Instr.index 31 (.agg #[.int .u8 d0, .int .u8 d1, .int .u8 d2, .int .u8 d3, .int .u8 d4, .int .u8 d5, .int .u8 d6, .int .u8 d7]) (.int .i64 ((0 : Nat) : Int))).run Tryd.prog w = .ok (.int .u8 d0) w := by kernel_rfl
  have i1 : (Instr.index 31 (.agg #[.int .u8 d0, .int .u8 d1, .int .u8 d2, .int .u8 d3, .int .u8 d4, .int .u8 d5, .int .u8 d6, .int .u8 d7]) (.int .i64 ((1 : Nat) : Int))).run Tryd.prog w = .ok (.int .u8 d1) w := by kernel_rfl
  have i2 : (Instr.index 31 (.agg #[.int .u8 d0, .int .u8 d1, .int .u8 d2, .int .u8 d3, .int .u8 d4, .int .u8 d5, .int .u8 d6, .int .u8 d7]) (.int .i64 ((2 : Nat) : Int))).run Tryd.prog w = .ok (.int .u8 d2) w := by kernel_rfl
  have i3 : (Instr.index 31 (.agg #[.int .u8 d0, .int .u8 d1, .int .u8 d2, .int .u8 d3, .int .u8 d4, .int .u8 d5, .int .u8 d6, .int .u8 d7]) (.int .i64 ((3 : Nat) : Int))).run Tryd.prog w = .ok (.int .u8 d3) w := by kernel_rfl
  have i4 : (Instr.index 31 (.agg #[.int .u8 d0, .int .u8 d1, .int .u8 d2, .int .u8 d3, .int .u8 d4, .int .u8 d5, .int .u8 d6, .int .u8 d7]) (.int .i64 ((4 : Nat) : Int))).run Tryd.prog w = .ok (.int .u8 d4) w := by kernel_rfl
  have i5 : (Instr.index 31 (.agg #[.int .u8 d0, .int .u8 d1, .int .u8 d2, .int .u8 d3, .int .u8 d4, .int .u8 d5, .int .u8 d6, .int .u8 d7]) (.int .i64 ((5 : Nat) : Int))).run Tryd.prog w = .ok (.int .u8 d5) w := by kernel_rfl
  have i6 : (Instr.index 31 (.agg #[.int .u8 d0, .int .u8 d1, .int .u8 d2, .int .u8 d3, .int .u8 d4, .int .u8 d5, .int .u8 d6, .int .u8 d7]) (.int .i64 ((6 : Nat) : Int))).run Tryd.prog w = .ok (.int .u8 d6) w := by kernel_rfl
  have i7 : (Instr.index 31 (.agg #[.int .u8 d0, .int .u8 d1, .int .u8 d2, .int .u8 d3, .int .u8 d4, .int .u8 d5, .int .u8 d6, .int .u8 d7]) (.int .i64 ((7 : Nat) : Int))).run Tryd.prog w = .ok (.int .u8 d7) w := by kernel_rfl
  have h : k = 0 ∨ k = 1 ∨ k = 2 ∨ k = 3 ∨ k = 4 ∨ k = 5 ∨ k = 6 ∨ k = 7 := by omega
  clear hk
  rcases h with rfl | rfl | rfl | rfl | rfl | rfl | rfl | rfl
  · exact i0
  · exact i1
  · exact i2
  · exact i3
  · exact i4
  · exact i5
  · exact i6
  · exact i7
theorem oct_bd {d0 d1 d2 d3 d4 d5 d6 d7 : Int} (h : Oct d0 d1 d2 d3 d4 d5 d6 d7) (k : Nat) (hk : k < 8) :
    0 ≤ ([d0, d1, d2, d3, d4, d5, d6, d7] : List Int)[k]?.getD 0 ∧ ([d0, d1, d2, d3, d4, d5, d6, d7] : List Int)[k]?.getD 0 ≤ 255 := by
  obtain ⟨h0, h1, h2, h3, h4, h5, h6, h7⟩ := h
  match k, hk with
  | 0, _ => exact h0
  | 1, _ => exact h1
  | 2, _ => exact h2
  | 3, _ => exact h3
  | 4, _ => exact h4
  | 5, _ => exact h5
  | 6, _ => exact h6
  | 7, _ => exact h7

set_option maxHeartbeats 2000000 in
theorem validDigits_any (b n cap : Nat) (zs : List Int) (d0 d1 d2 d3 d4 d5 d6 d7 : Int) (w : World) (h : Stk w b zs) (hn : n = zs.length) (ho : Oct d0 d1 d2 d3 d4 d5 d6 d7) :
    Calls Tryd.prog 71 #[.slice (some ⟨b, 0, none⟩) n cap, .agg #[.int .u8 d0, .int .u8 d1, .int .u8 d2, .int .u8 d3, .int .u8 d4, .int .u8 d5, .int .u8 d6, .int .u8 d7]] w
      fun e w' => e = .returned (.bool (okV zs [d0, d1, d2, d3, d4, d5, d6, d7])) ∧ Below w.heap.size w w' := by
  have hS := hid h
  have hZ := hid h.2.2.1
  have hl := h.2.2.2
  rw [← hn] at hl
  have hN := hid hn
  have hO := hid (fun k hk => oct_bd ho k hk)
  have hB0 := fun (o : Obj) => (Below.refl w.heap.size w).alloc (Nat.le_refl _) o
  have hS1 := hid (fun (o : Obj) => h.below (hB0 o) h.1)
  have hC := hid (fun (o : Obj) => (h.below (hB0 o) h.1).2.1)
  have hB := hid hB0
  clear h hn ho hB0
  cases hv : okL zs with
  | false =>
    have hf := hid (okV_no (ds := [d0, d1, d2, d3, d4, d5, d6, d7]) hv)
    have hv' := hid hv
    clear hv
    go_enter Tryd.func71, Tryd.ntmps71
    go_wp2_with (go_at_call 86; refine (validStack_any _ _ _ zs _ (hS1.out _) hN.out).mono ?_; rw [hv'.out]; rintro e w' ⟨rfl, rfl⟩)
    go_ret
    exact ⟨by rw [hf.out]; rfl, hB.out _⟩
  | true =>
    have hf := hid (okV_yes (ds := [d0, d1, d2, d3, d4, d5, d6, d7]) hv)
    have hv' := hid hv
    clear hv
    go_enter Tryd.func71, Tryd.ntmps71
    go_wp2_with (go_at_call 86; refine (validStack_any _ _ _ zs _ (hS1.out _) hN.out).mono ?_; rw [hv'.out]; rintro e w' ⟨rfl, rfl⟩)
    go_loop [11] (fun i => ∃ k : Nat, k ≤ 8 ∧ i = .int .i64 k ∧ okTo zs [d0, d1, d2, d3, d4, d5, d6, d7] k) (fun i => 8 - (intOf i).toNat)
    case atStart => exact ⟨0, Nat.zero_le _, rfl, okTo_zero _ _⟩
    case round =>
      obtain ⟨k, hk, rfl, hT⟩ := hrel
      by_cases hlt : k < 8
      · have hix := fun w => index_oct d0 d1 d2 d3 d4 d5 d6 d7 k hlt w
        have hdb := hO.out k hlt
        have hTL := hid (fun a b => okTo_low hT (k := k) a b)
        have hTH := hid (fun a b => okTo_high hT (k := k) a b)
        have hFL := hid (fun a b => okD_low (zs := zs) (ds := [d0, d1, d2, d3, d4, d5, d6, d7]) k hlt a b)
        have hFH := hid (fun a b => okD_high (zs := zs) (ds := [d0, d1, d2, d3, d4, d5, d6, d7]) k hlt a b)
        clear hT
        obtain ⟨d, hd⟩ : ∃ d, d = ([d0, d1, d2, d3, d4, d5, d6, d7] : List Int)[k]?.getD 0 := ⟨_, rfl⟩
        rw [← hd] at hdb hTL hTH hFL hFH
        simp only [← hd] at hix
        clear hd
        by_cases hw : k < n
        · have hx := hC.out (.cells #[.int .u8 d0, .int .u8 d1, .int .u8 d2, .int .u8 d3, .int .u8 d4, .int .u8 d5, .int .u8 d6, .int .u8 d7] 31) k (by rw [← hN.out]; exact hw)
          have hzb := hZ.out (zs[k]?.getD 0) (by simp [show k < zs.length from by rw [← hN.out]; exact hw])
          have hw' : k < zs.length := by rw [← hN.out]; exact hw
          have hTL' := hid (hTL.out hw')
          have hFL' := hid (hFL.out hw')
          clear hTL hTH hFL hFH hw'
          obtain ⟨z, hz⟩ : ∃ z, z = zs[k]?.getD 0 := ⟨_, rfl⟩
          rw [← hz] at hx hzb hTL' hFL'
          clear hz
          by_cases hdz : d < z
          · have hT' := hid (hTL'.out hdz)
            have hge : (decide (z ≤ d)) = false := by simp; omega
            go_wp2
            go_round
            case rel => exact ⟨k + 1, by omega, by go_num, hT'.out⟩
            case measure => simp [intOf]; omega
          · have hF' := hid (hf.out.trans (hFL'.out (by omega)))
            have hge : (decide (z ≤ d)) = true := by simp; omega
            go_wp2
            go_ret
            exact ⟨by rw [hF'.out]; rfl, hB.out _⟩
        · have hw' : zs.length ≤ k := by rw [← hN.out]; omega
          have hTH' := hid (hTH.out hw')
          have hFH' := hid (hFH.out hw')
          clear hTL hTH hFL hFH hw'
          by_cases hdz : d = 0
          · have hT' := hid (hTH'.out hdz)
            subst hdz
            go_wp2
            go_round
            case rel => exact ⟨k + 1, by omega, by go_num, hT'.out⟩
            case measure => simp [intOf]; omega
          · have hF' := hid (hf.out.trans (hFH'.out hdz))
            have hne : (d != 0) = true := by rw [bne_iff_ne]; exact hdz
            clear hdz
            go_wp2
            go_ret
            exact ⟨by rw [hF'.out]; rfl, hB.out _⟩
      · obtain rfl : k = 8 := by omega
        have hF' := hid (hf.out.trans (okD_of hT))
        clear hT
        go_wp2
        go_ret
        exact ⟨by rw [hF'.out]; rfl, hB.out _⟩

set_option maxHeartbeats 4000000 in
theorem l01Digits_any (b n cap : Nat) (zs : List Int) (d0 d1 d2 d3 d4 d5 d6 d7 : Int) (w : World) (h : Stk w b zs) (hn : n = zs.length) (ho : Oct d0 d1 d2 d3 d4 d5 d6 d7) :
    Calls Tryd.prog 78 #[.slice (some ⟨b, 0, none⟩) n cap, .agg #[.int .u8 d0, .int .u8 d1, .int .u8 d2, .int .u8 d3, .int .u8 d4, .int .u8 d5, .int .u8 d6, .int .u8 d7]] w
      fun e w' => e = .returned (.bool (okD zs [d0, d1, d2, d3, d4, d5, d6, d7])) ∧ Below w.heap.size w w' := by
  have hZ := hid h.2.2.1
  have hl := h.2.2.2
  rw [← hn] at hl
  have hN := hid hn
  have hO := hid (fun k hk => oct_bd ho k hk)
  have hB0 := fun (o : Obj) => (Below.refl w.heap.size w).alloc (Nat.le_refl _) o
  have hC := hid (fun (o : Obj) => (h.below (hB0 o) h.1).2.1)
  have hB := hid hB0
  have hR := hid ((Row.new w 31 [.int .u8 d0, .int .u8 d1, .int .u8 d2, .int .u8 d3, .int .u8 d4, .int .u8 d5, .int .u8 d6, .int .u8 d7]).cell)
  clear h hn ho hB0
  go_enter Tryd.func78, Tryd.ntmps78
  go_wp2
  go_loopw [5] (fun i wr => ∃ k : Nat, k ≤ 8 ∧ i = .int .i64 k ∧ okTo zs [d0, d1, d2, d3, d4, d5, d6, d7] k ∧ ∃ q, wr = (w.alloc (.cells #[.int .u8 d0, .int .u8 d1, .int .u8 d2, .int .u8 d3, .int .u8 d4, .int .u8 d5, .int .u8 d6, .int .u8 d7] 31)).drewN q) (fun i _ => 8 - (intOf i).toNat)
  case atStart => exact ⟨0, Nat.zero_le _, rfl, okTo_zero _ _, 0, rfl⟩
  case round =>
    obtain ⟨k, hk, rfl, hT, q, rfl⟩ := hrel
    by_cases hlt : k < 8
    · have hc := hR.out k
      rw [show ([Value.int .u8 d0, .int .u8 d1, .int .u8 d2, .int .u8 d3, .int .u8 d4, .int .u8 d5, .int .u8 d6, .int .u8 d7] : List Value)[k]? = some (.int .u8 (([d0, d1, d2, d3, d4, d5, d6, d7] : List Int)[k]?.getD 0)) from by
        have h : k = 0 ∨ k = 1 ∨ k = 2 ∨ k = 3 ∨ k = 4 ∨ k = 5 ∨ k = 6 ∨ k = 7 := by omega
        rcases h with rfl | rfl | rfl | rfl | rfl | rfl | rfl | rfl <;> rfl] at hc
      have hdb := hO.out k hlt
      have hTL := hid (fun a b => okTo_low hT (k := k) a b)
      have hTH := hid (fun a b => okTo_high hT (k := k) a b)
      have hFL := hid (fun a b => okD_low (zs := zs) (ds := [d0, d1, d2, d3, d4, d5, d6, d7]) k hlt a b)
      have hFH := hid (fun a b => okD_high (zs := zs) (ds := [d0, d1, d2, d3, d4, d5, d6, d7]) k hlt a b)
      clear hT
      obtain ⟨d, hd⟩ : ∃ d, d = ([d0, d1, d2, d3, d4, d5, d6, d7] : List Int)[k]?.getD 0 := ⟨_, rfl⟩
      rw [← hd] at hdb hTL hTH hFL hFH hc
      clear hd
      by_cases hw : k < n
      · have hx := hC.out (.cells #[.int .u8 d0, .int .u8 d1, .int .u8 d2, .int .u8 d3, .int .u8 d4, .int .u8 d5, .int .u8 d6, .int .u8 d7] 31) k (by rw [← hN.out]; exact hw)
        have hzb := hZ.out (zs[k]?.getD 0) (by simp [show k < zs.length from by rw [← hN.out]; exact hw])
        have hw' : k < zs.length := by rw [← hN.out]; exact hw
        have hTL' := hid (hTL.out hw')
        have hFL' := hid (hFL.out hw')
        clear hTL hTH hFL hFH hw'
        obtain ⟨z, hz⟩ : ∃ z, z = zs[k]?.getD 0 := ⟨_, rfl⟩
        rw [← hz] at hx hzb hTL' hFL'
        clear hz
        have g1 : decide (k < n) = true := by simp; omega
        have g2 : decide (n ≤ k) = false := by simp; omega
        have g3 : (k : Int) < (n : Int) := by omega
        by_cases hdz : d < z
        · have hT' := hid (hTL'.out hdz)
          have hge : (decide (z ≤ d)) = false := by simp; omega
          go_wp2
          go_quiet (fail)
          go_wp2
          all_goals go_roundw
          case rel => exact ⟨k + 1, by omega, by go_num, hT'.out, _, rfl⟩
          case measure => simp [intOf]; omega
        · have hF' := hid (hFL'.out (by omega))
          have hge : (decide (z ≤ d)) = true := by simp; omega
          go_wp2
          go_quiet (fail)
          go_wp2
          go_ret
          exact ⟨by rw [hF'.out]; rfl, below_drewN (below_drewN (hB.out _) q) _⟩
      · have hw' : zs.length ≤ k := by rw [← hN.out]; omega
        have hTH' := hid (hTH.out hw')
        have hFH' := hid (hFH.out hw')
        clear hTL hTH hFL hFH hw'
        have g1 : decide (k < n) = false := by simp; omega
        have g2 : decide (n ≤ k) = true := by simp; omega
        have g3 : (n : Int) ≤ (k : Int) := by omega
        by_cases hdz : d = 0
        · have hT' := hid (hTH'.out hdz)
          subst hdz
          have hne : ((0 : Int) != 0) = false := by simp
          go_wp2
          go_quiet (fail)
          go_wp2
          all_goals go_roundw
          case rel => exact ⟨k + 1, by omega, by go_num, hT'.out, _, rfl⟩
          case measure => simp [intOf]; omega
        · have hF' := hid (hFH'.out hdz)
          have hne : (d != 0) = true := by rw [bne_iff_ne]; exact hdz
          clear hdz
          go_wp2
          go_quiet (fail)
          go_wp2
          go_ret
          exact ⟨by rw [hF'.out]; rfl, below_drewN (below_drewN (hB.out _) q) _⟩
    · obtain rfl : k = 8 := by omega
      have hF' := hid (okD_of hT)
      clear hT
      go_wp2
      go_ret
      exact ⟨by rw [hF'.out]; rfl, below_drewN (hB.out _) q⟩

set_option maxHeartbeats 1000000 in
theorem specValidDigits_any (b n cap : Nat) (zs : List Int) (d0 d1 d2 d3 d4 d5 d6 d7 : Int) (w : World) (h : Stk w b zs) (hn : n = zs.length) (ho : Oct d0 d1 d2 d3 d4 d5 d6 d7) :
    Calls Tryd.prog 60 #[.slice (some ⟨b, 0, none⟩) n cap, .agg #[.int .u8 d0, .int .u8 d1, .int .u8 d2, .int .u8 d3, .int .u8 d4, .int .u8 d5, .int .u8 d6, .int .u8 d7]] w
      fun e w' => e = .returned (.bool (okV zs [d0, d1, d2, d3, d4, d5, d6, d7])) ∧ Below w.heap.size w w' := by
  have hN := hid hn
  have hO := hid ho
  have hB0 := fun (o : Obj) => (Below.refl w.heap.size w).alloc (Nat.le_refl _) o
  have hS1 := hid (fun (o : Obj) => h.below (hB0 o) h.1)
  have hB := hid hB0
  clear h hn ho hB0
  cases hv : okL zs with
  | false =>
    have hf := hid (okV_no (ds := [d0, d1, d2, d3, d4, d5, d6, d7]) hv)
    have hv' := hid hv
    clear hv
    go_enter Tryd.func60, Tryd.ntmps60
    go_wp2_with (go_at_call 77; refine (l01Ok_any _ _ _ zs _ (hS1.out _) hN.out).mono ?_; rw [hv'.out]; rintro e w' ⟨rfl, rfl⟩)
    go_ret
    exact ⟨by rw [hf.out]; rfl, hB.out _⟩
  | true =>
    have hf := hid (okV_yes (ds := [d0, d1, d2, d3, d4, d5, d6, d7]) hv)
    have hv' := hid hv
    clear hv
    go_enter Tryd.func60, Tryd.ntmps60
    go_wp2_with (first | (go_at_call 77; refine (l01Ok_any _ _ _ zs _ (hS1.out _) hN.out).mono ?_; rw [hv'.out]; rintro e w' ⟨rfl, rfl⟩) | (go_at_call 78; refine (l01Digits_any _ _ _ zs _ _ _ _ _ _ _ _ _ (hS1.out _) hN.out hO.out).mono ?_; rintro e w' ⟨rfl, hB2⟩))
    go_ret
    exact ⟨by rw [hf.out]; rfl, (hB.out _).trans (hB2.mono (by simp))⟩
end Go.Proofs.YthifegbmpmialaaDoor

namespace Go.Proofs.YthifegbmpmialaaDoor
open Go.RowKit Go.Shelf

theorem place_any (b n cap k : Nat) (zs : List Int) (hn : n = zs.length) (h8 : n ≤ 8) (hin : inB zs n) (hk : k < n) (w : World) (hS : Stk w b zs) :
    Calls Tryd.prog 102 #[.slice (some ⟨b, 0, none⟩) n cap, .int .i64 (k : Int)] w fun e W' => e = .returned (.int .i64 (szL (zs.take k))) ∧ Below w.heap.size w W' :=
  callsIn_wide.1 (place_in Fence.wide 8 trivial trivial trivial rfl (by omega) b n cap k zs hn h8 hin hk w hS)

set_option maxHeartbeats 2000000 in
theorem cycle_any (b n cap k : Nat) (zs : List Int) (hn : n = zs.length) (h8 : n ≤ 8) (hin : inB zs n) (hk : k < n) (w : World) (hS : Stk w b zs) :
    Calls Tryd.prog 100 #[.slice (some ⟨b, 0, none⟩) n cap, .int .i64 (k : Int)] w fun e W' => e = .returned (.int .i64 (szL (zs.take (k + 1)))) ∧ Below w.heap.size w W' := by
  have hx : w.cell? ⟨b, k, none⟩ = some (.int .u8 (zs[k]?.getD 0)) := hS.2.1 k (by omega)
  have hlt := hS.1
  have hzb := hin k hk
  obtain ⟨s1, s2, s3, s4⟩ := szL_step zs k (by omega) (by omega) (fun j hj => hin j (by omega))
  have HT := hid (szL_take zs k (by omega))
  have HP := hid (fun w (hS : Stk w b zs) => place_any b n cap k zs hn h8 hin hk w hS)
  have HS := hid hS
  have HN := hid hn
  have HI := hid hin
  clear hn hin hS
  obtain ⟨p, hp⟩ : ∃ p, p = szL (zs.take k) := ⟨_, rfl⟩
  obtain ⟨z, hz⟩ : ∃ z, z = zs[k]?.getD 0 := ⟨_, rfl⟩
  rw [← hp, ← hz] at HT s3 s4
  rw [← hp] at s1 s2
  simp only [← hp] at HP
  rw [← hz] at hx hzb
  clear hp hz
  have hk1 : (0 : Int) ≤ (k : Int) := by omega
  have hk2 : (k : Int) < (n : Int) := by omega
  go_enter Tryd.func100, Tryd.ntmps100
  go_wp2_with fail
  go_region_held3 (fun w' => w'.cell? ⟨b, k, none⟩ = some (.int .u8 z)) (first | exact hx2 | exact hx)
    ((first | (go_at_call 102; have hX := HP.out w.drew (HS.out.below (Below.refl _ w).drew HS.out.1); refine hX.mono ?_; clear hX; rintro e w1 ⟨rfl, hB⟩; have hx2 := (hB.cell (p := ⟨b, k, none⟩) hlt).trans (show w.drew.cell? ⟨b, k, none⟩ = _ from hx))))
  go_wp2
  go_ret
  have hw1 : IntKind.i64.wrap z = z := IntWalk.i64_in _ (by omega)
  have hw2 : IntKind.i64.wrap (p * z) = p * z := IntWalk.i64_in _ (by omega)
  exact ⟨by show Ending.returned (.int .i64 (IntKind.i64.wrap (p * IntKind.i64.wrap z))) = _; rw [hw1, hw2, HT.out], (Below.refl _ w).drew.trans hB⟩

theorem size_any /- by Tryd.prog 100 -/ (b n cap : Nat) (zs : List Int) (hn : n = zs.length) (hv : okL zs = true) (w : World) (hS : Stk w b zs) :
    Calls Tryd.prog 98 #[.slice (some ⟨b, 0, none⟩) n cap] w fun e W' => e = .returned (.int .i64 (szL zs)) ∧ Below w.heap.size w W' := by
  obtain ⟨h1, h8, hin, _, _⟩ := okL_out hv
  obtain ⟨k, hk⟩ : ∃ k, n = k + 1 := ⟨n - 1, by omega⟩
  have hX := hid (cycle_any b n cap k zs hn (by omega) (by rw [hn]; exact hin) (by omega) w hS)
  have hT : zs.take (k + 1) = zs := by rw [← hk, hn, List.take_length]
  rw [hT] at hX
  have hk8 : k < 8 := by omega
  subst hk
  clear hn hv hS h1 hin hT h8
  go_enter Tryd.func98, Tryd.ntmps98
  go_wp2_with fail
  refine hX.out.mono ?_
  rintro e w1 ⟨rfl, hB⟩
  go_wp2_with fail
  go_ret
  exact ⟨rfl, hB⟩

attribute [local go_sem] Oper.semAt_some
theorem cell_far {W : World} {a p : Addr} {u : Value} (h : p.block ≠ a.block) : (W.setCell a u).cell? p = W.cell? p := World.cell?_of_block (Below.heap_setCell W a u p.block h)
theorem oct_get (d0 d1 d2 d3 d4 d5 d6 d7 : Int) (k : Nat) (hk : k < 8) : ([Value.int .u8 d0, .int .u8 d1, .int .u8 d2, .int .u8 d3, .int .u8 d4, .int .u8 d5, .int .u8 d6, .int .u8 d7] : List Value)[k]? = some (.int .u8 (([d0, d1, d2, d3, d4, d5, d6, d7] : List Int)[k]?.getD 0)) := by
  have h : k = 0 ∨ k = 1 ∨ k = 2 ∨ k = 3 ∨ k = 4 ∨ k = 5 ∨ k = 6 ∨ k = 7 := by omega
  rcases h with rfl | rfl | rfl | rfl | rfl | rfl | rfl | rfl <;> rfl

set_option maxRecDepth 100000 in
set_option maxHeartbeats 4000000 in
/-- impl.value: the sum of each digit times its place -/
theorem value_in (F : Fence) (m : Nat) (hf1 : F.fn 88) (hf2 : F.fn 99) (hf3 : F.fn 101) (hro : F.round = none) (hm : 3 ≤ m)
    (b n cap : Nat) (zs : List Int) (hn : n = zs.length) (h8 : n ≤ 8) (hin : inB zs n) (d0 d1 d2 d3 d4 d5 d6 d7 : Int) (ho : Oct d0 d1 d2 d3 d4 d5 d6 d7) (w : World) (hS : Stk w b zs) :
    CallsIn F m Tryd.prog 88 #[.slice (some ⟨b, 0, none⟩) n cap, .agg #[.int .u8 d0, .int .u8 d1, .int .u8 d2, .int .u8 d3, .int .u8 d4, .int .u8 d5, .int .u8 d6, .int .u8 d7]] w fun e W' => e = .returned (.int .i64 (vfold zs [d0, d1, d2, d3, d4, d5, d6, d7] (List.finRange n))) ∧ Below w.heap.size w W' := by
  have h1 : 1 ≤ m := by omega
  have hlt := hS.1
  have hC := hid hS.2.1
  have hI := hid hin
  have hN := hid hn
  have hO := hid (fun k hk => oct_bd ho k hk)
  clear hS hin hn ho
  refine callsIn_of_wp_marks Tryd.func88 rfl hf1 ?_ hro
  simp only [Tryd.ntmps88, List.size_toArray, List.length_cons, List.length_nil, Nat.reduceAdd, Nat.reduceSub, Array.replicate_succ, Array.replicate_zero, List.push_toArray, List.append_toArray, List.nil_append, List.cons_append]
  gi_wp2_with (gi_at_call 99; refine (places_in F (m - 1) hf2 hro _ _ _ _).mono ?_; rintro e w' ⟨rfl, rfl⟩)
  have rD := Row.new w 31 [.int .u8 d0, .int .u8 d1, .int .u8 d2, .int .u8 d3, .int .u8 d4, .int .u8 d5, .int .u8 d6, .int .u8 d7]
  have bR := Boxed.new (w.alloc (.cells #[.int .u8 d0, .int .u8 d1, .int .u8 d2, .int .u8 d3, .int .u8 d4, .int .u8 d5, .int .u8 d6, .int .u8 d7] 31)) 2 (.int .i64 0)
  have bN := Boxed.new ((w.alloc (.cells #[.int .u8 d0, .int .u8 d1, .int .u8 d2, .int .u8 d3, .int .u8 d4, .int .u8 d5, .int .u8 d6, .int .u8 d7] 31)).alloc (.cells #[.int .i64 0] 2)) 30 (.slice (some ⟨b, 0, none⟩) n cap)
  rw [World.size_alloc] at bR
  rw [World.size_alloc, World.size_alloc] at bN
  have hB0 : Below w.heap.size w (((w.alloc (.cells #[.int .u8 d0, .int .u8 d1, .int .u8 d2, .int .u8 d3, .int .u8 d4, .int .u8 d5, .int .u8 d6, .int .u8 d7] 31)).alloc (.cells #[.int .i64 0] 2)).alloc (.cells #[.slice (some ⟨b, 0, none⟩) n cap] 30)) := (((Below.refl _ w).alloc (Nat.le_refl _) _).alloc (by simp) _).alloc (by simp; omega) _
  refine wpIn_rangeFunc_ownG hro h1 (gf := 101) (lb := #[.pointer (some ⟨w.heap.size + 1 + 1, 0, none⟩)]) rfl hf3 (enters_of Tryd.func101 (by kernel_rfl) rfl)
    (places_stops F (m - 1) hf3 hro (by omega) (w.heap.size + 1 + 1) w.heap.size b n cap zs hN.out h8 hI.out _ (by simp) (by simp; omega) hlt bN.cell (fun j hj => (hB0.cell (p := ⟨b, j, none⟩) hlt).trans (hC.out j (by rw [← hN.out]; exact hj)))) belowK_t (belowK_b (by simp; omega)) (Below.refl _ _) (fun _ => rfl)
    (fun pre W => ((∀ j, j < 8 → W.cell? ⟨w.heap.size, j, none⟩ = some (.int .u8 (([d0, d1, d2, d3, d4, d5, d6, d7] : List Int)[j]?.getD 0))) ∧ (W.cell? ⟨w.heap.size + 1, 0, none⟩ = some (.int .i64 (vfold zs [d0, d1, d2, d3, d4, d5, d6, d7] pre)) ∧ W.frozen? ⟨w.heap.size + 1, 0, none⟩ = false)) ∧ Below w.heap.size w W)
    (fun _ _ _ => False)
    (OwnFrom.and (Own.from (fun s A B row hs hg hr => ⟨fun j hj => cell_kept (hs.1 j hj) hg hr, cell_kept hs.2.1 hg hr, (frozen_kept hs.2.1 hg hr).trans hs.2.2⟩) _) (ownFrom_below (Nat.le_refl _) (by simp; omega)))
    (fun _ _ _ _ _ hs _ _ => hs)
    ⟨⟨fun j hj => (((rD.alloc _).alloc _).cell j).trans (oct_get d0 d1 d2 d3 d4 d5 d6 d7 j hj), (bR.alloc _).cell, (bR.alloc _).frozen⟩, hB0⟩
    (fun x => { tmps := #[.slice (some ⟨b, 0, none⟩) n cap, .agg #[.int .u8 d0, .int .u8 d1, .int .u8 d2, .int .u8 d3, .int .u8 d4, .int .u8 d5, .int .u8 d6, .int .u8 d7], undef, .pointer (some ⟨w.heap.size, 0, none⟩), .int .i64 0, .pointer (some ⟨w.heap.size + 1, 0, none⟩), .int .i64 (x.1 : Int), .int .i64 (szL (zs.take x.1)), .slice (some ⟨b, 0, none⟩) n cap, .func (.func 101) #[] #[.pointer (some ⟨w.heap.size + 1 + 1, 0, none⟩)], .int .i64 (x.1 : Int), .int .i64 (szL (zs.take x.1)), undef, undef, undef, undef, undef, undef, undef, undef, undef], defers := [] }) ?assign ?body ?done ?stop
  case assign =>
    intro l x W K hK
    gi_wp2
    exact hK
  case body =>
    rintro l pre x W ⟨⟨hd, hcr, hfr⟩, hB⟩ _
    have hk := x.2
    have hdx := hd x.1 (by omega)
    have hdb := hO.out x.1 (by omega)
    obtain ⟨s1, s2, _, _⟩ := szL_step zs x.1 (by rw [← hN.out]; exact hk) (by rw [← hN.out]; exact h8) (fun j hj => hI.out j (by omega))
    have HV := hid (vfold_snoc zs [d0, d1, d2, d3, d4, d5, d6, d7] pre x)
    have hD := hid hd
    clear hd
    obtain ⟨d, hd⟩ : ∃ d, d = ([d0, d1, d2, d3, d4, d5, d6, d7] : List Int)[x.1]?.getD 0 := ⟨_, rfl⟩
    obtain ⟨p, hp⟩ : ∃ p, p = szL (zs.take x.1) := ⟨_, rfl⟩
    obtain ⟨s, hs⟩ : ∃ s, s = vfold zs [d0, d1, d2, d3, d4, d5, d6, d7] pre := ⟨_, rfl⟩
    rw [← hd, ← hp, ← hs] at HV
    rw [← hd] at hdx hdb
    rw [← hp] at s1 s2
    rw [← hs] at hcr
    rw [← hp]
    clear hd hp hs
    have q1 : 0 ≤ d * p := Int.mul_nonneg (by omega) (by omega)
    have q2 : d * p ≤ 255 * 10000000000000000 := Int.mul_le_mul hdb.2 s2 (by omega) (by omega)
    gi_wp2
    have e1 : IntKind.i64.wrap d = d := IntWalk.i64_in _ (by omega)
    have e2 : IntKind.i64.wrap (d * p) = d * p := IntWalk.i64_in _ (by omega)
    have HW : Hid (IntKind.i64.wrap (s + IntKind.i64.wrap (IntKind.i64.wrap d * p)) = vfold zs [d0, d1, d2, d3, d4, d5, d6, d7] (pre ++ [x])) := by
      rw [e1, e2, HV.out, IntKind.wrap_i64]; exact hid (by unfold wrap64; omega)
    clear e1 e2
    gi_region
    all_goals
      exact ⟨((KeepsOthers.setCell _ _ _).trans (KeepsOthers.drew _)).from _, ((Below.refl w.heap.size W).setCell (p := ⟨w.heap.size + 1, 0, none⟩) (by show _ ≤ w.heap.size + 1; omega) _).drew,
        ⟨fun j hj => (cell_far (by show w.heap.size ≠ w.heap.size + 1; omega)).trans (hD.out j hj), by rw [World.cell?_drew, World.cell?_setCell_same' _ _ _ (by rw [hcr]; rfl), HW.out], by rw [World.frozen?_drew, World.frozen?_setCell]; exact hfr⟩, (hB.setCell (p := ⟨w.heap.size + 1, 0, none⟩) (by show _ ≤ w.heap.size + 1; omega) _).drew⟩
  case done =>
    rintro D ys W hD rfl ⟨⟨_, hc, _⟩, hB⟩ hK
    gi_wp2
    refine ⟨by simp, .inl ⟨_, _, rfl, run_takeDeferred hK, ?_⟩⟩
    exact ⟨_, results_tmp rfl _ _ _, rfl, hB.trans (belowK_b (w := w) (Nat.le_refl _) W D _ _ (by simp at hD; omega) hK rfl rfl)⟩
  case stop =>
    rintro D c pre W _ _ h _
    exact h.elim
end Go.Proofs.YthifegbmpmialaaDoor

namespace Go.Proofs.YthifegbmpmialaaDoor
open Go.RowKit

def sizeR (zs : List Int) : Int × Int := if okL zs then (szL zs, 0) else (0, 1)
theorem sizeR_no {zs : List Int} (h : okL zs = false) : sizeR zs = (0, 1) := by simp [sizeR, h]
theorem sizeR_yes {zs : List Int} (h : okL zs = true) : sizeR zs = (szL zs, 0) := by simp [sizeR, h]
theorem szC_eq {zs : List Int} (h : szL zs ≤ 1000000000000) : szC zs = szL zs := by unfold szC; omega

theorem l01Size_ok (b n cap : Nat) (zs : List Int) (w : World) (h : Stk w b zs) (hn : n = zs.length) (hv : okL zs = true) :
    Calls Tryd.prog 62 #[.slice (some ⟨b, 0, none⟩) n cap] w fun e w' => e = .returned (.int .i64 (szL zs)) ∧ w = w' := by
  obtain ⟨_, _, hin, _, hs⟩ := okL_out hv
  have := l01Size_any b n cap zs w h (by omega) (by rw [hn]; exact hin)
  rwa [hn, List.take_length, szC_eq hs, ← hn] at this
theorem l01Size_part (b n cap : Nat) (zs : List Int) (w : World) (h : Stk w b zs) (hn : n ≤ zs.length) (hv : okL zs = true) :
    Calls Tryd.prog 62 #[.slice (some ⟨b, 0, none⟩) n cap] w fun e w' => e = .returned (.int .i64 (szL (zs.take n))) ∧ w = w' := by
  obtain ⟨_, h8, hin, _, hs⟩ := okL_out hv
  have := l01Size_any b n cap zs w h hn (fun j hj => hin j (by omega))
  have hle : szL (zs.take n) ≤ szL zs := by
    have key : ∀ k, n + k ≤ zs.length → szL (zs.take n) ≤ szL (zs.take (n + k)) := by
      intro k
      induction k with
      | zero => intro _; exact Int.le_refl _
      | succ k ih =>
        intro hk
        have a := ih (by omega)
        have c := szL_mono zs (n + k) (by omega) (fun j hj => hin j (by omega))
        have d := (szL_bd zs (n + k) (by omega) (fun j hj => hin j (by omega))).1
        show _ ≤ szL (zs.take (n + k + 1))
        omega
    have := key (zs.length - n) (by omega)
    rwa [show n + (zs.length - n) = zs.length from by omega, List.take_length] at this
  rwa [show szC (zs.take n) = szL (zs.take n) from szC_eq (by omega)] at this

def placeR (zs : List Int) (k : Int) : Int × Int := if okL zs then (if 0 ≤ k ∧ k < zs.length then (szL (zs.take k.toNat), 0) else (0, 2)) else (0, 1)
theorem placeR_no {zs : List Int} (k : Int) (h : okL zs = false) : placeR zs k = (0, 1) := by simp [placeR, h]
theorem placeR_out {zs : List Int} (k : Int) (h : okL zs = true) (hk : ¬ (0 ≤ k ∧ k < zs.length)) : placeR zs k = (0, 2) := by simp only [placeR, h, if_true, if_neg hk]
theorem placeR_yes {zs : List Int} (k : Nat) (h : okL zs = true) (hk : k < zs.length) : placeR zs (k : Int) = (szL (zs.take k), 0) := by
  simp only [placeR, h, if_true]
  rw [if_pos (by omega), Int.toNat_natCast]

end Go.Proofs.YthifegbmpmialaaDoor

namespace Go.Proofs.YthifegbmpmialaaDoor
open Go.RowKit

def hdB (zs : List Int) (k x : Int) : Prop := (0 ≤ k ∧ k < zs.length) ∧ 0 ≤ x ∧ x < zs[k.toNat]?.getD 0
/-- how many values less than e have a digit x on a wheel with the place p and the base z -/
def belowF (p z x e : Int) : Int := e / (p * z) * p + min (max (e % (p * z) - x * p) 0) p
theorem belowF_bd (p z x e : Int) (hp : 1 ≤ p) (hz : 2 ≤ z) (he : 0 ≤ e) : 0 ≤ belowF p z x e ∧ belowF p z x e ≤ e + p := by
  unfold belowF
  have hc : 1 * 1 ≤ p * z := Int.mul_le_mul hp (by omega) (by omega) (by omega)
  have h0 := Int.ediv_nonneg he (show 0 ≤ p * z by omega)
  have h1 : 0 ≤ e / (p * z) * p := Int.mul_nonneg h0 (by omega)
  have h2 : e / (p * z) * p ≤ e / (p * z) * (p * z) := Int.mul_le_mul_of_nonneg_left (by have : p * 1 ≤ p * z := Int.mul_le_mul_of_nonneg_left (by omega) (by omega); omega) h0
  have h3 := Int.ediv_mul_le e (show p * z ≠ 0 by omega)
  omega

theorem hasValue_yes (b n cap : Nat) (zs : List Int) (v : Int) (w : World) (h : Stk w b zs) (hn : n = zs.length) (hv : okL zs = true) (hx : 0 ≤ v ∧ v < szL zs) :
    Calls Tryd.prog 87 #[.slice (some ⟨b, 0, none⟩) n cap, .int .i64 v] w fun e w' => e = .returned (.bool true) ∧ Below w.heap.size w w' := by
  have hX := hid (size_any b n cap zs hn hv w h)
  clear h hn hv
  have d0 : decide (0 ≤ v) = true := by simp; omega
  have d1 : decide (v < szL zs) = true := by simp; omega
  go_enter Tryd.func87, Tryd.ntmps87
  go_wp2_with (go_at_call 98; refine hX.out.mono ?_; rintro e w' ⟨rfl, hB⟩)
  go_ret
  exact ⟨rfl, hB⟩
theorem hasValue_no (b n cap : Nat) (zs : List Int) (v : Int) (w : World) (h : Stk w b zs) (hn : n = zs.length) (hv : okL zs = true) (hx : ¬ (0 ≤ v ∧ v < szL zs)) :
    Calls Tryd.prog 87 #[.slice (some ⟨b, 0, none⟩) n cap, .int .i64 v] w fun e w' => e = .returned (.bool false) ∧ Below w.heap.size w w' := by
  have hX := hid (size_any b n cap zs hn hv w h)
  clear h hn hv
  by_cases h0 : 0 ≤ v
  · have d0 : decide (0 ≤ v) = true := by simp; omega
    have d1 : decide (v < szL zs) = false := by simp; omega
    have d2 : szL zs ≤ v := by omega
    clear hx
    go_enter Tryd.func87, Tryd.ntmps87
    go_wp2_with (go_at_call 98; refine hX.out.mono ?_; rintro e w' ⟨rfl, hB⟩)
    go_ret
    exact ⟨rfl, hB⟩
  · have d0 : decide (0 ≤ v) = false := by simp; omega
    clear hx
    go_enter Tryd.func87, Tryd.ntmps87
    go_wp2_with fail
    go_ret
    exact ⟨rfl, Below.refl _ _⟩
end Go.Proofs.YthifegbmpmialaaDoor

namespace Go.Proofs.YthifegbmpmialaaDoor
open Go.RowKit

/-- eight bytes lie from the head of a block on -/
def Oc (w : World) (g : Nat) (d0 d1 d2 d3 d4 d5 d6 d7 : Int) : Prop :=
  w.cell? ⟨g, 0, none⟩ = some (.int .u8 d0) ∧ w.cell? ⟨g, 1, none⟩ = some (.int .u8 d1) ∧ w.cell? ⟨g, 2, none⟩ = some (.int .u8 d2) ∧ w.cell? ⟨g, 3, none⟩ = some (.int .u8 d3) ∧ w.cell? ⟨g, 4, none⟩ = some (.int .u8 d4) ∧ w.cell? ⟨g, 5, none⟩ = some (.int .u8 d5) ∧ w.cell? ⟨g, 6, none⟩ = some (.int .u8 d6) ∧ w.cell? ⟨g, 7, none⟩ = some (.int .u8 d7)
theorem Oc.below {w w' : World} {g n : Nat} {d0 d1 d2 d3 d4 d5 d6 d7 : Int} (h : Oc w g d0 d1 d2 d3 d4 d5 d6 d7) (hb : Below n w w') (hn : g < n) : Oc w' g d0 d1 d2 d3 d4 d5 d6 d7 :=
  ⟨(hb.cell (p := ⟨g, 0, none⟩) hn).trans h.1, (hb.cell (p := ⟨g, 1, none⟩) hn).trans h.2.1, (hb.cell (p := ⟨g, 2, none⟩) hn).trans h.2.2.1, (hb.cell (p := ⟨g, 3, none⟩) hn).trans h.2.2.2.1,
   (hb.cell (p := ⟨g, 4, none⟩) hn).trans h.2.2.2.2.1, (hb.cell (p := ⟨g, 5, none⟩) hn).trans h.2.2.2.2.2.1, (hb.cell (p := ⟨g, 6, none⟩) hn).trans h.2.2.2.2.2.2.1, (hb.cell (p := ⟨g, 7, none⟩) hn).trans h.2.2.2.2.2.2.2⟩
theorem Oc.new (w : World) (t : TypeId) (d0 d1 d2 d3 d4 d5 d6 d7 : Int) : Oc (w.alloc (.cells #[.int .u8 d0, .int .u8 d1, .int .u8 d2, .int .u8 d3, .int .u8 d4, .int .u8 d5, .int .u8 d6, .int .u8 d7] t)) w.heap.size d0 d1 d2 d3 d4 d5 d6 d7 := by
  have h := (Row.new w t [.int .u8 d0, .int .u8 d1, .int .u8 d2, .int .u8 d3, .int .u8 d4, .int .u8 d5, .int .u8 d6, .int .u8 d7]).cell
  exact ⟨h 0, h 1, h 2, h 3, h 4, h 5, h 6, h 7⟩

end Go.Proofs.YthifegbmpmialaaDoor

namespace Go.Proofs.YthifegbmpmialaaDoor
open Go.RowKit

/-- what the model has reckoned when the wheels from k on are done -/
def horn (zs ds : List Int) (n k : Nat) (h : Int) : Prop := 0 ≤ h ∧ valL zs ds n = h * szL (zs.take k) + valL zs ds k
theorem horn_bd {zs ds : List Int} {n k : Nat} {h : Int} (H : horn zs ds n k h) (hk : k ≤ n) (hn : n ≤ zs.length) (h8 : zs.length ≤ 8) (hi : inB zs n) (hl : ltTo zs ds n) : h ≤ 10000000000000000 := by
  have a := (szL_bd zs k (by omega) (fun j hj => hi j (by omega))).1
  have b := (valL_bd zs ds k (by omega) (fun j hj => hi j (by omega)) (fun j hj => hl j (by omega))).1
  have c := (valL_bd zs ds n hn hi hl).2
  have d := szL_bd zs n hn hi
  have e := pow_bd n (by omega)
  have f : h * 1 ≤ h * szL (zs.take k) := Int.mul_le_mul_of_nonneg_left a H.1
  have g := H.2
  omega
theorem horn_step {zs ds : List Int} {n k : Nat} {h : Int} (H : horn zs ds n (k + 1) h) (hk : k + 1 ≤ n) (hn : n ≤ zs.length) (hi : inB zs n) (hl : ltTo zs ds n) :
    horn zs ds n k (h * zs[k]?.getD 0 + ds[k]?.getD 0) := by
  have hz := hi k (by omega)
  have hd := hl k (by omega)
  refine ⟨by have := Int.mul_nonneg H.1 (show 0 ≤ zs[k]?.getD 0 by omega); omega, ?_⟩
  rw [H.2, szL_take zs k (by omega)]
  show _ = _
  simp only [valL]
  rw [Int.add_mul, Int.mul_assoc, Int.mul_comm (szL (zs.take k)) (zs[k]?.getD 0)]
  omega
theorem horn_end {zs ds : List Int} {n : Nat} {h : Int} (H : horn zs ds n 0 h) : h = valL zs ds n := by
  have := H.2
  simp [szL, valL] at this
  omega

set_option maxHeartbeats 4000000 in
theorem l01Value_any (b n cap : Nat) (zs : List Int) (d0 d1 d2 d3 d4 d5 d6 d7 : Int) (w : World) (h : Stk w b zs) (hn : n ≤ zs.length) (h8 : zs.length ≤ 8) (hi : inB zs n) (ho : Oct d0 d1 d2 d3 d4 d5 d6 d7)
    (hl : ltTo zs [d0, d1, d2, d3, d4, d5, d6, d7] n) :
    Calls Tryd.prog 63 #[.slice (some ⟨b, 0, none⟩) n cap, .agg #[.int .u8 d0, .int .u8 d1, .int .u8 d2, .int .u8 d3, .int .u8 d4, .int .u8 d5, .int .u8 d6, .int .u8 d7]] w
      fun e w' => e = .returned (.int .i64 (valL zs [d0, d1, d2, d3, d4, d5, d6, d7] n)) ∧ Below w.heap.size w w' := by
  have hO := hid (fun k hk => oct_bd ho k hk)
  have hB0 := fun (o : Obj) => (Below.refl w.heap.size w).alloc (Nat.le_refl _) o
  have hC := hid (fun (o : Obj) => (h.below (hB0 o) h.1).2.1)
  have hB := hid hB0
  have hR := hid ((Row.new w 31 [.int .u8 d0, .int .u8 d1, .int .u8 d2, .int .u8 d3, .int .u8 d4, .int .u8 d5, .int .u8 d6, .int .u8 d7]).cell)
  have HI := hid hi
  have HL := hid hl
  have n8 : n ≤ 8 := by omega
  have HN := hid hn
  have H8 := hid h8
  clear h ho hB0 hi hl hn h8
  go_enter Tryd.func63, Tryd.ntmps63
  go_wp2
  go_loopw [5, 6] (fun s i wr => ∃ (k : Nat) (q : Int), k ≤ n ∧ i = .int .i64 ((k : Int) - 1) ∧ s = .int .i64 q ∧ horn zs [d0, d1, d2, d3, d4, d5, d6, d7] n k q ∧ ∃ t, wr = (w.alloc (.cells #[.int .u8 d0, .int .u8 d1, .int .u8 d2, .int .u8 d3, .int .u8 d4, .int .u8 d5, .int .u8 d6, .int .u8 d7] 31)).drewN t) (fun _ i _ => (intOf i + 1).toNat)
  case atStart => exact ⟨n, 0, Nat.le_refl _, rfl, rfl, ⟨Int.le_refl _, by omega⟩, 0, rfl⟩
  case round =>
    obtain ⟨k, q, hk, rfl, rfl, hH, t, rfl⟩ := hrel
    by_cases hlt : 0 < k
    · obtain ⟨k, rfl⟩ : ∃ j, k = j + 1 := ⟨k - 1, by omega⟩
      have hc := hR.out k
      rw [show ([Value.int .u8 d0, .int .u8 d1, .int .u8 d2, .int .u8 d3, .int .u8 d4, .int .u8 d5, .int .u8 d6, .int .u8 d7] : List Value)[k]? = some (.int .u8 (([d0, d1, d2, d3, d4, d5, d6, d7] : List Int)[k]?.getD 0)) from oct_get d0 d1 d2 d3 d4 d5 d6 d7 k (by omega)] at hc
      have hdb := hO.out k (by omega)
      have hx := hC.out (.cells #[.int .u8 d0, .int .u8 d1, .int .u8 d2, .int .u8 d3, .int .u8 d4, .int .u8 d5, .int .u8 d6, .int .u8 d7] 31) k (by have := HN.out; omega)
      have hzb := HI.out k (by omega)
      have hS := hid (horn_step hH hk HN.out HI.out HL.out)
      have hbd := horn_bd hS.out (by omega) HN.out H8.out HI.out HL.out
      have hq0 := hH.1
      have hqb := horn_bd hH hk HN.out H8.out HI.out HL.out
      clear hH
      obtain ⟨d, hd⟩ : ∃ d, d = ([d0, d1, d2, d3, d4, d5, d6, d7] : List Int)[k]?.getD 0 := ⟨_, rfl⟩
      obtain ⟨z, hz⟩ : ∃ z, z = zs[k]?.getD 0 := ⟨_, rfl⟩
      rw [← hd] at hc hdb hS hbd
      rw [← hz] at hx hzb hS hbd
      clear hd hz
      have q1 : 0 ≤ q * z := Int.mul_nonneg hq0 (by omega)
      have e0 : (((k + 1 : Nat) : Int) - 1) = (k : Int) := by omega
      have w1 : IntKind.i64.wrap z = z := IntWalk.i64_in z (by omega)
      have w2 : IntKind.i64.wrap d = d := IntWalk.i64_in d (by omega)
      have w3 : IntKind.i64.wrap (q * z) = q * z := IntWalk.i64_in _ (by omega)
      have w4 : IntKind.i64.wrap (q * z + d) = q * z + d := IntWalk.i64_in _ (by omega)
      have k0 : (0 : Int) ≤ (k : Int) := by omega
      have kn : (k : Int) < (n : Int) := by omega
      rw [e0]
      go_wp2
      go_quiet (fail)
      clear w1 w2 w3 w4
      go_wp2
      all_goals go_roundw
      case rel => exact ⟨k, q * z + d, by omega, by go_num, rfl, hS.out, _, rfl⟩
      case measure => simp [intOf]
    · obtain rfl : k = 0 := by omega
      have hE := hid (horn_end hH)
      clear hH
      go_wp2
      go_ret
      exact ⟨by rw [← hE.out]; rfl, below_drewN (hB.out _) t⟩

theorem Stk.take {w : World} {b : Nat} {zs : List Int} (h : Stk w b zs) (k : Nat) (hk : k ≤ zs.length) : Stk w b (zs.take k) :=
  ⟨h.1, fun j hj => by
    have hj' : j < k := by simpa using (Nat.lt_min.1 (by simpa using hj)).1
    rw [h.2.1 j (by omega)]; simp [hj'], fun z hz => h.2.2.1 z (List.mem_of_mem_take hz), by simp; have := h.2.2.2; omega⟩
theorem take_take' (zs : List Int) (j k : Nat) (h : j ≤ k) : (zs.take k).take j = zs.take j := by rw [List.take_take, Nat.min_eq_left h]
theorem valL_take (zs ds : List Int) (k : Nat) : ∀ j, j ≤ k → valL (zs.take k) ds j = valL zs ds j
  | 0, _ => rfl
  | j + 1, h => by
    simp only [valL]
    rw [valL_take zs ds k j (by omega), take_take' zs j k (by omega)]
theorem inB_take {zs : List Int} {n k : Nat} (h : inB zs n) (hk : k ≤ n) : inB (zs.take k) k := fun j hj => by
  have := h j (by omega)
  simpa [hj] using this
theorem ltTo_take {zs ds : List Int} {n k : Nat} (h : ltTo zs ds n) (hk : k ≤ n) : ltTo (zs.take k) ds k := fun j hj => by
  have := h j (by omega)
  simpa [hj] using this

/-- impl.value over the first k wheels of a valid stack -/
theorem value_any (b k cap : Nat) (zs : List Int) (d0 d1 d2 d3 d4 d5 d6 d7 : Int) (ho : Oct d0 d1 d2 d3 d4 d5 d6 d7) (hv : okV zs [d0, d1, d2, d3, d4, d5, d6, d7] = true) (hk : k ≤ zs.length) (w : World) (hS : Stk w b zs) :
    Calls Tryd.prog 88 #[.slice (some ⟨b, 0, none⟩) k cap, .agg #[.int .u8 d0, .int .u8 d1, .int .u8 d2, .int .u8 d3, .int .u8 d4, .int .u8 d5, .int .u8 d6, .int .u8 d7]] w fun e W' => e = .returned (.int .i64 (valL zs [d0, d1, d2, d3, d4, d5, d6, d7] k)) ∧ Below w.heap.size w W' := by
  obtain ⟨hv1, hv2⟩ := okV_out hv
  obtain ⟨_, h8, hin, _, _⟩ := okL_out hv1
  have hlt := okD_lt hv2 h8 (fun j hj => (oct_bd ho j hj).1)
  have hlen : k = (zs.take k).length := by simp; omega
  have h := callsIn_wide.1 (value_in Fence.wide 8 trivial trivial trivial rfl (by omega) b k cap (zs.take k) hlen (by omega) (inB_take hin hk) d0 d1 d2 d3 d4 d5 d6 d7 ho w (hS.take k hk))
  rw [vfold_all (zs.take k) [d0, d1, d2, d3, d4, d5, d6, d7] (by omega) (by omega) (inB_take hin hk) (ltTo_take hlt hk), valL_take zs [d0, d1, d2, d3, d4, d5, d6, d7] k k (Nat.le_refl _)] at h
  exact h
theorem l01Value_ok (b k cap : Nat) (zs : List Int) (d0 d1 d2 d3 d4 d5 d6 d7 : Int) (ho : Oct d0 d1 d2 d3 d4 d5 d6 d7) (hv : okV zs [d0, d1, d2, d3, d4, d5, d6, d7] = true) (hk : k ≤ zs.length) (w : World) (hS : Stk w b zs) :
    Calls Tryd.prog 63 #[.slice (some ⟨b, 0, none⟩) k cap, .agg #[.int .u8 d0, .int .u8 d1, .int .u8 d2, .int .u8 d3, .int .u8 d4, .int .u8 d5, .int .u8 d6, .int .u8 d7]] w fun e W' => e = .returned (.int .i64 (valL zs [d0, d1, d2, d3, d4, d5, d6, d7] k)) ∧ Below w.heap.size w W' := by
  obtain ⟨hv1, hv2⟩ := okV_out hv
  obtain ⟨_, h8, hin, _, _⟩ := okL_out hv1
  have hlt := okD_lt hv2 h8 (fun j hj => (oct_bd ho j hj).1)
  exact l01Value_any b k cap zs d0 d1 d2 d3 d4 d5 d6 d7 w hS hk h8 (fun j hj => hin j (by omega)) ho (fun j hj => hlt j (by omega))

def valueR (zs ds : List Int) : Int × Int := if okV zs ds then (valL zs ds zs.length, 0) else (0, 1)
theorem valueR_no {zs ds : List Int} (h : okV zs ds = false) : valueR zs ds = (0, 1) := by simp [valueR, h]
theorem valueR_yes {zs ds : List Int} (h : okV zs ds = true) : valueR zs ds = (valL zs ds zs.length, 0) := by simp [valueR, h]
def lastR (zs ds : List Int) (k : Int) : Int × Int := if okV zs ds then (if 0 ≤ k ∧ k ≤ zs.length then (valL zs ds k.toNat, 0) else (0, 2)) else (0, 1)
theorem lastR_no {zs ds : List Int} (k : Int) (h : okV zs ds = false) : lastR zs ds k = (0, 1) := by simp [lastR, h]
theorem lastR_out {zs ds : List Int} (k : Int) (h : okV zs ds = true) (hk : ¬ (0 ≤ k ∧ k ≤ zs.length)) : lastR zs ds k = (0, 2) := by simp only [lastR, h, if_true, if_neg hk]
theorem lastR_yes {zs ds : List Int} (k : Nat) (h : okV zs ds = true) (hk : k ≤ zs.length) : lastR zs ds (k : Int) = (valL zs ds k, 0) := by
  simp only [lastR, h, if_true]
  rw [if_pos (by omega), Int.toNat_natCast]

end Go.Proofs.YthifegbmpmialaaDoor

namespace Go.Proofs.YthifegbmpmialaaDoor
open Go
theorem wpAnyH_takeD {P : Program} {ops : Array Oper} {Q : Exit → Act → World → Prop} {md : Region.Mode} {S : World → Prop} {i : Nat} (d : Option Nat) {oi : Oper} {v : Value} {fuel : Nat} {listed : Array Bool} {a : Act} {w : World} (hi : ops[i]? = some oi) (hdst : oi.dst = d)
    (hs : Region.noSelect ops = true) (hf : Region.free md ops listed i = true) (hr : (Region.ready md ops listed).contains i = true)
    (hQ : ∀ c a w, Q (.panic c) (a.put d v) w → Q (.panic c) a w) (hy : YieldsIf P ops S oi v a) (hS : S w)
    (h : wpAnyH P md ops Q S fuel (listed.setIfInBounds i true) (a.put d v) w) : wpAnyH P md ops Q S (fuel + 1) listed a w := by
  subst hdst; exact wpAnyH_take hi hs hf hr hQ hy hS h
end Go.Proofs.YthifegbmpmialaaDoor

namespace Go.Proofs.YthifegbmpmialaaDoor
open Go.RowKit
/-- a device that is valid -/
def okDev (zs ds : List Int) (pr : Int) (st : Bool) (tk : Int) : Bool := okV zs ds && ((decide (-1 ≤ pr) && decide (pr ≤ szL zs - 1)) && ((decide (0 ≤ tk) && decide (tk ≤ 1000000)) && (!st || pr == valL zs ds zs.length)))
theorem okDev_digits {zs ds : List Int} {pr : Int} {st : Bool} {tk : Int} (h : okV zs ds = false) : okDev zs ds pr st tk = false := by rw [okDev, h]; rfl
theorem okDev_preset {zs ds : List Int} {pr : Int} {st : Bool} {tk : Int} (h : ¬ (-1 ≤ pr ∧ pr < szL zs)) : okDev zs ds pr st tk = false := by
  have e : (decide (-1 ≤ pr) && decide (pr ≤ szL zs - 1)) = false := by simpa using fun a => by omega
  rw [okDev, e, Bool.false_and, Bool.and_false]
theorem okDev_tickets {zs ds : List Int} {pr : Int} {st : Bool} {tk : Int} (h : ¬ (0 ≤ tk ∧ tk ≤ 1000000)) : okDev zs ds pr st tk = false := by
  have e : (decide (0 ≤ tk) && decide (tk ≤ 1000000)) = false := by simpa using fun a => by omega
  rw [okDev, e, Bool.false_and, Bool.and_false, Bool.and_false]
theorem okDev_rest {zs ds : List Int} {pr : Int} {st : Bool} {tk : Int} (h0 : okV zs ds = true) (h1 : -1 ≤ pr ∧ pr < szL zs) (h2 : 0 ≤ tk ∧ tk ≤ 1000000) : okDev zs ds pr st tk = (!st || pr == valL zs ds zs.length) := by
  have e1 : (decide (-1 ≤ pr) && decide (pr ≤ szL zs - 1)) = true := by simp; omega
  have e2 : (decide (0 ≤ tk) && decide (tk ≤ 1000000)) = true := by simp; omega
  rw [okDev, h0, e1, e2, Bool.true_and, Bool.true_and, Bool.true_and]
theorem okDev_out {zs ds : List Int} {pr : Int} {st : Bool} {tk : Int} (h : okDev zs ds pr st tk = true) : okV zs ds = true ∧ (-1 ≤ pr ∧ pr < szL zs) ∧ (0 ≤ tk ∧ tk ≤ 1000000) ∧ (st = true → pr = valL zs ds zs.length) := by
  simp only [okDev, Bool.and_eq_true, decide_eq_true_eq, Bool.or_eq_true, Bool.not_eq_true', beq_iff_eq] at h
  obtain ⟨h0, ⟨h1, h2⟩, ⟨h3, h4⟩, h5⟩ := h
  refine ⟨h0, ⟨h1, by omega⟩, ⟨h3, h4⟩, fun e => ?_⟩
  rcases h5 with h5 | h5
  · rw [e] at h5; cases h5
  · exact h5
theorem heldDev {W : World} {g : Nat} {T : TypeId} {v0 v1 v2 v3 v4 v5 v6 v7 v8 v9 v10 v11 : Value} (h : Row W g T [v0, v1, v2, v3, v4, v5, v6, v7, v8, v9, v10, v11]) {w' : World} (hb : Below W.heap.size W w') :
    Below W.heap.size W w' ∧ w'.cell? ⟨g, 0, none⟩ = some v0 ∧ w'.cell? ⟨g, 1, none⟩ = some v1 ∧ w'.cell? ⟨g, 2, none⟩ = some v2 ∧ w'.cell? ⟨g, 3, none⟩ = some v3 ∧ w'.cell? ⟨g, 4, none⟩ = some v4 ∧ w'.cell? ⟨g, 5, none⟩ = some v5 ∧ w'.cell? ⟨g, 6, none⟩ = some v6 ∧ w'.cell? ⟨g, 7, none⟩ = some v7 ∧ w'.cell? ⟨g, 8, none⟩ = some v8 ∧ w'.cell? ⟨g, 9, none⟩ = some v9 ∧ w'.cell? ⟨g, 10, none⟩ = some v10 ∧ w'.cell? ⟨g, 11, none⟩ = some v11 := by
  have r := h.below hb h.lt
  exact ⟨hb, r.cell 0, r.cell 1, r.cell 2, r.cell 3, r.cell 4, r.cell 5, r.cell 6, r.cell 7, r.cell 8, r.cell 9, r.cell 10, r.cell 11⟩
theorem l01Size_dev (b n cap : Nat) (zs : List Int) (hn : n = zs.length) (hv : okL zs = true) (w : World) (h : Stk w b zs) :
    Calls Tryd.prog 62 #[.slice (some ⟨b, 0, none⟩) n cap] w fun e w' => e = .returned (.int .i64 (szL zs)) ∧ w = w' := by
  obtain ⟨_, _, hin, _, hs⟩ := okL_out hv
  have := l01Size_any b n cap zs w h (by omega) (by rw [hn]; exact hin)
  rwa [hn, List.take_length, show szC zs = szL zs from by unfold szC; omega, ← hn] at this
set_option maxRecDepth 100000 in
set_option maxHeartbeats 4000000 in
theorem l07Ok_any (g B n cap : Nat) (zs : List Int) (d0 d1 d2 d3 d4 d5 d6 d7 : Int) (pr : Int) (st : Bool) (tk : Int) (w : World) (hS : Stk w B zs) (hn : n = zs.length) (ho : Oct d0 d1 d2 d3 d4 d5 d6 d7) (hR : Row w g 33 [.slice (some ⟨B, 0, none⟩) n cap, .int .u8 d0, .int .u8 d1, .int .u8 d2, .int .u8 d3, .int .u8 d4, .int .u8 d5, .int .u8 d6, .int .u8 d7, .int .i64 pr, .bool st, .int .i64 tk]) :
    Calls Tryd.prog 41 #[.pointer (some ⟨g, 0, none⟩)] w (GivesB w (.bool (okDev zs [d0, d1, d2, d3, d4, d5, d6, d7] pr st tk))) := by
  have HS0 := hid (heldDev hR (Below.refl _ _).drew)
  have HSD := hid (fun (v : World) (hv : (fun w' : World => Below w.heap.size w w' ∧ w'.cell? ⟨g, 0, none⟩ = some (.slice (some ⟨B, 0, none⟩) n cap) ∧ w'.cell? ⟨g, 1, none⟩ = some (.int .u8 d0) ∧ w'.cell? ⟨g, 2, none⟩ = some (.int .u8 d1) ∧ w'.cell? ⟨g, 3, none⟩ = some (.int .u8 d2) ∧ w'.cell? ⟨g, 4, none⟩ = some (.int .u8 d3) ∧ w'.cell? ⟨g, 5, none⟩ = some (.int .u8 d4) ∧ w'.cell? ⟨g, 6, none⟩ = some (.int .u8 d5) ∧ w'.cell? ⟨g, 7, none⟩ = some (.int .u8 d6) ∧ w'.cell? ⟨g, 8, none⟩ = some (.int .u8 d7) ∧ w'.cell? ⟨g, 9, none⟩ = some (.int .i64 pr) ∧ w'.cell? ⟨g, 10, none⟩ = some (.bool st) ∧ w'.cell? ⟨g, 11, none⟩ = some (.int .i64 tk)) v) => heldDev hR (hv.1.drew))
  have HV := hid (fun (w' : World) (h : (fun w' : World => Below w.heap.size w w' ∧ w'.cell? ⟨g, 0, none⟩ = some (.slice (some ⟨B, 0, none⟩) n cap) ∧ w'.cell? ⟨g, 1, none⟩ = some (.int .u8 d0) ∧ w'.cell? ⟨g, 2, none⟩ = some (.int .u8 d1) ∧ w'.cell? ⟨g, 3, none⟩ = some (.int .u8 d2) ∧ w'.cell? ⟨g, 4, none⟩ = some (.int .u8 d3) ∧ w'.cell? ⟨g, 5, none⟩ = some (.int .u8 d4) ∧ w'.cell? ⟨g, 6, none⟩ = some (.int .u8 d5) ∧ w'.cell? ⟨g, 7, none⟩ = some (.int .u8 d6) ∧ w'.cell? ⟨g, 8, none⟩ = some (.int .u8 d7) ∧ w'.cell? ⟨g, 9, none⟩ = some (.int .i64 pr) ∧ w'.cell? ⟨g, 10, none⟩ = some (.bool st) ∧ w'.cell? ⟨g, 11, none⟩ = some (.int .i64 tk)) w') => (specValidDigits_any B n cap zs d0 d1 d2 d3 d4 d5 d6 d7 w' (hS.below h.1 hS.1) hn ho).mono fun e w'' ⟨he, hB⟩ => And.intro (show e = Ending.returned (.bool (okV zs [d0, d1, d2, d3, d4, d5, d6, d7])) from he) (heldDev hR (h.1.trans (hB.mono h.1.size))))
  have HZ := hid (fun hv (w' : World) (h : (fun w' : World => Below w.heap.size w w' ∧ w'.cell? ⟨g, 0, none⟩ = some (.slice (some ⟨B, 0, none⟩) n cap) ∧ w'.cell? ⟨g, 1, none⟩ = some (.int .u8 d0) ∧ w'.cell? ⟨g, 2, none⟩ = some (.int .u8 d1) ∧ w'.cell? ⟨g, 3, none⟩ = some (.int .u8 d2) ∧ w'.cell? ⟨g, 4, none⟩ = some (.int .u8 d3) ∧ w'.cell? ⟨g, 5, none⟩ = some (.int .u8 d4) ∧ w'.cell? ⟨g, 6, none⟩ = some (.int .u8 d5) ∧ w'.cell? ⟨g, 7, none⟩ = some (.int .u8 d6) ∧ w'.cell? ⟨g, 8, none⟩ = some (.int .u8 d7) ∧ w'.cell? ⟨g, 9, none⟩ = some (.int .i64 pr) ∧ w'.cell? ⟨g, 10, none⟩ = some (.bool st) ∧ w'.cell? ⟨g, 11, none⟩ = some (.int .i64 tk)) w') => (l01Size_dev B n cap zs hn hv w' (hS.below h.1 hS.1)).mono fun e w'' ⟨he, hB⟩ => And.intro (show e = Ending.returned (.int .i64 (szL zs)) from he) (hB ▸ h))
  have H1 := hid (fun (w' : World) (h : (fun w' : World => Below w.heap.size w w' ∧ w'.cell? ⟨g, 0, none⟩ = some (.slice (some ⟨B, 0, none⟩) n cap) ∧ w'.cell? ⟨g, 1, none⟩ = some (.int .u8 d0) ∧ w'.cell? ⟨g, 2, none⟩ = some (.int .u8 d1) ∧ w'.cell? ⟨g, 3, none⟩ = some (.int .u8 d2) ∧ w'.cell? ⟨g, 4, none⟩ = some (.int .u8 d3) ∧ w'.cell? ⟨g, 5, none⟩ = some (.int .u8 d4) ∧ w'.cell? ⟨g, 6, none⟩ = some (.int .u8 d5) ∧ w'.cell? ⟨g, 7, none⟩ = some (.int .u8 d6) ∧ w'.cell? ⟨g, 8, none⟩ = some (.int .u8 d7) ∧ w'.cell? ⟨g, 9, none⟩ = some (.int .i64 pr) ∧ w'.cell? ⟨g, 10, none⟩ = some (.bool st) ∧ w'.cell? ⟨g, 11, none⟩ = some (.int .i64 tk)) w') => (inr_any pr (-1) (szL zs - 1) w').mono fun e w'' ⟨he, hB⟩ => And.intro (show e = Ending.returned (.bool (decide (-1 ≤ pr) && decide (pr ≤ szL zs - 1))) from he) (hB ▸ h))
  have H2 := hid (fun (w' : World) (h : (fun w' : World => Below w.heap.size w w' ∧ w'.cell? ⟨g, 0, none⟩ = some (.slice (some ⟨B, 0, none⟩) n cap) ∧ w'.cell? ⟨g, 1, none⟩ = some (.int .u8 d0) ∧ w'.cell? ⟨g, 2, none⟩ = some (.int .u8 d1) ∧ w'.cell? ⟨g, 3, none⟩ = some (.int .u8 d2) ∧ w'.cell? ⟨g, 4, none⟩ = some (.int .u8 d3) ∧ w'.cell? ⟨g, 5, none⟩ = some (.int .u8 d4) ∧ w'.cell? ⟨g, 6, none⟩ = some (.int .u8 d5) ∧ w'.cell? ⟨g, 7, none⟩ = some (.int .u8 d6) ∧ w'.cell? ⟨g, 8, none⟩ = some (.int .u8 d7) ∧ w'.cell? ⟨g, 9, none⟩ = some (.int .i64 pr) ∧ w'.cell? ⟨g, 10, none⟩ = some (.bool st) ∧ w'.cell? ⟨g, 11, none⟩ = some (.int .i64 tk)) w') => (inr_any tk 0 1000000 w').mono fun e w'' ⟨he, hB⟩ => And.intro (show e = Ending.returned (.bool (decide (0 ≤ tk) && decide (tk ≤ 1000000))) from he) (hB ▸ h))
  have HL := hid (fun hv (w' : World) (h : (fun w' : World => Below w.heap.size w w' ∧ w'.cell? ⟨g, 0, none⟩ = some (.slice (some ⟨B, 0, none⟩) n cap) ∧ w'.cell? ⟨g, 1, none⟩ = some (.int .u8 d0) ∧ w'.cell? ⟨g, 2, none⟩ = some (.int .u8 d1) ∧ w'.cell? ⟨g, 3, none⟩ = some (.int .u8 d2) ∧ w'.cell? ⟨g, 4, none⟩ = some (.int .u8 d3) ∧ w'.cell? ⟨g, 5, none⟩ = some (.int .u8 d4) ∧ w'.cell? ⟨g, 6, none⟩ = some (.int .u8 d5) ∧ w'.cell? ⟨g, 7, none⟩ = some (.int .u8 d6) ∧ w'.cell? ⟨g, 8, none⟩ = some (.int .u8 d7) ∧ w'.cell? ⟨g, 9, none⟩ = some (.int .i64 pr) ∧ w'.cell? ⟨g, 10, none⟩ = some (.bool st) ∧ w'.cell? ⟨g, 11, none⟩ = some (.int .i64 tk)) w') => (l01Value_ok B n cap zs d0 d1 d2 d3 d4 d5 d6 d7 ho hv (by omega) w' (hS.below h.1 hS.1)).mono fun e w'' ⟨he, hB⟩ => And.intro (show e = Ending.returned (.int .i64 (valL zs [d0, d1, d2, d3, d4, d5, d6, d7] n)) from he) (heldDev hR (h.1.trans (hB.mono h.1.size))))
  have HN := hid hn
  clear hR hS hn ho
  cases hv : okV zs [d0, d1, d2, d3, d4, d5, d6, d7] with
  | false =>
    rw [okDev_digits hv]
    rw [hv] at HV
    clear hv HZ H1 H2 HL
    go_enter Tryd.func41, Tryd.ntmps41
    go_wp2_with fail
    
    refine wp_region_held (S := (fun w' : World => Below w.heap.size w w' ∧ w'.cell? ⟨g, 0, none⟩ = some (.slice (some ⟨B, 0, none⟩) n cap) ∧ w'.cell? ⟨g, 1, none⟩ = some (.int .u8 d0) ∧ w'.cell? ⟨g, 2, none⟩ = some (.int .u8 d1) ∧ w'.cell? ⟨g, 3, none⟩ = some (.int .u8 d2) ∧ w'.cell? ⟨g, 4, none⟩ = some (.int .u8 d3) ∧ w'.cell? ⟨g, 5, none⟩ = some (.int .u8 d4) ∧ w'.cell? ⟨g, 6, none⟩ = some (.int .u8 d5) ∧ w'.cell? ⟨g, 7, none⟩ = some (.int .u8 d6) ∧ w'.cell? ⟨g, 8, none⟩ = some (.int .u8 d7) ∧ w'.cell? ⟨g, 9, none⟩ = some (.int .i64 pr) ∧ w'.cell? ⟨g, 10, none⟩ = some (.bool st) ∧ w'.cell? ⟨g, 11, none⟩ = some (.int .i64 tk))) (by kernel_rfl) ?_
    change wpAnyH _ _ _ _ _ _ _ _ (World.drew _)
    have s0 : ((fun w' : World => Below w.heap.size w w' ∧ w'.cell? ⟨g, 0, none⟩ = some (.slice (some ⟨B, 0, none⟩) n cap) ∧ w'.cell? ⟨g, 1, none⟩ = some (.int .u8 d0) ∧ w'.cell? ⟨g, 2, none⟩ = some (.int .u8 d1) ∧ w'.cell? ⟨g, 3, none⟩ = some (.int .u8 d2) ∧ w'.cell? ⟨g, 4, none⟩ = some (.int .u8 d3) ∧ w'.cell? ⟨g, 5, none⟩ = some (.int .u8 d4) ∧ w'.cell? ⟨g, 6, none⟩ = some (.int .u8 d5) ∧ w'.cell? ⟨g, 7, none⟩ = some (.int .u8 d6) ∧ w'.cell? ⟨g, 8, none⟩ = some (.int .u8 d7) ∧ w'.cell? ⟨g, 9, none⟩ = some (.int .i64 pr) ∧ w'.cell? ⟨g, 10, none⟩ = some (.bool st) ∧ w'.cell? ⟨g, 11, none⟩ = some (.int .i64 tk))) _ := HS0.out
    refine wpAnyH_takeD (some 3) (i := 0) (v := ?_) rfl rfl (by kernel_rfl) (by kernel_rfl) (by kernel_rfl) (fun _ _ _ h => h) (.inl ⟨by kernel_rfl, ?_⟩) s0 ?_
    rotate_left
    · intro w' hw'; obtain ⟨hw1, hw2, hw3, hw4, hw5, hw6, hw7, hw8, hw9, hw10, hw11, hw12, hw13⟩ := hw'; go_simp; try with_reducible rfl
    try simp only [Act.put, List.setIfInBounds_toArray, List.set_cons_zero, List.set_cons_succ]
    refine wpAnyH_takeD (some 4) (i := 1) (v := ?_) rfl rfl (by kernel_rfl) (by kernel_rfl) (by kernel_rfl) (fun _ _ _ h => h) (.inl ⟨by kernel_rfl, ?_⟩) s0 ?_
    rotate_left
    · intro w' hw'; obtain ⟨hw1, hw2, hw3, hw4, hw5, hw6, hw7, hw8, hw9, hw10, hw11, hw12, hw13⟩ := hw'; go_simp; try with_reducible rfl
    try simp only [Act.put, List.setIfInBounds_toArray, List.set_cons_zero, List.set_cons_succ]
    refine wpAnyH_takeD (some 5) (i := 2) (v := ?_) rfl rfl (by kernel_rfl) (by kernel_rfl) (by kernel_rfl) (fun _ _ _ h => h) (.inl ⟨by kernel_rfl, ?_⟩) s0 ?_
    rotate_left
    · intro w' hw'; obtain ⟨hw1, hw2, hw3, hw4, hw5, hw6, hw7, hw8, hw9, hw10, hw11, hw12, hw13⟩ := hw'; go_simp; try with_reducible rfl
    try simp only [Act.put, List.setIfInBounds_toArray, List.set_cons_zero, List.set_cons_succ]
    refine wpAnyH_takeD (some 6) (i := 3) (v := ?_) rfl rfl (by kernel_rfl) (by kernel_rfl) (by kernel_rfl) (fun _ _ _ h => h) (.inl ⟨by kernel_rfl, ?_⟩) s0 ?_
    rotate_left
    · intro w' hw'; obtain ⟨hw1, hw2, hw3, hw4, hw5, hw6, hw7, hw8, hw9, hw10, hw11, hw12, hw13⟩ := hw'; go_simp; try with_reducible rfl
    try simp only [Act.put, List.setIfInBounds_toArray, List.set_cons_zero, List.set_cons_succ]
    refine wpAnyH_takeD (some 7) (i := 4) (v := ?_) rfl rfl (by kernel_rfl) (by kernel_rfl) (by kernel_rfl) (fun _ _ _ h => h) (.inl ⟨by kernel_rfl, ?_⟩) s0 ?_
    rotate_left
    · intro w' hw'; obtain ⟨hw1, hw2, hw3, hw4, hw5, hw6, hw7, hw8, hw9, hw10, hw11, hw12, hw13⟩ := hw'; go_simp; try with_reducible rfl
    try simp only [Act.put, List.setIfInBounds_toArray, List.set_cons_zero, List.set_cons_succ]
    refine wpAnyH_takeD (some 8) (i := 5) (v := ?_) rfl rfl (by kernel_rfl) (by kernel_rfl) (by kernel_rfl) (fun _ _ _ h => h) (.inl ⟨by kernel_rfl, ?_⟩) s0 ?_
    rotate_left
    · intro w' hw'; obtain ⟨hw1, hw2, hw3, hw4, hw5, hw6, hw7, hw8, hw9, hw10, hw11, hw12, hw13⟩ := hw'; go_simp; try with_reducible rfl
    try simp only [Act.put, List.setIfInBounds_toArray, List.set_cons_zero, List.set_cons_succ]
    refine wpAnyH_takeD (some 9) (i := 6) (v := ?_) rfl rfl (by kernel_rfl) (by kernel_rfl) (by kernel_rfl) (fun _ _ _ h => h) (.inl ⟨by kernel_rfl, ?_⟩) s0 ?_
    rotate_left
    · intro w' hw'; obtain ⟨hw1, hw2, hw3, hw4, hw5, hw6, hw7, hw8, hw9, hw10, hw11, hw12, hw13⟩ := hw'; go_simp; try with_reducible rfl
    try simp only [Act.put, List.setIfInBounds_toArray, List.set_cons_zero, List.set_cons_succ]
    refine wpAnyH_takeD (some 10) (i := 7) (v := ?_) rfl rfl (by kernel_rfl) (by kernel_rfl) (by kernel_rfl) (fun _ _ _ h => h) (.inl ⟨by kernel_rfl, ?_⟩) s0 ?_
    rotate_left
    · intro w' hw'; obtain ⟨hw1, hw2, hw3, hw4, hw5, hw6, hw7, hw8, hw9, hw10, hw11, hw12, hw13⟩ := hw'; go_simp; try with_reducible rfl
    try simp only [Act.put, List.setIfInBounds_toArray, List.set_cons_zero, List.set_cons_succ]
    refine wpAnyH_all (rs := [8]) (by kernel_rfl) (by simp) ?_
    intro i hi; simp only [List.mem_singleton] at hi; subst hi
    refine wpOp_step rfl (fun K hK => ?_)
    go_simp
    with_reducible refine (HV.out _ s0).mono ?_
    rintro e vs1 ⟨rfl, hvs1⟩
    have s1 := hvs1
    refine hK _ _ ⟨s1, ?_⟩
    try simp only [Act.put, List.setIfInBounds_toArray, List.set_cons_zero, List.set_cons_succ]
    refine wpAnyH_takeD (some 12) (i := 9) (v := ?_) rfl rfl (by kernel_rfl) (by kernel_rfl) (by kernel_rfl) (fun _ _ _ h => h) (.inl ⟨by kernel_rfl, ?_⟩) s1 ?_
    rotate_left
    · intro w' hw'; obtain ⟨hw1, hw2, hw3, hw4, hw5, hw6, hw7, hw8, hw9, hw10, hw11, hw12, hw13⟩ := hw'; go_simp; try with_reducible rfl
    try simp only [Act.put, List.setIfInBounds_toArray, List.set_cons_zero, List.set_cons_succ]
    refine wpAnyH_takeD (some 13) (i := 10) (v := ?_) rfl rfl (by kernel_rfl) (by kernel_rfl) (by kernel_rfl) (fun _ _ _ h => h) (.inl ⟨by kernel_rfl, ?_⟩) s1 ?_
    rotate_left
    · intro w' hw'; obtain ⟨hw1, hw2, hw3, hw4, hw5, hw6, hw7, hw8, hw9, hw10, hw11, hw12, hw13⟩ := hw'; go_simp; try with_reducible rfl
    try simp only [Act.put, List.setIfInBounds_toArray, List.set_cons_zero, List.set_cons_succ]
    refine wpAnyH_takeD (some 14) (i := 11) (v := undef) rfl rfl (by kernel_rfl) (by kernel_rfl) (by kernel_rfl) (fun _ _ _ h => h) (.inr ⟨by kernel_rfl, rfl⟩) s1 ?_
    try simp only [Act.put, List.setIfInBounds_toArray, List.set_cons_zero, List.set_cons_succ]
    refine wpAnyH_takeD (some 15) (i := 12) (v := undef) rfl rfl (by kernel_rfl) (by kernel_rfl) (by kernel_rfl) (fun _ _ _ h => h) (.inr ⟨by kernel_rfl, rfl⟩) s1 ?_
    try simp only [Act.put, List.setIfInBounds_toArray, List.set_cons_zero, List.set_cons_succ]
    refine wpAnyH_takeD (some 16) (i := 13) (v := undef) rfl rfl (by kernel_rfl) (by kernel_rfl) (by kernel_rfl) (fun _ _ _ h => h) (.inr ⟨by kernel_rfl, rfl⟩) s1 ?_
    try simp only [Act.put, List.setIfInBounds_toArray, List.set_cons_zero, List.set_cons_succ]
    refine wpAnyH_takeD (some 17) (i := 14) (v := undef) rfl rfl (by kernel_rfl) (by kernel_rfl) (by kernel_rfl) (fun _ _ _ h => h) (.inr ⟨by kernel_rfl, rfl⟩) s1 ?_
    try simp only [Act.put, List.setIfInBounds_toArray, List.set_cons_zero, List.set_cons_succ]
    refine wpAnyH_takeD (some 18) (i := 15) (v := undef) rfl rfl (by kernel_rfl) (by kernel_rfl) (by kernel_rfl) (fun _ _ _ h => h) (.inr ⟨by kernel_rfl, rfl⟩) s1 ?_
    try simp only [Act.put, List.setIfInBounds_toArray, List.set_cons_zero, List.set_cons_succ]
    refine wpAnyH_takeD (some 19) (i := 16) (v := undef) rfl rfl (by kernel_rfl) (by kernel_rfl) (by kernel_rfl) (fun _ _ _ h => h) (.inr ⟨by kernel_rfl, rfl⟩) s1 ?_
    try simp only [Act.put, List.setIfInBounds_toArray, List.set_cons_zero, List.set_cons_succ]
    refine wpAnyH_takeD (some 20) (i := 17) (v := undef) rfl rfl (by kernel_rfl) (by kernel_rfl) (by kernel_rfl) (fun _ _ _ h => h) (.inr ⟨by kernel_rfl, rfl⟩) s1 ?_
    try simp only [Act.put, List.setIfInBounds_toArray, List.set_cons_zero, List.set_cons_succ]
    refine wpAnyH_takeD (some 21) (i := 18) (v := undef) rfl rfl (by kernel_rfl) (by kernel_rfl) (by kernel_rfl) (fun _ _ _ h => h) (.inr ⟨by kernel_rfl, rfl⟩) s1 ?_
    try simp only [Act.put, List.setIfInBounds_toArray, List.set_cons_zero, List.set_cons_succ]
    refine wpAnyH_takeD (some 22) (i := 19) (v := undef) rfl rfl (by kernel_rfl) (by kernel_rfl) (by kernel_rfl) (fun _ _ _ h => h) (.inr ⟨by kernel_rfl, rfl⟩) s1 ?_
    try simp only [Act.put, List.setIfInBounds_toArray, List.set_cons_zero, List.set_cons_succ]
    refine wpAnyH_takeD (some 23) (i := 20) (v := undef) rfl rfl (by kernel_rfl) (by kernel_rfl) (by kernel_rfl) (fun _ _ _ h => h) (.inr ⟨by kernel_rfl, rfl⟩) s1 ?_
    try simp only [Act.put, List.setIfInBounds_toArray, List.set_cons_zero, List.set_cons_succ]
    refine wpAnyH_takeD (some 24) (i := 21) (v := undef) rfl rfl (by kernel_rfl) (by kernel_rfl) (by kernel_rfl) (fun _ _ _ h => h) (.inr ⟨by kernel_rfl, rfl⟩) s1 ?_
    try simp only [Act.put, List.setIfInBounds_toArray, List.set_cons_zero, List.set_cons_succ]
    refine wpAnyH_takeD (some 25) (i := 22) (v := undef) rfl rfl (by kernel_rfl) (by kernel_rfl) (by kernel_rfl) (fun _ _ _ h => h) (.inr ⟨by kernel_rfl, rfl⟩) s1 ?_
    try simp only [Act.put, List.setIfInBounds_toArray, List.set_cons_zero, List.set_cons_succ]
    refine wpAnyH_takeD (some 26) (i := 23) (v := ?_) rfl rfl (by kernel_rfl) (by kernel_rfl) (by kernel_rfl) (fun _ _ _ h => h) (.inl ⟨by kernel_rfl, ?_⟩) s1 ?_
    rotate_left
    · intro w' hw'; obtain ⟨hw1, hw2, hw3, hw4, hw5, hw6, hw7, hw8, hw9, hw10, hw11, hw12, hw13⟩ := hw'; go_simp; try with_reducible rfl
    try simp only [Act.put, List.setIfInBounds_toArray, List.set_cons_zero, List.set_cons_succ]
    refine wpAnyH_takeD (some 27) (i := 24) (v := ?_) rfl rfl (by kernel_rfl) (by kernel_rfl) (by kernel_rfl) (fun _ _ _ h => h) (.inl ⟨by kernel_rfl, ?_⟩) s1 ?_
    rotate_left
    · intro w' hw'; obtain ⟨hw1, hw2, hw3, hw4, hw5, hw6, hw7, hw8, hw9, hw10, hw11, hw12, hw13⟩ := hw'; go_simp; try with_reducible rfl
    try simp only [Act.put, List.setIfInBounds_toArray, List.set_cons_zero, List.set_cons_succ]
    refine wpAnyH_takeD (some 28) (i := 25) (v := undef) rfl rfl (by kernel_rfl) (by kernel_rfl) (by kernel_rfl) (fun _ _ _ h => h) (.inr ⟨by kernel_rfl, rfl⟩) s1 ?_
    try simp only [Act.put, List.setIfInBounds_toArray, List.set_cons_zero, List.set_cons_succ]
    refine wpAnyH_takeD (some 29) (i := 26) (v := undef) rfl rfl (by kernel_rfl) (by kernel_rfl) (by kernel_rfl) (fun _ _ _ h => h) (.inr ⟨by kernel_rfl, rfl⟩) s1 ?_
    try simp only [Act.put, List.setIfInBounds_toArray, List.set_cons_zero, List.set_cons_succ]
    refine wpAnyH_takeD (some 30) (i := 27) (v := undef) rfl rfl (by kernel_rfl) (by kernel_rfl) (by kernel_rfl) (fun _ _ _ h => h) (.inr ⟨by kernel_rfl, rfl⟩) s1 ?_
    try simp only [Act.put, List.setIfInBounds_toArray, List.set_cons_zero, List.set_cons_succ]
    refine wpAnyH_takeD (some 31) (i := 28) (v := undef) rfl rfl (by kernel_rfl) (by kernel_rfl) (by kernel_rfl) (fun _ _ _ h => h) (.inr ⟨by kernel_rfl, rfl⟩) s1 ?_
    try simp only [Act.put, List.setIfInBounds_toArray, List.set_cons_zero, List.set_cons_succ]
    refine wpAnyH_takeD (some 32) (i := 29) (v := undef) rfl rfl (by kernel_rfl) (by kernel_rfl) (by kernel_rfl) (fun _ _ _ h => h) (.inr ⟨by kernel_rfl, rfl⟩) s1 ?_
    try simp only [Act.put, List.setIfInBounds_toArray, List.set_cons_zero, List.set_cons_succ]
    refine wpAnyH_takeD (some 33) (i := 30) (v := undef) rfl rfl (by kernel_rfl) (by kernel_rfl) (by kernel_rfl) (fun _ _ _ h => h) (.inr ⟨by kernel_rfl, rfl⟩) s1 ?_
    try simp only [Act.put, List.setIfInBounds_toArray, List.set_cons_zero, List.set_cons_succ]
    refine wpAnyH_takeD (some 34) (i := 31) (v := ?_) rfl rfl (by kernel_rfl) (by kernel_rfl) (by kernel_rfl) (fun _ _ _ h => h) (.inl ⟨by kernel_rfl, ?_⟩) s1 ?_
    rotate_left
    · intro w' hw'; obtain ⟨hw1, hw2, hw3, hw4, hw5, hw6, hw7, hw8, hw9, hw10, hw11, hw12, hw13⟩ := hw'; go_simp; try with_reducible rfl
    try simp only [Act.put, List.setIfInBounds_toArray, List.set_cons_zero, List.set_cons_succ]
    refine wpAnyH_done (by kernel_rfl) ?_ _
    go_wp2_with fail
    go_ret
    exact ⟨rfl, hvs1.1⟩
  | true =>
    rw [hv] at HV
    have hzz := (okV_out hv).1
    have HZ := hid (HZ.out hzz)
    have HL := hid (HL.out hv)
    obtain ⟨_, _, _, z1, z2⟩ := okL_out hzz
    by_cases cc1 : -1 ≤ pr ∧ pr < szL zs
    · have e1 : (decide (-1 ≤ pr) && decide (pr ≤ szL zs - 1)) = true := by simp; omega
      rw [e1] at H1
      by_cases c2 : 0 ≤ tk ∧ tk ≤ 1000000
      · have e2 : (decide (0 ≤ tk) && decide (tk ≤ 1000000)) = true := by simp; omega
        rw [e2] at H2
        rw [okDev_rest hv cc1 c2]
        obtain ⟨z, hz⟩ : ∃ z, szL zs = z := ⟨_, rfl⟩
        rw [hz] at H1 HZ z1 z2
        rw [HN.out] at HL
        obtain ⟨l, hl⟩ : ∃ l, valL zs [d0, d1, d2, d3, d4, d5, d6, d7] zs.length = l := ⟨_, rfl⟩
        rw [hl] at HL ⊢
        rw [← HN.out] at HL
        have tz : IntKind.i64.wrap (z - 1) = z - 1 := IntWalk.i64_in _ (by omega)
        clear hv hzz cc1 c2 e1 e2 hz hl
        cases st
        · go_enter Tryd.func41, Tryd.ntmps41
          go_wp2_with fail
          
          refine wp_region_held (S := (fun w' : World => Below w.heap.size w w' ∧ w'.cell? ⟨g, 0, none⟩ = some (.slice (some ⟨B, 0, none⟩) n cap) ∧ w'.cell? ⟨g, 1, none⟩ = some (.int .u8 d0) ∧ w'.cell? ⟨g, 2, none⟩ = some (.int .u8 d1) ∧ w'.cell? ⟨g, 3, none⟩ = some (.int .u8 d2) ∧ w'.cell? ⟨g, 4, none⟩ = some (.int .u8 d3) ∧ w'.cell? ⟨g, 5, none⟩ = some (.int .u8 d4) ∧ w'.cell? ⟨g, 6, none⟩ = some (.int .u8 d5) ∧ w'.cell? ⟨g, 7, none⟩ = some (.int .u8 d6) ∧ w'.cell? ⟨g, 8, none⟩ = some (.int .u8 d7) ∧ w'.cell? ⟨g, 9, none⟩ = some (.int .i64 pr) ∧ w'.cell? ⟨g, 10, none⟩ = some (.bool false) ∧ w'.cell? ⟨g, 11, none⟩ = some (.int .i64 tk))) (by kernel_rfl) ?_
          change wpAnyH _ _ _ _ _ _ _ _ (World.drew _)
          have s0 : ((fun w' : World => Below w.heap.size w w' ∧ w'.cell? ⟨g, 0, none⟩ = some (.slice (some ⟨B, 0, none⟩) n cap) ∧ w'.cell? ⟨g, 1, none⟩ = some (.int .u8 d0) ∧ w'.cell? ⟨g, 2, none⟩ = some (.int .u8 d1) ∧ w'.cell? ⟨g, 3, none⟩ = some (.int .u8 d2) ∧ w'.cell? ⟨g, 4, none⟩ = some (.int .u8 d3) ∧ w'.cell? ⟨g, 5, none⟩ = some (.int .u8 d4) ∧ w'.cell? ⟨g, 6, none⟩ = some (.int .u8 d5) ∧ w'.cell? ⟨g, 7, none⟩ = some (.int .u8 d6) ∧ w'.cell? ⟨g, 8, none⟩ = some (.int .u8 d7) ∧ w'.cell? ⟨g, 9, none⟩ = some (.int .i64 pr) ∧ w'.cell? ⟨g, 10, none⟩ = some (.bool false) ∧ w'.cell? ⟨g, 11, none⟩ = some (.int .i64 tk))) _ := HS0.out
          refine wpAnyH_takeD (some 3) (i := 0) (v := ?_) rfl rfl (by kernel_rfl) (by kernel_rfl) (by kernel_rfl) (fun _ _ _ h => h) (.inl ⟨by kernel_rfl, ?_⟩) s0 ?_
          rotate_left
          · intro w' hw'; obtain ⟨hw1, hw2, hw3, hw4, hw5, hw6, hw7, hw8, hw9, hw10, hw11, hw12, hw13⟩ := hw'; go_simp; try with_reducible rfl
          try simp only [Act.put, List.setIfInBounds_toArray, List.set_cons_zero, List.set_cons_succ]
          refine wpAnyH_takeD (some 4) (i := 1) (v := ?_) rfl rfl (by kernel_rfl) (by kernel_rfl) (by kernel_rfl) (fun _ _ _ h => h) (.inl ⟨by kernel_rfl, ?_⟩) s0 ?_
          rotate_left
          · intro w' hw'; obtain ⟨hw1, hw2, hw3, hw4, hw5, hw6, hw7, hw8, hw9, hw10, hw11, hw12, hw13⟩ := hw'; go_simp; try with_reducible rfl
          try simp only [Act.put, List.setIfInBounds_toArray, List.set_cons_zero, List.set_cons_succ]
          refine wpAnyH_takeD (some 5) (i := 2) (v := ?_) rfl rfl (by kernel_rfl) (by kernel_rfl) (by kernel_rfl) (fun _ _ _ h => h) (.inl ⟨by kernel_rfl, ?_⟩) s0 ?_
          rotate_left
          · intro w' hw'; obtain ⟨hw1, hw2, hw3, hw4, hw5, hw6, hw7, hw8, hw9, hw10, hw11, hw12, hw13⟩ := hw'; go_simp; try with_reducible rfl
          try simp only [Act.put, List.setIfInBounds_toArray, List.set_cons_zero, List.set_cons_succ]
          refine wpAnyH_takeD (some 6) (i := 3) (v := ?_) rfl rfl (by kernel_rfl) (by kernel_rfl) (by kernel_rfl) (fun _ _ _ h => h) (.inl ⟨by kernel_rfl, ?_⟩) s0 ?_
          rotate_left
          · intro w' hw'; obtain ⟨hw1, hw2, hw3, hw4, hw5, hw6, hw7, hw8, hw9, hw10, hw11, hw12, hw13⟩ := hw'; go_simp; try with_reducible rfl
          try simp only [Act.put, List.setIfInBounds_toArray, List.set_cons_zero, List.set_cons_succ]
          refine wpAnyH_takeD (some 7) (i := 4) (v := ?_) rfl rfl (by kernel_rfl) (by kernel_rfl) (by kernel_rfl) (fun _ _ _ h => h) (.inl ⟨by kernel_rfl, ?_⟩) s0 ?_
          rotate_left
          · intro w' hw'; obtain ⟨hw1, hw2, hw3, hw4, hw5, hw6, hw7, hw8, hw9, hw10, hw11, hw12, hw13⟩ := hw'; go_simp; try with_reducible rfl
          try simp only [Act.put, List.setIfInBounds_toArray, List.set_cons_zero, List.set_cons_succ]
          refine wpAnyH_takeD (some 8) (i := 5) (v := ?_) rfl rfl (by kernel_rfl) (by kernel_rfl) (by kernel_rfl) (fun _ _ _ h => h) (.inl ⟨by kernel_rfl, ?_⟩) s0 ?_
          rotate_left
          · intro w' hw'; obtain ⟨hw1, hw2, hw3, hw4, hw5, hw6, hw7, hw8, hw9, hw10, hw11, hw12, hw13⟩ := hw'; go_simp; try with_reducible rfl
          try simp only [Act.put, List.setIfInBounds_toArray, List.set_cons_zero, List.set_cons_succ]
          refine wpAnyH_takeD (some 9) (i := 6) (v := ?_) rfl rfl (by kernel_rfl) (by kernel_rfl) (by kernel_rfl) (fun _ _ _ h => h) (.inl ⟨by kernel_rfl, ?_⟩) s0 ?_
          rotate_left
          · intro w' hw'; obtain ⟨hw1, hw2, hw3, hw4, hw5, hw6, hw7, hw8, hw9, hw10, hw11, hw12, hw13⟩ := hw'; go_simp; try with_reducible rfl
          try simp only [Act.put, List.setIfInBounds_toArray, List.set_cons_zero, List.set_cons_succ]
          refine wpAnyH_takeD (some 10) (i := 7) (v := ?_) rfl rfl (by kernel_rfl) (by kernel_rfl) (by kernel_rfl) (fun _ _ _ h => h) (.inl ⟨by kernel_rfl, ?_⟩) s0 ?_
          rotate_left
          · intro w' hw'; obtain ⟨hw1, hw2, hw3, hw4, hw5, hw6, hw7, hw8, hw9, hw10, hw11, hw12, hw13⟩ := hw'; go_simp; try with_reducible rfl
          try simp only [Act.put, List.setIfInBounds_toArray, List.set_cons_zero, List.set_cons_succ]
          refine wpAnyH_all (rs := [8]) (by kernel_rfl) (by simp) ?_
          intro i hi; simp only [List.mem_singleton] at hi; subst hi
          refine wpOp_step rfl (fun K hK => ?_)
          go_simp
          with_reducible refine (HV.out _ s0).mono ?_
          rintro e vs1 ⟨rfl, hvs1⟩
          have s1 := hvs1
          refine hK _ _ ⟨s1, ?_⟩
          try simp only [Act.put, List.setIfInBounds_toArray, List.set_cons_zero, List.set_cons_succ]
          refine wpAnyH_takeD (some 12) (i := 9) (v := ?_) rfl rfl (by kernel_rfl) (by kernel_rfl) (by kernel_rfl) (fun _ _ _ h => h) (.inl ⟨by kernel_rfl, ?_⟩) s1 ?_
          rotate_left
          · intro w' hw'; obtain ⟨hw1, hw2, hw3, hw4, hw5, hw6, hw7, hw8, hw9, hw10, hw11, hw12, hw13⟩ := hw'; go_simp; try with_reducible rfl
          try simp only [Act.put, List.setIfInBounds_toArray, List.set_cons_zero, List.set_cons_succ]
          refine wpAnyH_takeD (some 13) (i := 10) (v := ?_) rfl rfl (by kernel_rfl) (by kernel_rfl) (by kernel_rfl) (fun _ _ _ h => h) (.inl ⟨by kernel_rfl, ?_⟩) s1 ?_
          rotate_left
          · intro w' hw'; obtain ⟨hw1, hw2, hw3, hw4, hw5, hw6, hw7, hw8, hw9, hw10, hw11, hw12, hw13⟩ := hw'; go_simp; try with_reducible rfl
          try simp only [Act.put, List.setIfInBounds_toArray, List.set_cons_zero, List.set_cons_succ]
          refine wpAnyH_takeD (some 14) (i := 11) (v := ?_) rfl rfl (by kernel_rfl) (by kernel_rfl) (by kernel_rfl) (fun _ _ _ h => h) (.inl ⟨by kernel_rfl, ?_⟩) s1 ?_
          rotate_left
          · intro w' hw'; obtain ⟨hw1, hw2, hw3, hw4, hw5, hw6, hw7, hw8, hw9, hw10, hw11, hw12, hw13⟩ := hw'; go_simp; try with_reducible rfl
          try simp only [Act.put, List.setIfInBounds_toArray, List.set_cons_zero, List.set_cons_succ]
          refine wpAnyH_takeD (some 15) (i := 12) (v := ?_) rfl rfl (by kernel_rfl) (by kernel_rfl) (by kernel_rfl) (fun _ _ _ h => h) (.inl ⟨by kernel_rfl, ?_⟩) s1 ?_
          rotate_left
          · intro w' hw'; obtain ⟨hw1, hw2, hw3, hw4, hw5, hw6, hw7, hw8, hw9, hw10, hw11, hw12, hw13⟩ := hw'; go_simp; try with_reducible rfl
          try simp only [Act.put, List.setIfInBounds_toArray, List.set_cons_zero, List.set_cons_succ]
          refine wpAnyH_takeD (some 16) (i := 13) (v := ?_) rfl rfl (by kernel_rfl) (by kernel_rfl) (by kernel_rfl) (fun _ _ _ h => h) (.inl ⟨by kernel_rfl, ?_⟩) s1 ?_
          rotate_left
          · intro w' hw'; obtain ⟨hw1, hw2, hw3, hw4, hw5, hw6, hw7, hw8, hw9, hw10, hw11, hw12, hw13⟩ := hw'; go_simp; try with_reducible rfl
          try simp only [Act.put, List.setIfInBounds_toArray, List.set_cons_zero, List.set_cons_succ]
          refine wpAnyH_takeD (some 17) (i := 14) (v := ?_) rfl rfl (by kernel_rfl) (by kernel_rfl) (by kernel_rfl) (fun _ _ _ h => h) (.inl ⟨by kernel_rfl, ?_⟩) s1 ?_
          rotate_left
          · intro w' hw'; obtain ⟨hw1, hw2, hw3, hw4, hw5, hw6, hw7, hw8, hw9, hw10, hw11, hw12, hw13⟩ := hw'; go_simp; try with_reducible rfl
          try simp only [Act.put, List.setIfInBounds_toArray, List.set_cons_zero, List.set_cons_succ]
          refine wpAnyH_takeD (some 18) (i := 15) (v := ?_) rfl rfl (by kernel_rfl) (by kernel_rfl) (by kernel_rfl) (fun _ _ _ h => h) (.inl ⟨by kernel_rfl, ?_⟩) s1 ?_
          rotate_left
          · intro w' hw'; obtain ⟨hw1, hw2, hw3, hw4, hw5, hw6, hw7, hw8, hw9, hw10, hw11, hw12, hw13⟩ := hw'; go_simp; try with_reducible rfl
          try simp only [Act.put, List.setIfInBounds_toArray, List.set_cons_zero, List.set_cons_succ]
          refine wpAnyH_takeD (some 19) (i := 16) (v := ?_) rfl rfl (by kernel_rfl) (by kernel_rfl) (by kernel_rfl) (fun _ _ _ h => h) (.inl ⟨by kernel_rfl, ?_⟩) s1 ?_
          rotate_left
          · intro w' hw'; obtain ⟨hw1, hw2, hw3, hw4, hw5, hw6, hw7, hw8, hw9, hw10, hw11, hw12, hw13⟩ := hw'; go_simp; try with_reducible rfl
          try simp only [Act.put, List.setIfInBounds_toArray, List.set_cons_zero, List.set_cons_succ]
          refine wpAnyH_takeD (some 20) (i := 17) (v := ?_) rfl rfl (by kernel_rfl) (by kernel_rfl) (by kernel_rfl) (fun _ _ _ h => h) (.inl ⟨by kernel_rfl, ?_⟩) s1 ?_
          rotate_left
          · intro w' hw'; obtain ⟨hw1, hw2, hw3, hw4, hw5, hw6, hw7, hw8, hw9, hw10, hw11, hw12, hw13⟩ := hw'; go_simp; try with_reducible rfl
          try simp only [Act.put, List.setIfInBounds_toArray, List.set_cons_zero, List.set_cons_succ]
          refine wpAnyH_takeD (some 21) (i := 18) (v := ?_) rfl rfl (by kernel_rfl) (by kernel_rfl) (by kernel_rfl) (fun _ _ _ h => h) (.inl ⟨by kernel_rfl, ?_⟩) s1 ?_
          rotate_left
          · intro w' hw'; obtain ⟨hw1, hw2, hw3, hw4, hw5, hw6, hw7, hw8, hw9, hw10, hw11, hw12, hw13⟩ := hw'; go_simp; try with_reducible rfl
          try simp only [Act.put, List.setIfInBounds_toArray, List.set_cons_zero, List.set_cons_succ]
          refine wpAnyH_all (rs := [19]) (by kernel_rfl) (by simp) ?_
          intro i hi; simp only [List.mem_singleton] at hi; subst hi
          refine wpOp_step rfl (fun K hK => ?_)
          go_simp
          with_reducible refine (HZ.out _ s1).mono ?_
          rintro e vs2 ⟨rfl, hvs2⟩
          have s2 := hvs2
          refine hK _ _ ⟨s2, ?_⟩
          try simp only [Act.put, List.setIfInBounds_toArray, List.set_cons_zero, List.set_cons_succ]
          refine wpAnyH_takeD (some 23) (i := 20) (v := ?_) rfl rfl (by kernel_rfl) (by kernel_rfl) (by kernel_rfl) (fun _ _ _ h => h) (.inl ⟨by kernel_rfl, ?_⟩) s2 ?_
          rotate_left
          · intro w' hw'; obtain ⟨hw1, hw2, hw3, hw4, hw5, hw6, hw7, hw8, hw9, hw10, hw11, hw12, hw13⟩ := hw'; go_simp; try with_reducible rfl
          try simp only [Act.put, List.setIfInBounds_toArray, List.set_cons_zero, List.set_cons_succ]
          refine wpAnyH_all (rs := [21]) (by kernel_rfl) (by simp) ?_
          intro i hi; simp only [List.mem_singleton] at hi; subst hi
          refine wpOp_step rfl (fun K hK => ?_)
          go_simp
          with_reducible refine (H1.out _ s2).mono ?_
          rintro e vs3 ⟨rfl, hvs3⟩
          have s3 := hvs3
          refine hK _ _ ⟨s3, ?_⟩
          try simp only [Act.put, List.setIfInBounds_toArray, List.set_cons_zero, List.set_cons_succ]
          refine wpAnyH_takeD (some 25) (i := 22) (v := ?_) rfl rfl (by kernel_rfl) (by kernel_rfl) (by kernel_rfl) (fun _ _ _ h => h) (.inl ⟨by kernel_rfl, ?_⟩) s3 ?_
          rotate_left
          · intro w' hw'; obtain ⟨hw1, hw2, hw3, hw4, hw5, hw6, hw7, hw8, hw9, hw10, hw11, hw12, hw13⟩ := hw'; go_simp; try with_reducible rfl
          try simp only [Act.put, List.setIfInBounds_toArray, List.set_cons_zero, List.set_cons_succ]
          refine wpAnyH_takeD (some 26) (i := 23) (v := ?_) rfl rfl (by kernel_rfl) (by kernel_rfl) (by kernel_rfl) (fun _ _ _ h => h) (.inl ⟨by kernel_rfl, ?_⟩) s3 ?_
          rotate_left
          · intro w' hw'; obtain ⟨hw1, hw2, hw3, hw4, hw5, hw6, hw7, hw8, hw9, hw10, hw11, hw12, hw13⟩ := hw'; go_simp; try with_reducible rfl
          try simp only [Act.put, List.setIfInBounds_toArray, List.set_cons_zero, List.set_cons_succ]
          refine wpAnyH_takeD (some 27) (i := 24) (v := ?_) rfl rfl (by kernel_rfl) (by kernel_rfl) (by kernel_rfl) (fun _ _ _ h => h) (.inl ⟨by kernel_rfl, ?_⟩) s3 ?_
          rotate_left
          · intro w' hw'; obtain ⟨hw1, hw2, hw3, hw4, hw5, hw6, hw7, hw8, hw9, hw10, hw11, hw12, hw13⟩ := hw'; go_simp; try with_reducible rfl
          try simp only [Act.put, List.setIfInBounds_toArray, List.set_cons_zero, List.set_cons_succ]
          refine wpAnyH_takeD (some 28) (i := 25) (v := ?_) rfl rfl (by kernel_rfl) (by kernel_rfl) (by kernel_rfl) (fun _ _ _ h => h) (.inl ⟨by kernel_rfl, ?_⟩) s3 ?_
          rotate_left
          · intro w' hw'; obtain ⟨hw1, hw2, hw3, hw4, hw5, hw6, hw7, hw8, hw9, hw10, hw11, hw12, hw13⟩ := hw'; go_simp; try with_reducible rfl
          try simp only [Act.put, List.setIfInBounds_toArray, List.set_cons_zero, List.set_cons_succ]
          refine wpAnyH_takeD (some 29) (i := 26) (v := ?_) rfl rfl (by kernel_rfl) (by kernel_rfl) (by kernel_rfl) (fun _ _ _ h => h) (.inl ⟨by kernel_rfl, ?_⟩) s3 ?_
          rotate_left
          · intro w' hw'; obtain ⟨hw1, hw2, hw3, hw4, hw5, hw6, hw7, hw8, hw9, hw10, hw11, hw12, hw13⟩ := hw'; go_simp; try with_reducible rfl
          try simp only [Act.put, List.setIfInBounds_toArray, List.set_cons_zero, List.set_cons_succ]
          refine wpAnyH_takeD (some 30) (i := 27) (v := ?_) rfl rfl (by kernel_rfl) (by kernel_rfl) (by kernel_rfl) (fun _ _ _ h => h) (.inl ⟨by kernel_rfl, ?_⟩) s3 ?_
          rotate_left
          · intro w' hw'; obtain ⟨hw1, hw2, hw3, hw4, hw5, hw6, hw7, hw8, hw9, hw10, hw11, hw12, hw13⟩ := hw'; go_simp; try with_reducible rfl
          try simp only [Act.put, List.setIfInBounds_toArray, List.set_cons_zero, List.set_cons_succ]
          refine wpAnyH_takeD (some 31) (i := 28) (v := ?_) rfl rfl (by kernel_rfl) (by kernel_rfl) (by kernel_rfl) (fun _ _ _ h => h) (.inl ⟨by kernel_rfl, ?_⟩) s3 ?_
          rotate_left
          · intro w' hw'; obtain ⟨hw1, hw2, hw3, hw4, hw5, hw6, hw7, hw8, hw9, hw10, hw11, hw12, hw13⟩ := hw'; go_simp; try with_reducible rfl
          try simp only [Act.put, List.setIfInBounds_toArray, List.set_cons_zero, List.set_cons_succ]
          refine wpAnyH_all (rs := [29]) (by kernel_rfl) (by simp) ?_
          intro i hi; simp only [List.mem_singleton] at hi; subst hi
          refine wpOp_step rfl (fun K hK => ?_)
          go_simp
          with_reducible refine (H2.out _ s3).mono ?_
          rintro e vs4 ⟨rfl, hvs4⟩
          have s4 := hvs4
          refine hK _ _ ⟨s4, ?_⟩
          try simp only [Act.put, List.setIfInBounds_toArray, List.set_cons_zero, List.set_cons_succ]
          refine wpAnyH_takeD (some 33) (i := 30) (v := ?_) rfl rfl (by kernel_rfl) (by kernel_rfl) (by kernel_rfl) (fun _ _ _ h => h) (.inl ⟨by kernel_rfl, ?_⟩) s4 ?_
          rotate_left
          · intro w' hw'; obtain ⟨hw1, hw2, hw3, hw4, hw5, hw6, hw7, hw8, hw9, hw10, hw11, hw12, hw13⟩ := hw'; go_simp; try with_reducible rfl
          try simp only [Act.put, List.setIfInBounds_toArray, List.set_cons_zero, List.set_cons_succ]
          refine wpAnyH_takeD (some 34) (i := 31) (v := ?_) rfl rfl (by kernel_rfl) (by kernel_rfl) (by kernel_rfl) (fun _ _ _ h => h) (.inl ⟨by kernel_rfl, ?_⟩) s4 ?_
          rotate_left
          · intro w' hw'; obtain ⟨hw1, hw2, hw3, hw4, hw5, hw6, hw7, hw8, hw9, hw10, hw11, hw12, hw13⟩ := hw'; go_simp; try with_reducible rfl
          try simp only [Act.put, List.setIfInBounds_toArray, List.set_cons_zero, List.set_cons_succ]
          refine wpAnyH_done (by kernel_rfl) ?_ _
          have HS1 := hid (HSD.out _ hvs4)
          clear hvs4
          go_wp2_with fail
          refine wp_region_held (S := (fun w' : World => Below w.heap.size w w' ∧ w'.cell? ⟨g, 0, none⟩ = some (.slice (some ⟨B, 0, none⟩) n cap) ∧ w'.cell? ⟨g, 1, none⟩ = some (.int .u8 d0) ∧ w'.cell? ⟨g, 2, none⟩ = some (.int .u8 d1) ∧ w'.cell? ⟨g, 3, none⟩ = some (.int .u8 d2) ∧ w'.cell? ⟨g, 4, none⟩ = some (.int .u8 d3) ∧ w'.cell? ⟨g, 5, none⟩ = some (.int .u8 d4) ∧ w'.cell? ⟨g, 6, none⟩ = some (.int .u8 d5) ∧ w'.cell? ⟨g, 7, none⟩ = some (.int .u8 d6) ∧ w'.cell? ⟨g, 8, none⟩ = some (.int .u8 d7) ∧ w'.cell? ⟨g, 9, none⟩ = some (.int .i64 pr) ∧ w'.cell? ⟨g, 10, none⟩ = some (.bool false) ∧ w'.cell? ⟨g, 11, none⟩ = some (.int .i64 tk))) (by kernel_rfl) ?_
          change wpAnyH _ _ _ _ _ _ _ _ (World.drew _)
          have t0 : ((fun w' : World => Below w.heap.size w w' ∧ w'.cell? ⟨g, 0, none⟩ = some (.slice (some ⟨B, 0, none⟩) n cap) ∧ w'.cell? ⟨g, 1, none⟩ = some (.int .u8 d0) ∧ w'.cell? ⟨g, 2, none⟩ = some (.int .u8 d1) ∧ w'.cell? ⟨g, 3, none⟩ = some (.int .u8 d2) ∧ w'.cell? ⟨g, 4, none⟩ = some (.int .u8 d3) ∧ w'.cell? ⟨g, 5, none⟩ = some (.int .u8 d4) ∧ w'.cell? ⟨g, 6, none⟩ = some (.int .u8 d5) ∧ w'.cell? ⟨g, 7, none⟩ = some (.int .u8 d6) ∧ w'.cell? ⟨g, 8, none⟩ = some (.int .u8 d7) ∧ w'.cell? ⟨g, 9, none⟩ = some (.int .i64 pr) ∧ w'.cell? ⟨g, 10, none⟩ = some (.bool false) ∧ w'.cell? ⟨g, 11, none⟩ = some (.int .i64 tk))) _ := HS1.out
          refine wpAnyH_takeD (some 35) (i := 0) (v := ?_) rfl rfl (by kernel_rfl) (by kernel_rfl) (by kernel_rfl) (fun _ _ _ h => h) (.inl ⟨by kernel_rfl, ?_⟩) t0 ?_
          rotate_left
          · intro w' hw'; obtain ⟨hw1, hw2, hw3, hw4, hw5, hw6, hw7, hw8, hw9, hw10, hw11, hw12, hw13⟩ := hw'; go_simp; try with_reducible rfl
          try simp only [Act.put, List.setIfInBounds_toArray, List.set_cons_zero, List.set_cons_succ]
          refine wpAnyH_takeD (some 36) (i := 1) (v := ?_) rfl rfl (by kernel_rfl) (by kernel_rfl) (by kernel_rfl) (fun _ _ _ h => h) (.inl ⟨by kernel_rfl, ?_⟩) t0 ?_
          rotate_left
          · intro w' hw'; obtain ⟨hw1, hw2, hw3, hw4, hw5, hw6, hw7, hw8, hw9, hw10, hw11, hw12, hw13⟩ := hw'; go_simp; try with_reducible rfl
          try simp only [Act.put, List.setIfInBounds_toArray, List.set_cons_zero, List.set_cons_succ]
          refine wpAnyH_takeD (some 37) (i := 2) (v := ?_) rfl rfl (by kernel_rfl) (by kernel_rfl) (by kernel_rfl) (fun _ _ _ h => h) (.inl ⟨by kernel_rfl, ?_⟩) t0 ?_
          rotate_left
          · intro w' hw'; obtain ⟨hw1, hw2, hw3, hw4, hw5, hw6, hw7, hw8, hw9, hw10, hw11, hw12, hw13⟩ := hw'; go_simp; try with_reducible rfl
          try simp only [Act.put, List.setIfInBounds_toArray, List.set_cons_zero, List.set_cons_succ]
          refine wpAnyH_takeD (some 38) (i := 3) (v := ?_) rfl rfl (by kernel_rfl) (by kernel_rfl) (by kernel_rfl) (fun _ _ _ h => h) (.inl ⟨by kernel_rfl, ?_⟩) t0 ?_
          rotate_left
          · intro w' hw'; obtain ⟨hw1, hw2, hw3, hw4, hw5, hw6, hw7, hw8, hw9, hw10, hw11, hw12, hw13⟩ := hw'; go_simp; try with_reducible rfl
          try simp only [Act.put, List.setIfInBounds_toArray, List.set_cons_zero, List.set_cons_succ]
          refine wpAnyH_takeD (some 39) (i := 4) (v := ?_) rfl rfl (by kernel_rfl) (by kernel_rfl) (by kernel_rfl) (fun _ _ _ h => h) (.inl ⟨by kernel_rfl, ?_⟩) t0 ?_
          rotate_left
          · intro w' hw'; obtain ⟨hw1, hw2, hw3, hw4, hw5, hw6, hw7, hw8, hw9, hw10, hw11, hw12, hw13⟩ := hw'; go_simp; try with_reducible rfl
          try simp only [Act.put, List.setIfInBounds_toArray, List.set_cons_zero, List.set_cons_succ]
          refine wpAnyH_takeD (some 40) (i := 5) (v := ?_) rfl rfl (by kernel_rfl) (by kernel_rfl) (by kernel_rfl) (fun _ _ _ h => h) (.inl ⟨by kernel_rfl, ?_⟩) t0 ?_
          rotate_left
          · intro w' hw'; obtain ⟨hw1, hw2, hw3, hw4, hw5, hw6, hw7, hw8, hw9, hw10, hw11, hw12, hw13⟩ := hw'; go_simp; try with_reducible rfl
          try simp only [Act.put, List.setIfInBounds_toArray, List.set_cons_zero, List.set_cons_succ]
          refine wpAnyH_takeD (some 41) (i := 6) (v := undef) rfl rfl (by kernel_rfl) (by kernel_rfl) (by kernel_rfl) (fun _ _ _ h => h) (.inr ⟨by kernel_rfl, rfl⟩) t0 ?_
          try simp only [Act.put, List.setIfInBounds_toArray, List.set_cons_zero, List.set_cons_succ]
          refine wpAnyH_takeD (some 42) (i := 7) (v := undef) rfl rfl (by kernel_rfl) (by kernel_rfl) (by kernel_rfl) (fun _ _ _ h => h) (.inr ⟨by kernel_rfl, rfl⟩) t0 ?_
          try simp only [Act.put, List.setIfInBounds_toArray, List.set_cons_zero, List.set_cons_succ]
          refine wpAnyH_takeD (some 43) (i := 8) (v := undef) rfl rfl (by kernel_rfl) (by kernel_rfl) (by kernel_rfl) (fun _ _ _ h => h) (.inr ⟨by kernel_rfl, rfl⟩) t0 ?_
          try simp only [Act.put, List.setIfInBounds_toArray, List.set_cons_zero, List.set_cons_succ]
          refine wpAnyH_takeD (some 44) (i := 9) (v := undef) rfl rfl (by kernel_rfl) (by kernel_rfl) (by kernel_rfl) (fun _ _ _ h => h) (.inr ⟨by kernel_rfl, rfl⟩) t0 ?_
          try simp only [Act.put, List.setIfInBounds_toArray, List.set_cons_zero, List.set_cons_succ]
          refine wpAnyH_takeD (some 45) (i := 10) (v := undef) rfl rfl (by kernel_rfl) (by kernel_rfl) (by kernel_rfl) (fun _ _ _ h => h) (.inr ⟨by kernel_rfl, rfl⟩) t0 ?_
          try simp only [Act.put, List.setIfInBounds_toArray, List.set_cons_zero, List.set_cons_succ]
          refine wpAnyH_takeD (some 46) (i := 11) (v := undef) rfl rfl (by kernel_rfl) (by kernel_rfl) (by kernel_rfl) (fun _ _ _ h => h) (.inr ⟨by kernel_rfl, rfl⟩) t0 ?_
          try simp only [Act.put, List.setIfInBounds_toArray, List.set_cons_zero, List.set_cons_succ]
          refine wpAnyH_takeD (some 47) (i := 12) (v := undef) rfl rfl (by kernel_rfl) (by kernel_rfl) (by kernel_rfl) (fun _ _ _ h => h) (.inr ⟨by kernel_rfl, rfl⟩) t0 ?_
          try simp only [Act.put, List.setIfInBounds_toArray, List.set_cons_zero, List.set_cons_succ]
          refine wpAnyH_takeD (some 48) (i := 13) (v := undef) rfl rfl (by kernel_rfl) (by kernel_rfl) (by kernel_rfl) (fun _ _ _ h => h) (.inr ⟨by kernel_rfl, rfl⟩) t0 ?_
          try simp only [Act.put, List.setIfInBounds_toArray, List.set_cons_zero, List.set_cons_succ]
          refine wpAnyH_takeD (some 49) (i := 14) (v := undef) rfl rfl (by kernel_rfl) (by kernel_rfl) (by kernel_rfl) (fun _ _ _ h => h) (.inr ⟨by kernel_rfl, rfl⟩) t0 ?_
          try simp only [Act.put, List.setIfInBounds_toArray, List.set_cons_zero, List.set_cons_succ]
          refine wpAnyH_takeD (some 50) (i := 15) (v := undef) rfl rfl (by kernel_rfl) (by kernel_rfl) (by kernel_rfl) (fun _ _ _ h => h) (.inr ⟨by kernel_rfl, rfl⟩) t0 ?_
          try simp only [Act.put, List.setIfInBounds_toArray, List.set_cons_zero, List.set_cons_succ]
          refine wpAnyH_takeD (some 51) (i := 16) (v := undef) rfl rfl (by kernel_rfl) (by kernel_rfl) (by kernel_rfl) (fun _ _ _ h => h) (.inr ⟨by kernel_rfl, rfl⟩) t0 ?_
          try simp only [Act.put, List.setIfInBounds_toArray, List.set_cons_zero, List.set_cons_succ]
          refine wpAnyH_takeD (some 52) (i := 17) (v := undef) rfl rfl (by kernel_rfl) (by kernel_rfl) (by kernel_rfl) (fun _ _ _ h => h) (.inr ⟨by kernel_rfl, rfl⟩) t0 ?_
          try simp only [Act.put, List.setIfInBounds_toArray, List.set_cons_zero, List.set_cons_succ]
          refine wpAnyH_takeD (some 53) (i := 18) (v := undef) rfl rfl (by kernel_rfl) (by kernel_rfl) (by kernel_rfl) (fun _ _ _ h => h) (.inr ⟨by kernel_rfl, rfl⟩) t0 ?_
          try simp only [Act.put, List.setIfInBounds_toArray, List.set_cons_zero, List.set_cons_succ]
          refine wpAnyH_takeD (some 54) (i := 19) (v := undef) rfl rfl (by kernel_rfl) (by kernel_rfl) (by kernel_rfl) (fun _ _ _ h => h) (.inr ⟨by kernel_rfl, rfl⟩) t0 ?_
          try simp only [Act.put, List.setIfInBounds_toArray, List.set_cons_zero, List.set_cons_succ]
          refine wpAnyH_takeD (some 55) (i := 20) (v := ?_) rfl rfl (by kernel_rfl) (by kernel_rfl) (by kernel_rfl) (fun _ _ _ h => h) (.inl ⟨by kernel_rfl, ?_⟩) t0 ?_
          rotate_left
          · intro w' hw'; obtain ⟨hw1, hw2, hw3, hw4, hw5, hw6, hw7, hw8, hw9, hw10, hw11, hw12, hw13⟩ := hw'; go_simp; try with_reducible rfl
          try simp only [Act.put, List.setIfInBounds_toArray, List.set_cons_zero, List.set_cons_succ]
          refine wpAnyH_takeD (some 2) (i := 21) (v := ?_) rfl rfl (by kernel_rfl) (by kernel_rfl) (by kernel_rfl) (fun _ _ _ h => h) (.inl ⟨by kernel_rfl, ?_⟩) t0 ?_
          rotate_left
          · intro w' hw'; obtain ⟨hw1, hw2, hw3, hw4, hw5, hw6, hw7, hw8, hw9, hw10, hw11, hw12, hw13⟩ := hw'; go_simp; try with_reducible rfl
          try simp only [Act.put, List.setIfInBounds_toArray, List.set_cons_zero, List.set_cons_succ]
          refine wpAnyH_done (by kernel_rfl) ?_ _
          go_wp2_with fail
          go_ret
          exact ⟨rfl, HS1.out.1⟩
        · go_enter Tryd.func41, Tryd.ntmps41
          go_wp2_with fail
          
          refine wp_region_held (S := (fun w' : World => Below w.heap.size w w' ∧ w'.cell? ⟨g, 0, none⟩ = some (.slice (some ⟨B, 0, none⟩) n cap) ∧ w'.cell? ⟨g, 1, none⟩ = some (.int .u8 d0) ∧ w'.cell? ⟨g, 2, none⟩ = some (.int .u8 d1) ∧ w'.cell? ⟨g, 3, none⟩ = some (.int .u8 d2) ∧ w'.cell? ⟨g, 4, none⟩ = some (.int .u8 d3) ∧ w'.cell? ⟨g, 5, none⟩ = some (.int .u8 d4) ∧ w'.cell? ⟨g, 6, none⟩ = some (.int .u8 d5) ∧ w'.cell? ⟨g, 7, none⟩ = some (.int .u8 d6) ∧ w'.cell? ⟨g, 8, none⟩ = some (.int .u8 d7) ∧ w'.cell? ⟨g, 9, none⟩ = some (.int .i64 pr) ∧ w'.cell? ⟨g, 10, none⟩ = some (.bool true) ∧ w'.cell? ⟨g, 11, none⟩ = some (.int .i64 tk))) (by kernel_rfl) ?_
          change wpAnyH _ _ _ _ _ _ _ _ (World.drew _)
          have s0 : ((fun w' : World => Below w.heap.size w w' ∧ w'.cell? ⟨g, 0, none⟩ = some (.slice (some ⟨B, 0, none⟩) n cap) ∧ w'.cell? ⟨g, 1, none⟩ = some (.int .u8 d0) ∧ w'.cell? ⟨g, 2, none⟩ = some (.int .u8 d1) ∧ w'.cell? ⟨g, 3, none⟩ = some (.int .u8 d2) ∧ w'.cell? ⟨g, 4, none⟩ = some (.int .u8 d3) ∧ w'.cell? ⟨g, 5, none⟩ = some (.int .u8 d4) ∧ w'.cell? ⟨g, 6, none⟩ = some (.int .u8 d5) ∧ w'.cell? ⟨g, 7, none⟩ = some (.int .u8 d6) ∧ w'.cell? ⟨g, 8, none⟩ = some (.int .u8 d7) ∧ w'.cell? ⟨g, 9, none⟩ = some (.int .i64 pr) ∧ w'.cell? ⟨g, 10, none⟩ = some (.bool true) ∧ w'.cell? ⟨g, 11, none⟩ = some (.int .i64 tk))) _ := HS0.out
          refine wpAnyH_takeD (some 3) (i := 0) (v := ?_) rfl rfl (by kernel_rfl) (by kernel_rfl) (by kernel_rfl) (fun _ _ _ h => h) (.inl ⟨by kernel_rfl, ?_⟩) s0 ?_
          rotate_left
          · intro w' hw'; obtain ⟨hw1, hw2, hw3, hw4, hw5, hw6, hw7, hw8, hw9, hw10, hw11, hw12, hw13⟩ := hw'; go_simp; try with_reducible rfl
          try simp only [Act.put, List.setIfInBounds_toArray, List.set_cons_zero, List.set_cons_succ]
          refine wpAnyH_takeD (some 4) (i := 1) (v := ?_) rfl rfl (by kernel_rfl) (by kernel_rfl) (by kernel_rfl) (fun _ _ _ h => h) (.inl ⟨by kernel_rfl, ?_⟩) s0 ?_
          rotate_left
          · intro w' hw'; obtain ⟨hw1, hw2, hw3, hw4, hw5, hw6, hw7, hw8, hw9, hw10, hw11, hw12, hw13⟩ := hw'; go_simp; try with_reducible rfl
          try simp only [Act.put, List.setIfInBounds_toArray, List.set_cons_zero, List.set_cons_succ]
          refine wpAnyH_takeD (some 5) (i := 2) (v := ?_) rfl rfl (by kernel_rfl) (by kernel_rfl) (by kernel_rfl) (fun _ _ _ h => h) (.inl ⟨by kernel_rfl, ?_⟩) s0 ?_
          rotate_left
          · intro w' hw'; obtain ⟨hw1, hw2, hw3, hw4, hw5, hw6, hw7, hw8, hw9, hw10, hw11, hw12, hw13⟩ := hw'; go_simp; try with_reducible rfl
          try simp only [Act.put, List.setIfInBounds_toArray, List.set_cons_zero, List.set_cons_succ]
          refine wpAnyH_takeD (some 6) (i := 3) (v := ?_) rfl rfl (by kernel_rfl) (by kernel_rfl) (by kernel_rfl) (fun _ _ _ h => h) (.inl ⟨by kernel_rfl, ?_⟩) s0 ?_
          rotate_left
          · intro w' hw'; obtain ⟨hw1, hw2, hw3, hw4, hw5, hw6, hw7, hw8, hw9, hw10, hw11, hw12, hw13⟩ := hw'; go_simp; try with_reducible rfl
          try simp only [Act.put, List.setIfInBounds_toArray, List.set_cons_zero, List.set_cons_succ]
          refine wpAnyH_takeD (some 7) (i := 4) (v := ?_) rfl rfl (by kernel_rfl) (by kernel_rfl) (by kernel_rfl) (fun _ _ _ h => h) (.inl ⟨by kernel_rfl, ?_⟩) s0 ?_
          rotate_left
          · intro w' hw'; obtain ⟨hw1, hw2, hw3, hw4, hw5, hw6, hw7, hw8, hw9, hw10, hw11, hw12, hw13⟩ := hw'; go_simp; try with_reducible rfl
          try simp only [Act.put, List.setIfInBounds_toArray, List.set_cons_zero, List.set_cons_succ]
          refine wpAnyH_takeD (some 8) (i := 5) (v := ?_) rfl rfl (by kernel_rfl) (by kernel_rfl) (by kernel_rfl) (fun _ _ _ h => h) (.inl ⟨by kernel_rfl, ?_⟩) s0 ?_
          rotate_left
          · intro w' hw'; obtain ⟨hw1, hw2, hw3, hw4, hw5, hw6, hw7, hw8, hw9, hw10, hw11, hw12, hw13⟩ := hw'; go_simp; try with_reducible rfl
          try simp only [Act.put, List.setIfInBounds_toArray, List.set_cons_zero, List.set_cons_succ]
          refine wpAnyH_takeD (some 9) (i := 6) (v := ?_) rfl rfl (by kernel_rfl) (by kernel_rfl) (by kernel_rfl) (fun _ _ _ h => h) (.inl ⟨by kernel_rfl, ?_⟩) s0 ?_
          rotate_left
          · intro w' hw'; obtain ⟨hw1, hw2, hw3, hw4, hw5, hw6, hw7, hw8, hw9, hw10, hw11, hw12, hw13⟩ := hw'; go_simp; try with_reducible rfl
          try simp only [Act.put, List.setIfInBounds_toArray, List.set_cons_zero, List.set_cons_succ]
          refine wpAnyH_takeD (some 10) (i := 7) (v := ?_) rfl rfl (by kernel_rfl) (by kernel_rfl) (by kernel_rfl) (fun _ _ _ h => h) (.inl ⟨by kernel_rfl, ?_⟩) s0 ?_
          rotate_left
          · intro w' hw'; obtain ⟨hw1, hw2, hw3, hw4, hw5, hw6, hw7, hw8, hw9, hw10, hw11, hw12, hw13⟩ := hw'; go_simp; try with_reducible rfl
          try simp only [Act.put, List.setIfInBounds_toArray, List.set_cons_zero, List.set_cons_succ]
          refine wpAnyH_all (rs := [8]) (by kernel_rfl) (by simp) ?_
          intro i hi; simp only [List.mem_singleton] at hi; subst hi
          refine wpOp_step rfl (fun K hK => ?_)
          go_simp
          with_reducible refine (HV.out _ s0).mono ?_
          rintro e vs1 ⟨rfl, hvs1⟩
          have s1 := hvs1
          refine hK _ _ ⟨s1, ?_⟩
          try simp only [Act.put, List.setIfInBounds_toArray, List.set_cons_zero, List.set_cons_succ]
          refine wpAnyH_takeD (some 12) (i := 9) (v := ?_) rfl rfl (by kernel_rfl) (by kernel_rfl) (by kernel_rfl) (fun _ _ _ h => h) (.inl ⟨by kernel_rfl, ?_⟩) s1 ?_
          rotate_left
          · intro w' hw'; obtain ⟨hw1, hw2, hw3, hw4, hw5, hw6, hw7, hw8, hw9, hw10, hw11, hw12, hw13⟩ := hw'; go_simp; try with_reducible rfl
          try simp only [Act.put, List.setIfInBounds_toArray, List.set_cons_zero, List.set_cons_succ]
          refine wpAnyH_takeD (some 13) (i := 10) (v := ?_) rfl rfl (by kernel_rfl) (by kernel_rfl) (by kernel_rfl) (fun _ _ _ h => h) (.inl ⟨by kernel_rfl, ?_⟩) s1 ?_
          rotate_left
          · intro w' hw'; obtain ⟨hw1, hw2, hw3, hw4, hw5, hw6, hw7, hw8, hw9, hw10, hw11, hw12, hw13⟩ := hw'; go_simp; try with_reducible rfl
          try simp only [Act.put, List.setIfInBounds_toArray, List.set_cons_zero, List.set_cons_succ]
          refine wpAnyH_takeD (some 14) (i := 11) (v := ?_) rfl rfl (by kernel_rfl) (by kernel_rfl) (by kernel_rfl) (fun _ _ _ h => h) (.inl ⟨by kernel_rfl, ?_⟩) s1 ?_
          rotate_left
          · intro w' hw'; obtain ⟨hw1, hw2, hw3, hw4, hw5, hw6, hw7, hw8, hw9, hw10, hw11, hw12, hw13⟩ := hw'; go_simp; try with_reducible rfl
          try simp only [Act.put, List.setIfInBounds_toArray, List.set_cons_zero, List.set_cons_succ]
          refine wpAnyH_takeD (some 15) (i := 12) (v := ?_) rfl rfl (by kernel_rfl) (by kernel_rfl) (by kernel_rfl) (fun _ _ _ h => h) (.inl ⟨by kernel_rfl, ?_⟩) s1 ?_
          rotate_left
          · intro w' hw'; obtain ⟨hw1, hw2, hw3, hw4, hw5, hw6, hw7, hw8, hw9, hw10, hw11, hw12, hw13⟩ := hw'; go_simp; try with_reducible rfl
          try simp only [Act.put, List.setIfInBounds_toArray, List.set_cons_zero, List.set_cons_succ]
          refine wpAnyH_takeD (some 16) (i := 13) (v := ?_) rfl rfl (by kernel_rfl) (by kernel_rfl) (by kernel_rfl) (fun _ _ _ h => h) (.inl ⟨by kernel_rfl, ?_⟩) s1 ?_
          rotate_left
          · intro w' hw'; obtain ⟨hw1, hw2, hw3, hw4, hw5, hw6, hw7, hw8, hw9, hw10, hw11, hw12, hw13⟩ := hw'; go_simp; try with_reducible rfl
          try simp only [Act.put, List.setIfInBounds_toArray, List.set_cons_zero, List.set_cons_succ]
          refine wpAnyH_takeD (some 17) (i := 14) (v := ?_) rfl rfl (by kernel_rfl) (by kernel_rfl) (by kernel_rfl) (fun _ _ _ h => h) (.inl ⟨by kernel_rfl, ?_⟩) s1 ?_
          rotate_left
          · intro w' hw'; obtain ⟨hw1, hw2, hw3, hw4, hw5, hw6, hw7, hw8, hw9, hw10, hw11, hw12, hw13⟩ := hw'; go_simp; try with_reducible rfl
          try simp only [Act.put, List.setIfInBounds_toArray, List.set_cons_zero, List.set_cons_succ]
          refine wpAnyH_takeD (some 18) (i := 15) (v := ?_) rfl rfl (by kernel_rfl) (by kernel_rfl) (by kernel_rfl) (fun _ _ _ h => h) (.inl ⟨by kernel_rfl, ?_⟩) s1 ?_
          rotate_left
          · intro w' hw'; obtain ⟨hw1, hw2, hw3, hw4, hw5, hw6, hw7, hw8, hw9, hw10, hw11, hw12, hw13⟩ := hw'; go_simp; try with_reducible rfl
          try simp only [Act.put, List.setIfInBounds_toArray, List.set_cons_zero, List.set_cons_succ]
          refine wpAnyH_takeD (some 19) (i := 16) (v := ?_) rfl rfl (by kernel_rfl) (by kernel_rfl) (by kernel_rfl) (fun _ _ _ h => h) (.inl ⟨by kernel_rfl, ?_⟩) s1 ?_
          rotate_left
          · intro w' hw'; obtain ⟨hw1, hw2, hw3, hw4, hw5, hw6, hw7, hw8, hw9, hw10, hw11, hw12, hw13⟩ := hw'; go_simp; try with_reducible rfl
          try simp only [Act.put, List.setIfInBounds_toArray, List.set_cons_zero, List.set_cons_succ]
          refine wpAnyH_takeD (some 20) (i := 17) (v := ?_) rfl rfl (by kernel_rfl) (by kernel_rfl) (by kernel_rfl) (fun _ _ _ h => h) (.inl ⟨by kernel_rfl, ?_⟩) s1 ?_
          rotate_left
          · intro w' hw'; obtain ⟨hw1, hw2, hw3, hw4, hw5, hw6, hw7, hw8, hw9, hw10, hw11, hw12, hw13⟩ := hw'; go_simp; try with_reducible rfl
          try simp only [Act.put, List.setIfInBounds_toArray, List.set_cons_zero, List.set_cons_succ]
          refine wpAnyH_takeD (some 21) (i := 18) (v := ?_) rfl rfl (by kernel_rfl) (by kernel_rfl) (by kernel_rfl) (fun _ _ _ h => h) (.inl ⟨by kernel_rfl, ?_⟩) s1 ?_
          rotate_left
          · intro w' hw'; obtain ⟨hw1, hw2, hw3, hw4, hw5, hw6, hw7, hw8, hw9, hw10, hw11, hw12, hw13⟩ := hw'; go_simp; try with_reducible rfl
          try simp only [Act.put, List.setIfInBounds_toArray, List.set_cons_zero, List.set_cons_succ]
          refine wpAnyH_all (rs := [19]) (by kernel_rfl) (by simp) ?_
          intro i hi; simp only [List.mem_singleton] at hi; subst hi
          refine wpOp_step rfl (fun K hK => ?_)
          go_simp
          with_reducible refine (HZ.out _ s1).mono ?_
          rintro e vs2 ⟨rfl, hvs2⟩
          have s2 := hvs2
          refine hK _ _ ⟨s2, ?_⟩
          try simp only [Act.put, List.setIfInBounds_toArray, List.set_cons_zero, List.set_cons_succ]
          refine wpAnyH_takeD (some 23) (i := 20) (v := ?_) rfl rfl (by kernel_rfl) (by kernel_rfl) (by kernel_rfl) (fun _ _ _ h => h) (.inl ⟨by kernel_rfl, ?_⟩) s2 ?_
          rotate_left
          · intro w' hw'; obtain ⟨hw1, hw2, hw3, hw4, hw5, hw6, hw7, hw8, hw9, hw10, hw11, hw12, hw13⟩ := hw'; go_simp; try with_reducible rfl
          try simp only [Act.put, List.setIfInBounds_toArray, List.set_cons_zero, List.set_cons_succ]
          refine wpAnyH_all (rs := [21]) (by kernel_rfl) (by simp) ?_
          intro i hi; simp only [List.mem_singleton] at hi; subst hi
          refine wpOp_step rfl (fun K hK => ?_)
          go_simp
          with_reducible refine (H1.out _ s2).mono ?_
          rintro e vs3 ⟨rfl, hvs3⟩
          have s3 := hvs3
          refine hK _ _ ⟨s3, ?_⟩
          try simp only [Act.put, List.setIfInBounds_toArray, List.set_cons_zero, List.set_cons_succ]
          refine wpAnyH_takeD (some 25) (i := 22) (v := ?_) rfl rfl (by kernel_rfl) (by kernel_rfl) (by kernel_rfl) (fun _ _ _ h => h) (.inl ⟨by kernel_rfl, ?_⟩) s3 ?_
          rotate_left
          · intro w' hw'; obtain ⟨hw1, hw2, hw3, hw4, hw5, hw6, hw7, hw8, hw9, hw10, hw11, hw12, hw13⟩ := hw'; go_simp; try with_reducible rfl
          try simp only [Act.put, List.setIfInBounds_toArray, List.set_cons_zero, List.set_cons_succ]
          refine wpAnyH_takeD (some 26) (i := 23) (v := ?_) rfl rfl (by kernel_rfl) (by kernel_rfl) (by kernel_rfl) (fun _ _ _ h => h) (.inl ⟨by kernel_rfl, ?_⟩) s3 ?_
          rotate_left
          · intro w' hw'; obtain ⟨hw1, hw2, hw3, hw4, hw5, hw6, hw7, hw8, hw9, hw10, hw11, hw12, hw13⟩ := hw'; go_simp; try with_reducible rfl
          try simp only [Act.put, List.setIfInBounds_toArray, List.set_cons_zero, List.set_cons_succ]
          refine wpAnyH_takeD (some 27) (i := 24) (v := ?_) rfl rfl (by kernel_rfl) (by kernel_rfl) (by kernel_rfl) (fun _ _ _ h => h) (.inl ⟨by kernel_rfl, ?_⟩) s3 ?_
          rotate_left
          · intro w' hw'; obtain ⟨hw1, hw2, hw3, hw4, hw5, hw6, hw7, hw8, hw9, hw10, hw11, hw12, hw13⟩ := hw'; go_simp; try with_reducible rfl
          try simp only [Act.put, List.setIfInBounds_toArray, List.set_cons_zero, List.set_cons_succ]
          refine wpAnyH_takeD (some 28) (i := 25) (v := ?_) rfl rfl (by kernel_rfl) (by kernel_rfl) (by kernel_rfl) (fun _ _ _ h => h) (.inl ⟨by kernel_rfl, ?_⟩) s3 ?_
          rotate_left
          · intro w' hw'; obtain ⟨hw1, hw2, hw3, hw4, hw5, hw6, hw7, hw8, hw9, hw10, hw11, hw12, hw13⟩ := hw'; go_simp; try with_reducible rfl
          try simp only [Act.put, List.setIfInBounds_toArray, List.set_cons_zero, List.set_cons_succ]
          refine wpAnyH_takeD (some 29) (i := 26) (v := ?_) rfl rfl (by kernel_rfl) (by kernel_rfl) (by kernel_rfl) (fun _ _ _ h => h) (.inl ⟨by kernel_rfl, ?_⟩) s3 ?_
          rotate_left
          · intro w' hw'; obtain ⟨hw1, hw2, hw3, hw4, hw5, hw6, hw7, hw8, hw9, hw10, hw11, hw12, hw13⟩ := hw'; go_simp; try with_reducible rfl
          try simp only [Act.put, List.setIfInBounds_toArray, List.set_cons_zero, List.set_cons_succ]
          refine wpAnyH_takeD (some 30) (i := 27) (v := ?_) rfl rfl (by kernel_rfl) (by kernel_rfl) (by kernel_rfl) (fun _ _ _ h => h) (.inl ⟨by kernel_rfl, ?_⟩) s3 ?_
          rotate_left
          · intro w' hw'; obtain ⟨hw1, hw2, hw3, hw4, hw5, hw6, hw7, hw8, hw9, hw10, hw11, hw12, hw13⟩ := hw'; go_simp; try with_reducible rfl
          try simp only [Act.put, List.setIfInBounds_toArray, List.set_cons_zero, List.set_cons_succ]
          refine wpAnyH_takeD (some 31) (i := 28) (v := ?_) rfl rfl (by kernel_rfl) (by kernel_rfl) (by kernel_rfl) (fun _ _ _ h => h) (.inl ⟨by kernel_rfl, ?_⟩) s3 ?_
          rotate_left
          · intro w' hw'; obtain ⟨hw1, hw2, hw3, hw4, hw5, hw6, hw7, hw8, hw9, hw10, hw11, hw12, hw13⟩ := hw'; go_simp; try with_reducible rfl
          try simp only [Act.put, List.setIfInBounds_toArray, List.set_cons_zero, List.set_cons_succ]
          refine wpAnyH_all (rs := [29]) (by kernel_rfl) (by simp) ?_
          intro i hi; simp only [List.mem_singleton] at hi; subst hi
          refine wpOp_step rfl (fun K hK => ?_)
          go_simp
          with_reducible refine (H2.out _ s3).mono ?_
          rintro e vs4 ⟨rfl, hvs4⟩
          have s4 := hvs4
          refine hK _ _ ⟨s4, ?_⟩
          try simp only [Act.put, List.setIfInBounds_toArray, List.set_cons_zero, List.set_cons_succ]
          refine wpAnyH_takeD (some 33) (i := 30) (v := ?_) rfl rfl (by kernel_rfl) (by kernel_rfl) (by kernel_rfl) (fun _ _ _ h => h) (.inl ⟨by kernel_rfl, ?_⟩) s4 ?_
          rotate_left
          · intro w' hw'; obtain ⟨hw1, hw2, hw3, hw4, hw5, hw6, hw7, hw8, hw9, hw10, hw11, hw12, hw13⟩ := hw'; go_simp; try with_reducible rfl
          try simp only [Act.put, List.setIfInBounds_toArray, List.set_cons_zero, List.set_cons_succ]
          refine wpAnyH_takeD (some 34) (i := 31) (v := ?_) rfl rfl (by kernel_rfl) (by kernel_rfl) (by kernel_rfl) (fun _ _ _ h => h) (.inl ⟨by kernel_rfl, ?_⟩) s4 ?_
          rotate_left
          · intro w' hw'; obtain ⟨hw1, hw2, hw3, hw4, hw5, hw6, hw7, hw8, hw9, hw10, hw11, hw12, hw13⟩ := hw'; go_simp; try with_reducible rfl
          try simp only [Act.put, List.setIfInBounds_toArray, List.set_cons_zero, List.set_cons_succ]
          refine wpAnyH_done (by kernel_rfl) ?_ _
          have HS1 := hid (HSD.out _ hvs4)
          clear hvs4
          go_wp2_with fail
          refine wp_region_held (S := (fun w' : World => Below w.heap.size w w' ∧ w'.cell? ⟨g, 0, none⟩ = some (.slice (some ⟨B, 0, none⟩) n cap) ∧ w'.cell? ⟨g, 1, none⟩ = some (.int .u8 d0) ∧ w'.cell? ⟨g, 2, none⟩ = some (.int .u8 d1) ∧ w'.cell? ⟨g, 3, none⟩ = some (.int .u8 d2) ∧ w'.cell? ⟨g, 4, none⟩ = some (.int .u8 d3) ∧ w'.cell? ⟨g, 5, none⟩ = some (.int .u8 d4) ∧ w'.cell? ⟨g, 6, none⟩ = some (.int .u8 d5) ∧ w'.cell? ⟨g, 7, none⟩ = some (.int .u8 d6) ∧ w'.cell? ⟨g, 8, none⟩ = some (.int .u8 d7) ∧ w'.cell? ⟨g, 9, none⟩ = some (.int .i64 pr) ∧ w'.cell? ⟨g, 10, none⟩ = some (.bool true) ∧ w'.cell? ⟨g, 11, none⟩ = some (.int .i64 tk))) (by kernel_rfl) ?_
          change wpAnyH _ _ _ _ _ _ _ _ (World.drew _)
          have t0 : ((fun w' : World => Below w.heap.size w w' ∧ w'.cell? ⟨g, 0, none⟩ = some (.slice (some ⟨B, 0, none⟩) n cap) ∧ w'.cell? ⟨g, 1, none⟩ = some (.int .u8 d0) ∧ w'.cell? ⟨g, 2, none⟩ = some (.int .u8 d1) ∧ w'.cell? ⟨g, 3, none⟩ = some (.int .u8 d2) ∧ w'.cell? ⟨g, 4, none⟩ = some (.int .u8 d3) ∧ w'.cell? ⟨g, 5, none⟩ = some (.int .u8 d4) ∧ w'.cell? ⟨g, 6, none⟩ = some (.int .u8 d5) ∧ w'.cell? ⟨g, 7, none⟩ = some (.int .u8 d6) ∧ w'.cell? ⟨g, 8, none⟩ = some (.int .u8 d7) ∧ w'.cell? ⟨g, 9, none⟩ = some (.int .i64 pr) ∧ w'.cell? ⟨g, 10, none⟩ = some (.bool true) ∧ w'.cell? ⟨g, 11, none⟩ = some (.int .i64 tk))) _ := HS1.out
          refine wpAnyH_takeD (some 35) (i := 0) (v := ?_) rfl rfl (by kernel_rfl) (by kernel_rfl) (by kernel_rfl) (fun _ _ _ h => h) (.inl ⟨by kernel_rfl, ?_⟩) t0 ?_
          rotate_left
          · intro w' hw'; obtain ⟨hw1, hw2, hw3, hw4, hw5, hw6, hw7, hw8, hw9, hw10, hw11, hw12, hw13⟩ := hw'; go_simp; try with_reducible rfl
          try simp only [Act.put, List.setIfInBounds_toArray, List.set_cons_zero, List.set_cons_succ]
          refine wpAnyH_takeD (some 36) (i := 1) (v := ?_) rfl rfl (by kernel_rfl) (by kernel_rfl) (by kernel_rfl) (fun _ _ _ h => h) (.inl ⟨by kernel_rfl, ?_⟩) t0 ?_
          rotate_left
          · intro w' hw'; obtain ⟨hw1, hw2, hw3, hw4, hw5, hw6, hw7, hw8, hw9, hw10, hw11, hw12, hw13⟩ := hw'; go_simp; try with_reducible rfl
          try simp only [Act.put, List.setIfInBounds_toArray, List.set_cons_zero, List.set_cons_succ]
          refine wpAnyH_takeD (some 37) (i := 2) (v := ?_) rfl rfl (by kernel_rfl) (by kernel_rfl) (by kernel_rfl) (fun _ _ _ h => h) (.inl ⟨by kernel_rfl, ?_⟩) t0 ?_
          rotate_left
          · intro w' hw'; obtain ⟨hw1, hw2, hw3, hw4, hw5, hw6, hw7, hw8, hw9, hw10, hw11, hw12, hw13⟩ := hw'; go_simp; try with_reducible rfl
          try simp only [Act.put, List.setIfInBounds_toArray, List.set_cons_zero, List.set_cons_succ]
          refine wpAnyH_takeD (some 38) (i := 3) (v := ?_) rfl rfl (by kernel_rfl) (by kernel_rfl) (by kernel_rfl) (fun _ _ _ h => h) (.inl ⟨by kernel_rfl, ?_⟩) t0 ?_
          rotate_left
          · intro w' hw'; obtain ⟨hw1, hw2, hw3, hw4, hw5, hw6, hw7, hw8, hw9, hw10, hw11, hw12, hw13⟩ := hw'; go_simp; try with_reducible rfl
          try simp only [Act.put, List.setIfInBounds_toArray, List.set_cons_zero, List.set_cons_succ]
          refine wpAnyH_takeD (some 39) (i := 4) (v := ?_) rfl rfl (by kernel_rfl) (by kernel_rfl) (by kernel_rfl) (fun _ _ _ h => h) (.inl ⟨by kernel_rfl, ?_⟩) t0 ?_
          rotate_left
          · intro w' hw'; obtain ⟨hw1, hw2, hw3, hw4, hw5, hw6, hw7, hw8, hw9, hw10, hw11, hw12, hw13⟩ := hw'; go_simp; try with_reducible rfl
          try simp only [Act.put, List.setIfInBounds_toArray, List.set_cons_zero, List.set_cons_succ]
          refine wpAnyH_takeD (some 40) (i := 5) (v := ?_) rfl rfl (by kernel_rfl) (by kernel_rfl) (by kernel_rfl) (fun _ _ _ h => h) (.inl ⟨by kernel_rfl, ?_⟩) t0 ?_
          rotate_left
          · intro w' hw'; obtain ⟨hw1, hw2, hw3, hw4, hw5, hw6, hw7, hw8, hw9, hw10, hw11, hw12, hw13⟩ := hw'; go_simp; try with_reducible rfl
          try simp only [Act.put, List.setIfInBounds_toArray, List.set_cons_zero, List.set_cons_succ]
          refine wpAnyH_takeD (some 41) (i := 6) (v := ?_) rfl rfl (by kernel_rfl) (by kernel_rfl) (by kernel_rfl) (fun _ _ _ h => h) (.inl ⟨by kernel_rfl, ?_⟩) t0 ?_
          rotate_left
          · intro w' hw'; obtain ⟨hw1, hw2, hw3, hw4, hw5, hw6, hw7, hw8, hw9, hw10, hw11, hw12, hw13⟩ := hw'; go_simp; try with_reducible rfl
          try simp only [Act.put, List.setIfInBounds_toArray, List.set_cons_zero, List.set_cons_succ]
          refine wpAnyH_takeD (some 42) (i := 7) (v := ?_) rfl rfl (by kernel_rfl) (by kernel_rfl) (by kernel_rfl) (fun _ _ _ h => h) (.inl ⟨by kernel_rfl, ?_⟩) t0 ?_
          rotate_left
          · intro w' hw'; obtain ⟨hw1, hw2, hw3, hw4, hw5, hw6, hw7, hw8, hw9, hw10, hw11, hw12, hw13⟩ := hw'; go_simp; try with_reducible rfl
          try simp only [Act.put, List.setIfInBounds_toArray, List.set_cons_zero, List.set_cons_succ]
          refine wpAnyH_takeD (some 43) (i := 8) (v := ?_) rfl rfl (by kernel_rfl) (by kernel_rfl) (by kernel_rfl) (fun _ _ _ h => h) (.inl ⟨by kernel_rfl, ?_⟩) t0 ?_
          rotate_left
          · intro w' hw'; obtain ⟨hw1, hw2, hw3, hw4, hw5, hw6, hw7, hw8, hw9, hw10, hw11, hw12, hw13⟩ := hw'; go_simp; try with_reducible rfl
          try simp only [Act.put, List.setIfInBounds_toArray, List.set_cons_zero, List.set_cons_succ]
          refine wpAnyH_takeD (some 44) (i := 9) (v := ?_) rfl rfl (by kernel_rfl) (by kernel_rfl) (by kernel_rfl) (fun _ _ _ h => h) (.inl ⟨by kernel_rfl, ?_⟩) t0 ?_
          rotate_left
          · intro w' hw'; obtain ⟨hw1, hw2, hw3, hw4, hw5, hw6, hw7, hw8, hw9, hw10, hw11, hw12, hw13⟩ := hw'; go_simp; try with_reducible rfl
          try simp only [Act.put, List.setIfInBounds_toArray, List.set_cons_zero, List.set_cons_succ]
          refine wpAnyH_takeD (some 45) (i := 10) (v := ?_) rfl rfl (by kernel_rfl) (by kernel_rfl) (by kernel_rfl) (fun _ _ _ h => h) (.inl ⟨by kernel_rfl, ?_⟩) t0 ?_
          rotate_left
          · intro w' hw'; obtain ⟨hw1, hw2, hw3, hw4, hw5, hw6, hw7, hw8, hw9, hw10, hw11, hw12, hw13⟩ := hw'; go_simp; try with_reducible rfl
          try simp only [Act.put, List.setIfInBounds_toArray, List.set_cons_zero, List.set_cons_succ]
          refine wpAnyH_takeD (some 46) (i := 11) (v := ?_) rfl rfl (by kernel_rfl) (by kernel_rfl) (by kernel_rfl) (fun _ _ _ h => h) (.inl ⟨by kernel_rfl, ?_⟩) t0 ?_
          rotate_left
          · intro w' hw'; obtain ⟨hw1, hw2, hw3, hw4, hw5, hw6, hw7, hw8, hw9, hw10, hw11, hw12, hw13⟩ := hw'; go_simp; try with_reducible rfl
          try simp only [Act.put, List.setIfInBounds_toArray, List.set_cons_zero, List.set_cons_succ]
          refine wpAnyH_takeD (some 47) (i := 12) (v := ?_) rfl rfl (by kernel_rfl) (by kernel_rfl) (by kernel_rfl) (fun _ _ _ h => h) (.inl ⟨by kernel_rfl, ?_⟩) t0 ?_
          rotate_left
          · intro w' hw'; obtain ⟨hw1, hw2, hw3, hw4, hw5, hw6, hw7, hw8, hw9, hw10, hw11, hw12, hw13⟩ := hw'; go_simp; try with_reducible rfl
          try simp only [Act.put, List.setIfInBounds_toArray, List.set_cons_zero, List.set_cons_succ]
          refine wpAnyH_takeD (some 48) (i := 13) (v := ?_) rfl rfl (by kernel_rfl) (by kernel_rfl) (by kernel_rfl) (fun _ _ _ h => h) (.inl ⟨by kernel_rfl, ?_⟩) t0 ?_
          rotate_left
          · intro w' hw'; obtain ⟨hw1, hw2, hw3, hw4, hw5, hw6, hw7, hw8, hw9, hw10, hw11, hw12, hw13⟩ := hw'; go_simp; try with_reducible rfl
          try simp only [Act.put, List.setIfInBounds_toArray, List.set_cons_zero, List.set_cons_succ]
          refine wpAnyH_takeD (some 49) (i := 14) (v := ?_) rfl rfl (by kernel_rfl) (by kernel_rfl) (by kernel_rfl) (fun _ _ _ h => h) (.inl ⟨by kernel_rfl, ?_⟩) t0 ?_
          rotate_left
          · intro w' hw'; obtain ⟨hw1, hw2, hw3, hw4, hw5, hw6, hw7, hw8, hw9, hw10, hw11, hw12, hw13⟩ := hw'; go_simp; try with_reducible rfl
          try simp only [Act.put, List.setIfInBounds_toArray, List.set_cons_zero, List.set_cons_succ]
          refine wpAnyH_takeD (some 50) (i := 15) (v := ?_) rfl rfl (by kernel_rfl) (by kernel_rfl) (by kernel_rfl) (fun _ _ _ h => h) (.inl ⟨by kernel_rfl, ?_⟩) t0 ?_
          rotate_left
          · intro w' hw'; obtain ⟨hw1, hw2, hw3, hw4, hw5, hw6, hw7, hw8, hw9, hw10, hw11, hw12, hw13⟩ := hw'; go_simp; try with_reducible rfl
          try simp only [Act.put, List.setIfInBounds_toArray, List.set_cons_zero, List.set_cons_succ]
          refine wpAnyH_takeD (some 51) (i := 16) (v := ?_) rfl rfl (by kernel_rfl) (by kernel_rfl) (by kernel_rfl) (fun _ _ _ h => h) (.inl ⟨by kernel_rfl, ?_⟩) t0 ?_
          rotate_left
          · intro w' hw'; obtain ⟨hw1, hw2, hw3, hw4, hw5, hw6, hw7, hw8, hw9, hw10, hw11, hw12, hw13⟩ := hw'; go_simp; try with_reducible rfl
          try simp only [Act.put, List.setIfInBounds_toArray, List.set_cons_zero, List.set_cons_succ]
          refine wpAnyH_takeD (some 52) (i := 17) (v := ?_) rfl rfl (by kernel_rfl) (by kernel_rfl) (by kernel_rfl) (fun _ _ _ h => h) (.inl ⟨by kernel_rfl, ?_⟩) t0 ?_
          rotate_left
          · intro w' hw'; obtain ⟨hw1, hw2, hw3, hw4, hw5, hw6, hw7, hw8, hw9, hw10, hw11, hw12, hw13⟩ := hw'; go_simp; try with_reducible rfl
          try simp only [Act.put, List.setIfInBounds_toArray, List.set_cons_zero, List.set_cons_succ]
          refine wpAnyH_all (rs := [18]) (by kernel_rfl) (by simp) ?_
          intro i hi; simp only [List.mem_singleton] at hi; subst hi
          refine wpOp_step rfl (fun K hK => ?_)
          go_simp
          with_reducible refine (HL.out _ t0).mono ?_
          rintro e vt1 ⟨rfl, hvt1⟩
          have t1 := hvt1
          refine hK _ _ ⟨t1, ?_⟩
          try simp only [Act.put, List.setIfInBounds_toArray, List.set_cons_zero, List.set_cons_succ]
          refine wpAnyH_takeD (some 54) (i := 19) (v := ?_) rfl rfl (by kernel_rfl) (by kernel_rfl) (by kernel_rfl) (fun _ _ _ h => h) (.inl ⟨by kernel_rfl, ?_⟩) t1 ?_
          rotate_left
          · intro w' hw'; obtain ⟨hw1, hw2, hw3, hw4, hw5, hw6, hw7, hw8, hw9, hw10, hw11, hw12, hw13⟩ := hw'; go_simp; try with_reducible rfl
          try simp only [Act.put, List.setIfInBounds_toArray, List.set_cons_zero, List.set_cons_succ]
          refine wpAnyH_takeD (some 55) (i := 20) (v := ?_) rfl rfl (by kernel_rfl) (by kernel_rfl) (by kernel_rfl) (fun _ _ _ h => h) (.inl ⟨by kernel_rfl, ?_⟩) t1 ?_
          rotate_left
          · intro w' hw'; obtain ⟨hw1, hw2, hw3, hw4, hw5, hw6, hw7, hw8, hw9, hw10, hw11, hw12, hw13⟩ := hw'; go_simp; try with_reducible rfl
          try simp only [Act.put, List.setIfInBounds_toArray, List.set_cons_zero, List.set_cons_succ]
          refine wpAnyH_takeD (some 2) (i := 21) (v := ?_) rfl rfl (by kernel_rfl) (by kernel_rfl) (by kernel_rfl) (fun _ _ _ h => h) (.inl ⟨by kernel_rfl, ?_⟩) t1 ?_
          rotate_left
          · intro w' hw'; obtain ⟨hw1, hw2, hw3, hw4, hw5, hw6, hw7, hw8, hw9, hw10, hw11, hw12, hw13⟩ := hw'; go_simp; try with_reducible rfl
          try simp only [Act.put, List.setIfInBounds_toArray, List.set_cons_zero, List.set_cons_succ]
          refine wpAnyH_done (by kernel_rfl) ?_ _
          go_wp2_with fail
          go_ret
          exact ⟨rfl, t1.1⟩
      · have e2 : (decide (0 ≤ tk) && decide (tk ≤ 1000000)) = false := by simpa using fun a => by omega
        rw [e2] at H2
        rw [okDev_tickets c2]
        obtain ⟨z, hz⟩ : ∃ z, szL zs = z := ⟨_, rfl⟩
        rw [hz] at H1 HZ z1 z2
        have tz : IntKind.i64.wrap (z - 1) = z - 1 := IntWalk.i64_in _ (by omega)
        clear hv hzz cc1 c2 e1 e2 hz HL
        go_enter Tryd.func41, Tryd.ntmps41
        go_wp2_with fail
        
        refine wp_region_held (S := (fun w' : World => Below w.heap.size w w' ∧ w'.cell? ⟨g, 0, none⟩ = some (.slice (some ⟨B, 0, none⟩) n cap) ∧ w'.cell? ⟨g, 1, none⟩ = some (.int .u8 d0) ∧ w'.cell? ⟨g, 2, none⟩ = some (.int .u8 d1) ∧ w'.cell? ⟨g, 3, none⟩ = some (.int .u8 d2) ∧ w'.cell? ⟨g, 4, none⟩ = some (.int .u8 d3) ∧ w'.cell? ⟨g, 5, none⟩ = some (.int .u8 d4) ∧ w'.cell? ⟨g, 6, none⟩ = some (.int .u8 d5) ∧ w'.cell? ⟨g, 7, none⟩ = some (.int .u8 d6) ∧ w'.cell? ⟨g, 8, none⟩ = some (.int .u8 d7) ∧ w'.cell? ⟨g, 9, none⟩ = some (.int .i64 pr) ∧ w'.cell? ⟨g, 10, none⟩ = some (.bool st) ∧ w'.cell? ⟨g, 11, none⟩ = some (.int .i64 tk))) (by kernel_rfl) ?_
        change wpAnyH _ _ _ _ _ _ _ _ (World.drew _)
        have s0 : ((fun w' : World => Below w.heap.size w w' ∧ w'.cell? ⟨g, 0, none⟩ = some (.slice (some ⟨B, 0, none⟩) n cap) ∧ w'.cell? ⟨g, 1, none⟩ = some (.int .u8 d0) ∧ w'.cell? ⟨g, 2, none⟩ = some (.int .u8 d1) ∧ w'.cell? ⟨g, 3, none⟩ = some (.int .u8 d2) ∧ w'.cell? ⟨g, 4, none⟩ = some (.int .u8 d3) ∧ w'.cell? ⟨g, 5, none⟩ = some (.int .u8 d4) ∧ w'.cell? ⟨g, 6, none⟩ = some (.int .u8 d5) ∧ w'.cell? ⟨g, 7, none⟩ = some (.int .u8 d6) ∧ w'.cell? ⟨g, 8, none⟩ = some (.int .u8 d7) ∧ w'.cell? ⟨g, 9, none⟩ = some (.int .i64 pr) ∧ w'.cell? ⟨g, 10, none⟩ = some (.bool st) ∧ w'.cell? ⟨g, 11, none⟩ = some (.int .i64 tk))) _ := HS0.out
        refine wpAnyH_takeD (some 3) (i := 0) (v := ?_) rfl rfl (by kernel_rfl) (by kernel_rfl) (by kernel_rfl) (fun _ _ _ h => h) (.inl ⟨by kernel_rfl, ?_⟩) s0 ?_
        rotate_left
        · intro w' hw'; obtain ⟨hw1, hw2, hw3, hw4, hw5, hw6, hw7, hw8, hw9, hw10, hw11, hw12, hw13⟩ := hw'; go_simp; try with_reducible rfl
        try simp only [Act.put, List.setIfInBounds_toArray, List.set_cons_zero, List.set_cons_succ]
        refine wpAnyH_takeD (some 4) (i := 1) (v := ?_) rfl rfl (by kernel_rfl) (by kernel_rfl) (by kernel_rfl) (fun _ _ _ h => h) (.inl ⟨by kernel_rfl, ?_⟩) s0 ?_
        rotate_left
        · intro w' hw'; obtain ⟨hw1, hw2, hw3, hw4, hw5, hw6, hw7, hw8, hw9, hw10, hw11, hw12, hw13⟩ := hw'; go_simp; try with_reducible rfl
        try simp only [Act.put, List.setIfInBounds_toArray, List.set_cons_zero, List.set_cons_succ]
        refine wpAnyH_takeD (some 5) (i := 2) (v := ?_) rfl rfl (by kernel_rfl) (by kernel_rfl) (by kernel_rfl) (fun _ _ _ h => h) (.inl ⟨by kernel_rfl, ?_⟩) s0 ?_
        rotate_left
        · intro w' hw'; obtain ⟨hw1, hw2, hw3, hw4, hw5, hw6, hw7, hw8, hw9, hw10, hw11, hw12, hw13⟩ := hw'; go_simp; try with_reducible rfl
        try simp only [Act.put, List.setIfInBounds_toArray, List.set_cons_zero, List.set_cons_succ]
        refine wpAnyH_takeD (some 6) (i := 3) (v := ?_) rfl rfl (by kernel_rfl) (by kernel_rfl) (by kernel_rfl) (fun _ _ _ h => h) (.inl ⟨by kernel_rfl, ?_⟩) s0 ?_
        rotate_left
        · intro w' hw'; obtain ⟨hw1, hw2, hw3, hw4, hw5, hw6, hw7, hw8, hw9, hw10, hw11, hw12, hw13⟩ := hw'; go_simp; try with_reducible rfl
        try simp only [Act.put, List.setIfInBounds_toArray, List.set_cons_zero, List.set_cons_succ]
        refine wpAnyH_takeD (some 7) (i := 4) (v := ?_) rfl rfl (by kernel_rfl) (by kernel_rfl) (by kernel_rfl) (fun _ _ _ h => h) (.inl ⟨by kernel_rfl, ?_⟩) s0 ?_
        rotate_left
        · intro w' hw'; obtain ⟨hw1, hw2, hw3, hw4, hw5, hw6, hw7, hw8, hw9, hw10, hw11, hw12, hw13⟩ := hw'; go_simp; try with_reducible rfl
        try simp only [Act.put, List.setIfInBounds_toArray, List.set_cons_zero, List.set_cons_succ]
        refine wpAnyH_takeD (some 8) (i := 5) (v := ?_) rfl rfl (by kernel_rfl) (by kernel_rfl) (by kernel_rfl) (fun _ _ _ h => h) (.inl ⟨by kernel_rfl, ?_⟩) s0 ?_
        rotate_left
        · intro w' hw'; obtain ⟨hw1, hw2, hw3, hw4, hw5, hw6, hw7, hw8, hw9, hw10, hw11, hw12, hw13⟩ := hw'; go_simp; try with_reducible rfl
        try simp only [Act.put, List.setIfInBounds_toArray, List.set_cons_zero, List.set_cons_succ]
        refine wpAnyH_takeD (some 9) (i := 6) (v := ?_) rfl rfl (by kernel_rfl) (by kernel_rfl) (by kernel_rfl) (fun _ _ _ h => h) (.inl ⟨by kernel_rfl, ?_⟩) s0 ?_
        rotate_left
        · intro w' hw'; obtain ⟨hw1, hw2, hw3, hw4, hw5, hw6, hw7, hw8, hw9, hw10, hw11, hw12, hw13⟩ := hw'; go_simp; try with_reducible rfl
        try simp only [Act.put, List.setIfInBounds_toArray, List.set_cons_zero, List.set_cons_succ]
        refine wpAnyH_takeD (some 10) (i := 7) (v := ?_) rfl rfl (by kernel_rfl) (by kernel_rfl) (by kernel_rfl) (fun _ _ _ h => h) (.inl ⟨by kernel_rfl, ?_⟩) s0 ?_
        rotate_left
        · intro w' hw'; obtain ⟨hw1, hw2, hw3, hw4, hw5, hw6, hw7, hw8, hw9, hw10, hw11, hw12, hw13⟩ := hw'; go_simp; try with_reducible rfl
        try simp only [Act.put, List.setIfInBounds_toArray, List.set_cons_zero, List.set_cons_succ]
        refine wpAnyH_all (rs := [8]) (by kernel_rfl) (by simp) ?_
        intro i hi; simp only [List.mem_singleton] at hi; subst hi
        refine wpOp_step rfl (fun K hK => ?_)
        go_simp
        with_reducible refine (HV.out _ s0).mono ?_
        rintro e vs1 ⟨rfl, hvs1⟩
        have s1 := hvs1
        refine hK _ _ ⟨s1, ?_⟩
        try simp only [Act.put, List.setIfInBounds_toArray, List.set_cons_zero, List.set_cons_succ]
        refine wpAnyH_takeD (some 12) (i := 9) (v := ?_) rfl rfl (by kernel_rfl) (by kernel_rfl) (by kernel_rfl) (fun _ _ _ h => h) (.inl ⟨by kernel_rfl, ?_⟩) s1 ?_
        rotate_left
        · intro w' hw'; obtain ⟨hw1, hw2, hw3, hw4, hw5, hw6, hw7, hw8, hw9, hw10, hw11, hw12, hw13⟩ := hw'; go_simp; try with_reducible rfl
        try simp only [Act.put, List.setIfInBounds_toArray, List.set_cons_zero, List.set_cons_succ]
        refine wpAnyH_takeD (some 13) (i := 10) (v := ?_) rfl rfl (by kernel_rfl) (by kernel_rfl) (by kernel_rfl) (fun _ _ _ h => h) (.inl ⟨by kernel_rfl, ?_⟩) s1 ?_
        rotate_left
        · intro w' hw'; obtain ⟨hw1, hw2, hw3, hw4, hw5, hw6, hw7, hw8, hw9, hw10, hw11, hw12, hw13⟩ := hw'; go_simp; try with_reducible rfl
        try simp only [Act.put, List.setIfInBounds_toArray, List.set_cons_zero, List.set_cons_succ]
        refine wpAnyH_takeD (some 14) (i := 11) (v := ?_) rfl rfl (by kernel_rfl) (by kernel_rfl) (by kernel_rfl) (fun _ _ _ h => h) (.inl ⟨by kernel_rfl, ?_⟩) s1 ?_
        rotate_left
        · intro w' hw'; obtain ⟨hw1, hw2, hw3, hw4, hw5, hw6, hw7, hw8, hw9, hw10, hw11, hw12, hw13⟩ := hw'; go_simp; try with_reducible rfl
        try simp only [Act.put, List.setIfInBounds_toArray, List.set_cons_zero, List.set_cons_succ]
        refine wpAnyH_takeD (some 15) (i := 12) (v := ?_) rfl rfl (by kernel_rfl) (by kernel_rfl) (by kernel_rfl) (fun _ _ _ h => h) (.inl ⟨by kernel_rfl, ?_⟩) s1 ?_
        rotate_left
        · intro w' hw'; obtain ⟨hw1, hw2, hw3, hw4, hw5, hw6, hw7, hw8, hw9, hw10, hw11, hw12, hw13⟩ := hw'; go_simp; try with_reducible rfl
        try simp only [Act.put, List.setIfInBounds_toArray, List.set_cons_zero, List.set_cons_succ]
        refine wpAnyH_takeD (some 16) (i := 13) (v := ?_) rfl rfl (by kernel_rfl) (by kernel_rfl) (by kernel_rfl) (fun _ _ _ h => h) (.inl ⟨by kernel_rfl, ?_⟩) s1 ?_
        rotate_left
        · intro w' hw'; obtain ⟨hw1, hw2, hw3, hw4, hw5, hw6, hw7, hw8, hw9, hw10, hw11, hw12, hw13⟩ := hw'; go_simp; try with_reducible rfl
        try simp only [Act.put, List.setIfInBounds_toArray, List.set_cons_zero, List.set_cons_succ]
        refine wpAnyH_takeD (some 17) (i := 14) (v := ?_) rfl rfl (by kernel_rfl) (by kernel_rfl) (by kernel_rfl) (fun _ _ _ h => h) (.inl ⟨by kernel_rfl, ?_⟩) s1 ?_
        rotate_left
        · intro w' hw'; obtain ⟨hw1, hw2, hw3, hw4, hw5, hw6, hw7, hw8, hw9, hw10, hw11, hw12, hw13⟩ := hw'; go_simp; try with_reducible rfl
        try simp only [Act.put, List.setIfInBounds_toArray, List.set_cons_zero, List.set_cons_succ]
        refine wpAnyH_takeD (some 18) (i := 15) (v := ?_) rfl rfl (by kernel_rfl) (by kernel_rfl) (by kernel_rfl) (fun _ _ _ h => h) (.inl ⟨by kernel_rfl, ?_⟩) s1 ?_
        rotate_left
        · intro w' hw'; obtain ⟨hw1, hw2, hw3, hw4, hw5, hw6, hw7, hw8, hw9, hw10, hw11, hw12, hw13⟩ := hw'; go_simp; try with_reducible rfl
        try simp only [Act.put, List.setIfInBounds_toArray, List.set_cons_zero, List.set_cons_succ]
        refine wpAnyH_takeD (some 19) (i := 16) (v := ?_) rfl rfl (by kernel_rfl) (by kernel_rfl) (by kernel_rfl) (fun _ _ _ h => h) (.inl ⟨by kernel_rfl, ?_⟩) s1 ?_
        rotate_left
        · intro w' hw'; obtain ⟨hw1, hw2, hw3, hw4, hw5, hw6, hw7, hw8, hw9, hw10, hw11, hw12, hw13⟩ := hw'; go_simp; try with_reducible rfl
        try simp only [Act.put, List.setIfInBounds_toArray, List.set_cons_zero, List.set_cons_succ]
        refine wpAnyH_takeD (some 20) (i := 17) (v := ?_) rfl rfl (by kernel_rfl) (by kernel_rfl) (by kernel_rfl) (fun _ _ _ h => h) (.inl ⟨by kernel_rfl, ?_⟩) s1 ?_
        rotate_left
        · intro w' hw'; obtain ⟨hw1, hw2, hw3, hw4, hw5, hw6, hw7, hw8, hw9, hw10, hw11, hw12, hw13⟩ := hw'; go_simp; try with_reducible rfl
        try simp only [Act.put, List.setIfInBounds_toArray, List.set_cons_zero, List.set_cons_succ]
        refine wpAnyH_takeD (some 21) (i := 18) (v := ?_) rfl rfl (by kernel_rfl) (by kernel_rfl) (by kernel_rfl) (fun _ _ _ h => h) (.inl ⟨by kernel_rfl, ?_⟩) s1 ?_
        rotate_left
        · intro w' hw'; obtain ⟨hw1, hw2, hw3, hw4, hw5, hw6, hw7, hw8, hw9, hw10, hw11, hw12, hw13⟩ := hw'; go_simp; try with_reducible rfl
        try simp only [Act.put, List.setIfInBounds_toArray, List.set_cons_zero, List.set_cons_succ]
        refine wpAnyH_all (rs := [19]) (by kernel_rfl) (by simp) ?_
        intro i hi; simp only [List.mem_singleton] at hi; subst hi
        refine wpOp_step rfl (fun K hK => ?_)
        go_simp
        with_reducible refine (HZ.out _ s1).mono ?_
        rintro e vs2 ⟨rfl, hvs2⟩
        have s2 := hvs2
        refine hK _ _ ⟨s2, ?_⟩
        try simp only [Act.put, List.setIfInBounds_toArray, List.set_cons_zero, List.set_cons_succ]
        refine wpAnyH_takeD (some 23) (i := 20) (v := ?_) rfl rfl (by kernel_rfl) (by kernel_rfl) (by kernel_rfl) (fun _ _ _ h => h) (.inl ⟨by kernel_rfl, ?_⟩) s2 ?_
        rotate_left
        · intro w' hw'; obtain ⟨hw1, hw2, hw3, hw4, hw5, hw6, hw7, hw8, hw9, hw10, hw11, hw12, hw13⟩ := hw'; go_simp; try with_reducible rfl
        try simp only [Act.put, List.setIfInBounds_toArray, List.set_cons_zero, List.set_cons_succ]
        refine wpAnyH_all (rs := [21]) (by kernel_rfl) (by simp) ?_
        intro i hi; simp only [List.mem_singleton] at hi; subst hi
        refine wpOp_step rfl (fun K hK => ?_)
        go_simp
        with_reducible refine (H1.out _ s2).mono ?_
        rintro e vs3 ⟨rfl, hvs3⟩
        have s3 := hvs3
        refine hK _ _ ⟨s3, ?_⟩
        try simp only [Act.put, List.setIfInBounds_toArray, List.set_cons_zero, List.set_cons_succ]
        refine wpAnyH_takeD (some 25) (i := 22) (v := ?_) rfl rfl (by kernel_rfl) (by kernel_rfl) (by kernel_rfl) (fun _ _ _ h => h) (.inl ⟨by kernel_rfl, ?_⟩) s3 ?_
        rotate_left
        · intro w' hw'; obtain ⟨hw1, hw2, hw3, hw4, hw5, hw6, hw7, hw8, hw9, hw10, hw11, hw12, hw13⟩ := hw'; go_simp; try with_reducible rfl
        try simp only [Act.put, List.setIfInBounds_toArray, List.set_cons_zero, List.set_cons_succ]
        refine wpAnyH_takeD (some 26) (i := 23) (v := ?_) rfl rfl (by kernel_rfl) (by kernel_rfl) (by kernel_rfl) (fun _ _ _ h => h) (.inl ⟨by kernel_rfl, ?_⟩) s3 ?_
        rotate_left
        · intro w' hw'; obtain ⟨hw1, hw2, hw3, hw4, hw5, hw6, hw7, hw8, hw9, hw10, hw11, hw12, hw13⟩ := hw'; go_simp; try with_reducible rfl
        try simp only [Act.put, List.setIfInBounds_toArray, List.set_cons_zero, List.set_cons_succ]
        refine wpAnyH_takeD (some 27) (i := 24) (v := ?_) rfl rfl (by kernel_rfl) (by kernel_rfl) (by kernel_rfl) (fun _ _ _ h => h) (.inl ⟨by kernel_rfl, ?_⟩) s3 ?_
        rotate_left
        · intro w' hw'; obtain ⟨hw1, hw2, hw3, hw4, hw5, hw6, hw7, hw8, hw9, hw10, hw11, hw12, hw13⟩ := hw'; go_simp; try with_reducible rfl
        try simp only [Act.put, List.setIfInBounds_toArray, List.set_cons_zero, List.set_cons_succ]
        refine wpAnyH_takeD (some 28) (i := 25) (v := ?_) rfl rfl (by kernel_rfl) (by kernel_rfl) (by kernel_rfl) (fun _ _ _ h => h) (.inl ⟨by kernel_rfl, ?_⟩) s3 ?_
        rotate_left
        · intro w' hw'; obtain ⟨hw1, hw2, hw3, hw4, hw5, hw6, hw7, hw8, hw9, hw10, hw11, hw12, hw13⟩ := hw'; go_simp; try with_reducible rfl
        try simp only [Act.put, List.setIfInBounds_toArray, List.set_cons_zero, List.set_cons_succ]
        refine wpAnyH_takeD (some 29) (i := 26) (v := ?_) rfl rfl (by kernel_rfl) (by kernel_rfl) (by kernel_rfl) (fun _ _ _ h => h) (.inl ⟨by kernel_rfl, ?_⟩) s3 ?_
        rotate_left
        · intro w' hw'; obtain ⟨hw1, hw2, hw3, hw4, hw5, hw6, hw7, hw8, hw9, hw10, hw11, hw12, hw13⟩ := hw'; go_simp; try with_reducible rfl
        try simp only [Act.put, List.setIfInBounds_toArray, List.set_cons_zero, List.set_cons_succ]
        refine wpAnyH_takeD (some 30) (i := 27) (v := ?_) rfl rfl (by kernel_rfl) (by kernel_rfl) (by kernel_rfl) (fun _ _ _ h => h) (.inl ⟨by kernel_rfl, ?_⟩) s3 ?_
        rotate_left
        · intro w' hw'; obtain ⟨hw1, hw2, hw3, hw4, hw5, hw6, hw7, hw8, hw9, hw10, hw11, hw12, hw13⟩ := hw'; go_simp; try with_reducible rfl
        try simp only [Act.put, List.setIfInBounds_toArray, List.set_cons_zero, List.set_cons_succ]
        refine wpAnyH_takeD (some 31) (i := 28) (v := ?_) rfl rfl (by kernel_rfl) (by kernel_rfl) (by kernel_rfl) (fun _ _ _ h => h) (.inl ⟨by kernel_rfl, ?_⟩) s3 ?_
        rotate_left
        · intro w' hw'; obtain ⟨hw1, hw2, hw3, hw4, hw5, hw6, hw7, hw8, hw9, hw10, hw11, hw12, hw13⟩ := hw'; go_simp; try with_reducible rfl
        try simp only [Act.put, List.setIfInBounds_toArray, List.set_cons_zero, List.set_cons_succ]
        refine wpAnyH_all (rs := [29]) (by kernel_rfl) (by simp) ?_
        intro i hi; simp only [List.mem_singleton] at hi; subst hi
        refine wpOp_step rfl (fun K hK => ?_)
        go_simp
        with_reducible refine (H2.out _ s3).mono ?_
        rintro e vs4 ⟨rfl, hvs4⟩
        have s4 := hvs4
        refine hK _ _ ⟨s4, ?_⟩
        try simp only [Act.put, List.setIfInBounds_toArray, List.set_cons_zero, List.set_cons_succ]
        refine wpAnyH_takeD (some 33) (i := 30) (v := ?_) rfl rfl (by kernel_rfl) (by kernel_rfl) (by kernel_rfl) (fun _ _ _ h => h) (.inl ⟨by kernel_rfl, ?_⟩) s4 ?_
        rotate_left
        · intro w' hw'; obtain ⟨hw1, hw2, hw3, hw4, hw5, hw6, hw7, hw8, hw9, hw10, hw11, hw12, hw13⟩ := hw'; go_simp; try with_reducible rfl
        try simp only [Act.put, List.setIfInBounds_toArray, List.set_cons_zero, List.set_cons_succ]
        refine wpAnyH_takeD (some 34) (i := 31) (v := ?_) rfl rfl (by kernel_rfl) (by kernel_rfl) (by kernel_rfl) (fun _ _ _ h => h) (.inl ⟨by kernel_rfl, ?_⟩) s4 ?_
        rotate_left
        · intro w' hw'; obtain ⟨hw1, hw2, hw3, hw4, hw5, hw6, hw7, hw8, hw9, hw10, hw11, hw12, hw13⟩ := hw'; go_simp; try with_reducible rfl
        try simp only [Act.put, List.setIfInBounds_toArray, List.set_cons_zero, List.set_cons_succ]
        refine wpAnyH_done (by kernel_rfl) ?_ _
        go_wp2_with fail
        go_ret
        exact ⟨rfl, hvs4.1⟩
    · have e1 : (decide (-1 ≤ pr) && decide (pr ≤ szL zs - 1)) = false := by simpa using fun a => by omega
      rw [e1] at H1
      rw [okDev_preset cc1]
      obtain ⟨z, hz⟩ : ∃ z, szL zs = z := ⟨_, rfl⟩
      rw [hz] at H1 HZ z1 z2
      have tz : IntKind.i64.wrap (z - 1) = z - 1 := IntWalk.i64_in _ (by omega)
      clear hv hzz cc1 e1 hz HL H2
      go_enter Tryd.func41, Tryd.ntmps41
      go_wp2_with fail
      
      refine wp_region_held (S := (fun w' : World => Below w.heap.size w w' ∧ w'.cell? ⟨g, 0, none⟩ = some (.slice (some ⟨B, 0, none⟩) n cap) ∧ w'.cell? ⟨g, 1, none⟩ = some (.int .u8 d0) ∧ w'.cell? ⟨g, 2, none⟩ = some (.int .u8 d1) ∧ w'.cell? ⟨g, 3, none⟩ = some (.int .u8 d2) ∧ w'.cell? ⟨g, 4, none⟩ = some (.int .u8 d3) ∧ w'.cell? ⟨g, 5, none⟩ = some (.int .u8 d4) ∧ w'.cell? ⟨g, 6, none⟩ = some (.int .u8 d5) ∧ w'.cell? ⟨g, 7, none⟩ = some (.int .u8 d6) ∧ w'.cell? ⟨g, 8, none⟩ = some (.int .u8 d7) ∧ w'.cell? ⟨g, 9, none⟩ = some (.int .i64 pr) ∧ w'.cell? ⟨g, 10, none⟩ = some (.bool st) ∧ w'.cell? ⟨g, 11, none⟩ = some (.int .i64 tk))) (by kernel_rfl) ?_
      change wpAnyH _ _ _ _ _ _ _ _ (World.drew _)
      have s0 : ((fun w' : World => Below w.heap.size w w' ∧ w'.cell? ⟨g, 0, none⟩ = some (.slice (some ⟨B, 0, none⟩) n cap) ∧ w'.cell? ⟨g, 1, none⟩ = some (.int .u8 d0) ∧ w'.cell? ⟨g, 2, none⟩ = some (.int .u8 d1) ∧ w'.cell? ⟨g, 3, none⟩ = some (.int .u8 d2) ∧ w'.cell? ⟨g, 4, none⟩ = some (.int .u8 d3) ∧ w'.cell? ⟨g, 5, none⟩ = some (.int .u8 d4) ∧ w'.cell? ⟨g, 6, none⟩ = some (.int .u8 d5) ∧ w'.cell? ⟨g, 7, none⟩ = some (.int .u8 d6) ∧ w'.cell? ⟨g, 8, none⟩ = some (.int .u8 d7) ∧ w'.cell? ⟨g, 9, none⟩ = some (.int .i64 pr) ∧ w'.cell? ⟨g, 10, none⟩ = some (.bool st) ∧ w'.cell? ⟨g, 11, none⟩ = some (.int .i64 tk))) _ := HS0.out
      refine wpAnyH_takeD (some 3) (i := 0) (v := ?_) rfl rfl (by kernel_rfl) (by kernel_rfl) (by kernel_rfl) (fun _ _ _ h => h) (.inl ⟨by kernel_rfl, ?_⟩) s0 ?_
      rotate_left
      · intro w' hw'; obtain ⟨hw1, hw2, hw3, hw4, hw5, hw6, hw7, hw8, hw9, hw10, hw11, hw12, hw13⟩ := hw'; go_simp; try with_reducible rfl
      try simp only [Act.put, List.setIfInBounds_toArray, List.set_cons_zero, List.set_cons_succ]
      refine wpAnyH_takeD (some 4) (i := 1) (v := ?_) rfl rfl (by kernel_rfl) (by kernel_rfl) (by kernel_rfl) (fun _ _ _ h => h) (.inl ⟨by kernel_rfl, ?_⟩) s0 ?_
      rotate_left
      · intro w' hw'; obtain ⟨hw1, hw2, hw3, hw4, hw5, hw6, hw7, hw8, hw9, hw10, hw11, hw12, hw13⟩ := hw'; go_simp; try with_reducible rfl
      try simp only [Act.put, List.setIfInBounds_toArray, List.set_cons_zero, List.set_cons_succ]
      refine wpAnyH_takeD (some 5) (i := 2) (v := ?_) rfl rfl (by kernel_rfl) (by kernel_rfl) (by kernel_rfl) (fun _ _ _ h => h) (.inl ⟨by kernel_rfl, ?_⟩) s0 ?_
      rotate_left
      · intro w' hw'; obtain ⟨hw1, hw2, hw3, hw4, hw5, hw6, hw7, hw8, hw9, hw10, hw11, hw12, hw13⟩ := hw'; go_simp; try with_reducible rfl
      try simp only [Act.put, List.setIfInBounds_toArray, List.set_cons_zero, List.set_cons_succ]
      refine wpAnyH_takeD (some 6) (i := 3) (v := ?_) rfl rfl (by kernel_rfl) (by kernel_rfl) (by kernel_rfl) (fun _ _ _ h => h) (.inl ⟨by kernel_rfl, ?_⟩) s0 ?_
      rotate_left
      · intro w' hw'; obtain ⟨hw1, hw2, hw3, hw4, hw5, hw6, hw7, hw8, hw9, hw10, hw11, hw12, hw13⟩ := hw'; go_simp; try with_reducible rfl
      try simp only [Act.put, List.setIfInBounds_toArray, List.set_cons_zero, List.set_cons_succ]
      refine wpAnyH_takeD (some 7) (i := 4) (v := ?_) rfl rfl (by kernel_rfl) (by kernel_rfl) (by kernel_rfl) (fun _ _ _ h => h) (.inl ⟨by kernel_rfl, ?_⟩) s0 ?_
      rotate_left
      · intro w' hw'; obtain ⟨hw1, hw2, hw3, hw4, hw5, hw6, hw7, hw8, hw9, hw10, hw11, hw12, hw13⟩ := hw'; go_simp; try with_reducible rfl
      try simp only [Act.put, List.setIfInBounds_toArray, List.set_cons_zero, List.set_cons_succ]
      refine wpAnyH_takeD (some 8) (i := 5) (v := ?_) rfl rfl (by kernel_rfl) (by kernel_rfl) (by kernel_rfl) (fun _ _ _ h => h) (.inl ⟨by kernel_rfl, ?_⟩) s0 ?_
      rotate_left
      · intro w' hw'; obtain ⟨hw1, hw2, hw3, hw4, hw5, hw6, hw7, hw8, hw9, hw10, hw11, hw12, hw13⟩ := hw'; go_simp; try with_reducible rfl
      try simp only [Act.put, List.setIfInBounds_toArray, List.set_cons_zero, List.set_cons_succ]
      refine wpAnyH_takeD (some 9) (i := 6) (v := ?_) rfl rfl (by kernel_rfl) (by kernel_rfl) (by kernel_rfl) (fun _ _ _ h => h) (.inl ⟨by kernel_rfl, ?_⟩) s0 ?_
      rotate_left
      · intro w' hw'; obtain ⟨hw1, hw2, hw3, hw4, hw5, hw6, hw7, hw8, hw9, hw10, hw11, hw12, hw13⟩ := hw'; go_simp; try with_reducible rfl
      try simp only [Act.put, List.setIfInBounds_toArray, List.set_cons_zero, List.set_cons_succ]
      refine wpAnyH_takeD (some 10) (i := 7) (v := ?_) rfl rfl (by kernel_rfl) (by kernel_rfl) (by kernel_rfl) (fun _ _ _ h => h) (.inl ⟨by kernel_rfl, ?_⟩) s0 ?_
      rotate_left
      · intro w' hw'; obtain ⟨hw1, hw2, hw3, hw4, hw5, hw6, hw7, hw8, hw9, hw10, hw11, hw12, hw13⟩ := hw'; go_simp; try with_reducible rfl
      try simp only [Act.put, List.setIfInBounds_toArray, List.set_cons_zero, List.set_cons_succ]
      refine wpAnyH_all (rs := [8]) (by kernel_rfl) (by simp) ?_
      intro i hi; simp only [List.mem_singleton] at hi; subst hi
      refine wpOp_step rfl (fun K hK => ?_)
      go_simp
      with_reducible refine (HV.out _ s0).mono ?_
      rintro e vs1 ⟨rfl, hvs1⟩
      have s1 := hvs1
      refine hK _ _ ⟨s1, ?_⟩
      try simp only [Act.put, List.setIfInBounds_toArray, List.set_cons_zero, List.set_cons_succ]
      refine wpAnyH_takeD (some 12) (i := 9) (v := ?_) rfl rfl (by kernel_rfl) (by kernel_rfl) (by kernel_rfl) (fun _ _ _ h => h) (.inl ⟨by kernel_rfl, ?_⟩) s1 ?_
      rotate_left
      · intro w' hw'; obtain ⟨hw1, hw2, hw3, hw4, hw5, hw6, hw7, hw8, hw9, hw10, hw11, hw12, hw13⟩ := hw'; go_simp; try with_reducible rfl
      try simp only [Act.put, List.setIfInBounds_toArray, List.set_cons_zero, List.set_cons_succ]
      refine wpAnyH_takeD (some 13) (i := 10) (v := ?_) rfl rfl (by kernel_rfl) (by kernel_rfl) (by kernel_rfl) (fun _ _ _ h => h) (.inl ⟨by kernel_rfl, ?_⟩) s1 ?_
      rotate_left
      · intro w' hw'; obtain ⟨hw1, hw2, hw3, hw4, hw5, hw6, hw7, hw8, hw9, hw10, hw11, hw12, hw13⟩ := hw'; go_simp; try with_reducible rfl
      try simp only [Act.put, List.setIfInBounds_toArray, List.set_cons_zero, List.set_cons_succ]
      refine wpAnyH_takeD (some 14) (i := 11) (v := ?_) rfl rfl (by kernel_rfl) (by kernel_rfl) (by kernel_rfl) (fun _ _ _ h => h) (.inl ⟨by kernel_rfl, ?_⟩) s1 ?_
      rotate_left
      · intro w' hw'; obtain ⟨hw1, hw2, hw3, hw4, hw5, hw6, hw7, hw8, hw9, hw10, hw11, hw12, hw13⟩ := hw'; go_simp; try with_reducible rfl
      try simp only [Act.put, List.setIfInBounds_toArray, List.set_cons_zero, List.set_cons_succ]
      refine wpAnyH_takeD (some 15) (i := 12) (v := ?_) rfl rfl (by kernel_rfl) (by kernel_rfl) (by kernel_rfl) (fun _ _ _ h => h) (.inl ⟨by kernel_rfl, ?_⟩) s1 ?_
      rotate_left
      · intro w' hw'; obtain ⟨hw1, hw2, hw3, hw4, hw5, hw6, hw7, hw8, hw9, hw10, hw11, hw12, hw13⟩ := hw'; go_simp; try with_reducible rfl
      try simp only [Act.put, List.setIfInBounds_toArray, List.set_cons_zero, List.set_cons_succ]
      refine wpAnyH_takeD (some 16) (i := 13) (v := ?_) rfl rfl (by kernel_rfl) (by kernel_rfl) (by kernel_rfl) (fun _ _ _ h => h) (.inl ⟨by kernel_rfl, ?_⟩) s1 ?_
      rotate_left
      · intro w' hw'; obtain ⟨hw1, hw2, hw3, hw4, hw5, hw6, hw7, hw8, hw9, hw10, hw11, hw12, hw13⟩ := hw'; go_simp; try with_reducible rfl
      try simp only [Act.put, List.setIfInBounds_toArray, List.set_cons_zero, List.set_cons_succ]
      refine wpAnyH_takeD (some 17) (i := 14) (v := ?_) rfl rfl (by kernel_rfl) (by kernel_rfl) (by kernel_rfl) (fun _ _ _ h => h) (.inl ⟨by kernel_rfl, ?_⟩) s1 ?_
      rotate_left
      · intro w' hw'; obtain ⟨hw1, hw2, hw3, hw4, hw5, hw6, hw7, hw8, hw9, hw10, hw11, hw12, hw13⟩ := hw'; go_simp; try with_reducible rfl
      try simp only [Act.put, List.setIfInBounds_toArray, List.set_cons_zero, List.set_cons_succ]
      refine wpAnyH_takeD (some 18) (i := 15) (v := ?_) rfl rfl (by kernel_rfl) (by kernel_rfl) (by kernel_rfl) (fun _ _ _ h => h) (.inl ⟨by kernel_rfl, ?_⟩) s1 ?_
      rotate_left
      · intro w' hw'; obtain ⟨hw1, hw2, hw3, hw4, hw5, hw6, hw7, hw8, hw9, hw10, hw11, hw12, hw13⟩ := hw'; go_simp; try with_reducible rfl
      try simp only [Act.put, List.setIfInBounds_toArray, List.set_cons_zero, List.set_cons_succ]
      refine wpAnyH_takeD (some 19) (i := 16) (v := ?_) rfl rfl (by kernel_rfl) (by kernel_rfl) (by kernel_rfl) (fun _ _ _ h => h) (.inl ⟨by kernel_rfl, ?_⟩) s1 ?_
      rotate_left
      · intro w' hw'; obtain ⟨hw1, hw2, hw3, hw4, hw5, hw6, hw7, hw8, hw9, hw10, hw11, hw12, hw13⟩ := hw'; go_simp; try with_reducible rfl
      try simp only [Act.put, List.setIfInBounds_toArray, List.set_cons_zero, List.set_cons_succ]
      refine wpAnyH_takeD (some 20) (i := 17) (v := ?_) rfl rfl (by kernel_rfl) (by kernel_rfl) (by kernel_rfl) (fun _ _ _ h => h) (.inl ⟨by kernel_rfl, ?_⟩) s1 ?_
      rotate_left
      · intro w' hw'; obtain ⟨hw1, hw2, hw3, hw4, hw5, hw6, hw7, hw8, hw9, hw10, hw11, hw12, hw13⟩ := hw'; go_simp; try with_reducible rfl
      try simp only [Act.put, List.setIfInBounds_toArray, List.set_cons_zero, List.set_cons_succ]
      refine wpAnyH_takeD (some 21) (i := 18) (v := ?_) rfl rfl (by kernel_rfl) (by kernel_rfl) (by kernel_rfl) (fun _ _ _ h => h) (.inl ⟨by kernel_rfl, ?_⟩) s1 ?_
      rotate_left
      · intro w' hw'; obtain ⟨hw1, hw2, hw3, hw4, hw5, hw6, hw7, hw8, hw9, hw10, hw11, hw12, hw13⟩ := hw'; go_simp; try with_reducible rfl
      try simp only [Act.put, List.setIfInBounds_toArray, List.set_cons_zero, List.set_cons_succ]
      refine wpAnyH_all (rs := [19]) (by kernel_rfl) (by simp) ?_
      intro i hi; simp only [List.mem_singleton] at hi; subst hi
      refine wpOp_step rfl (fun K hK => ?_)
      go_simp
      with_reducible refine (HZ.out _ s1).mono ?_
      rintro e vs2 ⟨rfl, hvs2⟩
      have s2 := hvs2
      refine hK _ _ ⟨s2, ?_⟩
      try simp only [Act.put, List.setIfInBounds_toArray, List.set_cons_zero, List.set_cons_succ]
      refine wpAnyH_takeD (some 23) (i := 20) (v := ?_) rfl rfl (by kernel_rfl) (by kernel_rfl) (by kernel_rfl) (fun _ _ _ h => h) (.inl ⟨by kernel_rfl, ?_⟩) s2 ?_
      rotate_left
      · intro w' hw'; obtain ⟨hw1, hw2, hw3, hw4, hw5, hw6, hw7, hw8, hw9, hw10, hw11, hw12, hw13⟩ := hw'; go_simp; try with_reducible rfl
      try simp only [Act.put, List.setIfInBounds_toArray, List.set_cons_zero, List.set_cons_succ]
      refine wpAnyH_all (rs := [21]) (by kernel_rfl) (by simp) ?_
      intro i hi; simp only [List.mem_singleton] at hi; subst hi
      refine wpOp_step rfl (fun K hK => ?_)
      go_simp
      with_reducible refine (H1.out _ s2).mono ?_
      rintro e vs3 ⟨rfl, hvs3⟩
      have s3 := hvs3
      refine hK _ _ ⟨s3, ?_⟩
      try simp only [Act.put, List.setIfInBounds_toArray, List.set_cons_zero, List.set_cons_succ]
      refine wpAnyH_takeD (some 25) (i := 22) (v := ?_) rfl rfl (by kernel_rfl) (by kernel_rfl) (by kernel_rfl) (fun _ _ _ h => h) (.inl ⟨by kernel_rfl, ?_⟩) s3 ?_
      rotate_left
      · intro w' hw'; obtain ⟨hw1, hw2, hw3, hw4, hw5, hw6, hw7, hw8, hw9, hw10, hw11, hw12, hw13⟩ := hw'; go_simp; try with_reducible rfl
      try simp only [Act.put, List.setIfInBounds_toArray, List.set_cons_zero, List.set_cons_succ]
      refine wpAnyH_takeD (some 26) (i := 23) (v := ?_) rfl rfl (by kernel_rfl) (by kernel_rfl) (by kernel_rfl) (fun _ _ _ h => h) (.inl ⟨by kernel_rfl, ?_⟩) s3 ?_
      rotate_left
      · intro w' hw'; obtain ⟨hw1, hw2, hw3, hw4, hw5, hw6, hw7, hw8, hw9, hw10, hw11, hw12, hw13⟩ := hw'; go_simp; try with_reducible rfl
      try simp only [Act.put, List.setIfInBounds_toArray, List.set_cons_zero, List.set_cons_succ]
      refine wpAnyH_takeD (some 27) (i := 24) (v := ?_) rfl rfl (by kernel_rfl) (by kernel_rfl) (by kernel_rfl) (fun _ _ _ h => h) (.inl ⟨by kernel_rfl, ?_⟩) s3 ?_
      rotate_left
      · intro w' hw'; obtain ⟨hw1, hw2, hw3, hw4, hw5, hw6, hw7, hw8, hw9, hw10, hw11, hw12, hw13⟩ := hw'; go_simp; try with_reducible rfl
      try simp only [Act.put, List.setIfInBounds_toArray, List.set_cons_zero, List.set_cons_succ]
      refine wpAnyH_takeD (some 28) (i := 25) (v := undef) rfl rfl (by kernel_rfl) (by kernel_rfl) (by kernel_rfl) (fun _ _ _ h => h) (.inr ⟨by kernel_rfl, rfl⟩) s3 ?_
      try simp only [Act.put, List.setIfInBounds_toArray, List.set_cons_zero, List.set_cons_succ]
      refine wpAnyH_takeD (some 29) (i := 26) (v := undef) rfl rfl (by kernel_rfl) (by kernel_rfl) (by kernel_rfl) (fun _ _ _ h => h) (.inr ⟨by kernel_rfl, rfl⟩) s3 ?_
      try simp only [Act.put, List.setIfInBounds_toArray, List.set_cons_zero, List.set_cons_succ]
      refine wpAnyH_takeD (some 30) (i := 27) (v := undef) rfl rfl (by kernel_rfl) (by kernel_rfl) (by kernel_rfl) (fun _ _ _ h => h) (.inr ⟨by kernel_rfl, rfl⟩) s3 ?_
      try simp only [Act.put, List.setIfInBounds_toArray, List.set_cons_zero, List.set_cons_succ]
      refine wpAnyH_takeD (some 31) (i := 28) (v := undef) rfl rfl (by kernel_rfl) (by kernel_rfl) (by kernel_rfl) (fun _ _ _ h => h) (.inr ⟨by kernel_rfl, rfl⟩) s3 ?_
      try simp only [Act.put, List.setIfInBounds_toArray, List.set_cons_zero, List.set_cons_succ]
      refine wpAnyH_takeD (some 32) (i := 29) (v := undef) rfl rfl (by kernel_rfl) (by kernel_rfl) (by kernel_rfl) (fun _ _ _ h => h) (.inr ⟨by kernel_rfl, rfl⟩) s3 ?_
      try simp only [Act.put, List.setIfInBounds_toArray, List.set_cons_zero, List.set_cons_succ]
      refine wpAnyH_takeD (some 33) (i := 30) (v := undef) rfl rfl (by kernel_rfl) (by kernel_rfl) (by kernel_rfl) (fun _ _ _ h => h) (.inr ⟨by kernel_rfl, rfl⟩) s3 ?_
      try simp only [Act.put, List.setIfInBounds_toArray, List.set_cons_zero, List.set_cons_succ]
      refine wpAnyH_takeD (some 34) (i := 31) (v := ?_) rfl rfl (by kernel_rfl) (by kernel_rfl) (by kernel_rfl) (fun _ _ _ h => h) (.inl ⟨by kernel_rfl, ?_⟩) s3 ?_
      rotate_left
      · intro w' hw'; obtain ⟨hw1, hw2, hw3, hw4, hw5, hw6, hw7, hw8, hw9, hw10, hw11, hw12, hw13⟩ := hw'; go_simp; try with_reducible rfl
      try simp only [Act.put, List.setIfInBounds_toArray, List.set_cons_zero, List.set_cons_succ]
      refine wpAnyH_done (by kernel_rfl) ?_ _
      go_wp2_with fail
      go_ret
      exact ⟨rfl, hvs3.1⟩
theorem hasPreset_yes (b n cap : Nat) (zs : List Int) (v : Int) (w : World) (h : Stk w b zs) (hn : n = zs.length) (hv : okL zs = true) (hx : -1 ≤ v ∧ v < szL zs) :
    Calls Tryd.prog 72 #[.slice (some ⟨b, 0, none⟩) n cap, .int .i64 v] w (GivesB w (.bool true)) := by
  by_cases c : v = -1
  · subst c
    clear h hn hv hx
    go_enter Tryd.func72, Tryd.ntmps72
    go_wp2_with fail
    go_ret
    exact ⟨rfl, Below.refl _ _⟩
  · have e : (v == -1) = false := by simp [c]
    have H := hid (hasValue_yes b n cap zs v w h hn hv (by omega))
    clear h hn hv hx c
    go_enter Tryd.func72, Tryd.ntmps72
    go_wp2_with fail
    refine H.out.mono ?_
    rintro e w1 ⟨rfl, hB⟩
    go_wp2_with fail
    go_ret
    exact ⟨rfl, hB⟩
theorem hasPreset_no (b n cap : Nat) (zs : List Int) (v : Int) (w : World) (h : Stk w b zs) (hn : n = zs.length) (hv : okL zs = true) (hx : ¬ (-1 ≤ v ∧ v < szL zs)) :
    Calls Tryd.prog 72 #[.slice (some ⟨b, 0, none⟩) n cap, .int .i64 v] w (GivesB w (.bool false)) := by
  have hz := (okL_out hv).2.2.2.1
  have e : (v == -1) = false := by simp; omega
  have H := hid (hasValue_no b n cap zs v w h hn hv (by omega))
  clear h hn hv hx hz
  go_enter Tryd.func72, Tryd.ntmps72
  go_wp2_with fail
  refine H.out.mono ?_
  rintro e w1 ⟨rfl, hB⟩
  go_wp2_with fail
  go_ret
  exact ⟨rfl, hB⟩
set_option maxRecDepth 100000 in
theorem devValue_any (B n cap : Nat) (zs : List Int) (d0 d1 d2 d3 d4 d5 d6 d7 : Int) (pr : Int) (st : Bool) (tk : Int) (w : World) (hS : Stk w B zs) (hn : n = zs.length) (ho : Oct d0 d1 d2 d3 d4 d5 d6 d7) (hv : okV zs [d0, d1, d2, d3, d4, d5, d6, d7] = true) :
    Calls Tryd.prog 73 #[.agg #[.slice (some ⟨B, 0, none⟩) n cap, .int .u8 d0, .int .u8 d1, .int .u8 d2, .int .u8 d3, .int .u8 d4, .int .u8 d5, .int .u8 d6, .int .u8 d7, .int .i64 pr, .bool st, .int .i64 tk]] w (GivesB w (.int .i64 (valL zs [d0, d1, d2, d3, d4, d5, d6, d7] zs.length))) := by
  have bel := hid (boxD_bel w 33 #[.slice (some ⟨B, 0, none⟩) n cap, .int .u8 d0, .int .u8 d1, .int .u8 d2, .int .u8 d3, .int .u8 d4, .int .u8 d5, .int .u8 d6, .int .u8 d7, .int .i64 pr, .bool st, .int .i64 tk])
  have H := hid (value_any B n cap zs d0 d1 d2 d3 d4 d5 d6 d7 ho hv (by omega) _ (hS.below bel.out hS.1))
  rw [← hn]
  clear hS hn ho hv
  go_enter Tryd.func73, Tryd.ntmps73
  go_wp2_with fail
  refine H.out.mono ?_
  rintro e w1 ⟨rfl, hB⟩
  go_wp2_with fail
  go_ret
  exact ⟨rfl, bel.out.trans (hB.mono bel.out.size)⟩
set_option maxRecDepth 100000 in
set_option maxHeartbeats 4000000 in
theorem implValidDevice_any (B n cap : Nat) (zs : List Int) (d0 d1 d2 d3 d4 d5 d6 d7 : Int) (pr : Int) (st : Bool) (tk : Int) (w : World) (hS : Stk w B zs) (hn : n = zs.length) (ho : Oct d0 d1 d2 d3 d4 d5 d6 d7) :
    Calls Tryd.prog 58 #[.agg #[.slice (some ⟨B, 0, none⟩) n cap, .int .u8 d0, .int .u8 d1, .int .u8 d2, .int .u8 d3, .int .u8 d4, .int .u8 d5, .int .u8 d6, .int .u8 d7, .int .i64 pr, .bool st, .int .i64 tk]] w (GivesB w (.bool (okDev zs [d0, d1, d2, d3, d4, d5, d6, d7] pr st tk))) := by
  obtain ⟨W, hW⟩ : ∃ W, W = (w.alloc (.cells #[.slice (some ⟨B, 0, none⟩) n cap, .int .u8 d0, .int .u8 d1, .int .u8 d2, .int .u8 d3, .int .u8 d4, .int .u8 d5, .int .u8 d6, .int .u8 d7, .int .i64 pr, .bool st, .int .i64 tk] 33)) := ⟨_, rfl⟩
  have bel : Below w.heap.size w W := by rw [hW]; exact boxD_bel _ _ _
  have r0 : Row W w.heap.size 33 [.slice (some ⟨B, 0, none⟩) n cap, .int .u8 d0, .int .u8 d1, .int .u8 d2, .int .u8 d3, .int .u8 d4, .int .u8 d5, .int .u8 d6, .int .u8 d7, .int .i64 pr, .bool st, .int .i64 tk] := by rw [hW]; exact Row.new _ _ _
  have hK := hS.below bel hS.1
  have c0 := r0.cell 0; have c1 := r0.cell 1; have c2 := r0.cell 2; have c3 := r0.cell 3; have c4 := r0.cell 4; have c5 := r0.cell 5; have c6 := r0.cell 6; have c7 := r0.cell 7; have c8 := r0.cell 8; have c9 := r0.cell 9; have c10 := r0.cell 10; have c11 := r0.cell 11
  simp only [List.getElem?_cons_zero, List.getElem?_cons_succ] at c0 c1 c2 c3 c4 c5 c6 c7 c8 c9 c10 c11
  have HV := hid (validDigits_any B n cap zs d0 d1 d2 d3 d4 d5 d6 d7 W hK hn ho)
  have RC := hid (fun (v : World) (hB : Below W.heap.size W v) => (heldDev r0 hB).2)
  have HD := hid (fun (v : World) (hB : Below W.heap.size W v) => heldDev r0 hB.drew)
  have HP := hid (fun h0 h (v : World) (hB : Below W.heap.size W v) => hasPreset_yes B n cap zs pr v (hK.below hB hK.1) hn h0 h)
  have HX := hid (fun h0 h (v : World) (hB : Below W.heap.size W v) => hasPreset_no B n cap zs pr v (hK.below hB hK.1) hn h0 h)
  have HL := hid (fun hv (w' : World) (h : (fun w' : World => Below W.heap.size W w' ∧ w'.cell? ⟨w.heap.size, 0, none⟩ = some (.slice (some ⟨B, 0, none⟩) n cap) ∧ w'.cell? ⟨w.heap.size, 1, none⟩ = some (.int .u8 d0) ∧ w'.cell? ⟨w.heap.size, 2, none⟩ = some (.int .u8 d1) ∧ w'.cell? ⟨w.heap.size, 3, none⟩ = some (.int .u8 d2) ∧ w'.cell? ⟨w.heap.size, 4, none⟩ = some (.int .u8 d3) ∧ w'.cell? ⟨w.heap.size, 5, none⟩ = some (.int .u8 d4) ∧ w'.cell? ⟨w.heap.size, 6, none⟩ = some (.int .u8 d5) ∧ w'.cell? ⟨w.heap.size, 7, none⟩ = some (.int .u8 d6) ∧ w'.cell? ⟨w.heap.size, 8, none⟩ = some (.int .u8 d7) ∧ w'.cell? ⟨w.heap.size, 9, none⟩ = some (.int .i64 pr) ∧ w'.cell? ⟨w.heap.size, 10, none⟩ = some (.bool st) ∧ w'.cell? ⟨w.heap.size, 11, none⟩ = some (.int .i64 tk)) w') => (devValue_any B n cap zs d0 d1 d2 d3 d4 d5 d6 d7 pr st tk w' (hK.below h.1 hK.1) hn ho hv).mono fun e w'' ⟨he, hB⟩ => And.intro (show e = Ending.returned (.int .i64 (valL zs [d0, d1, d2, d3, d4, d5, d6, d7] zs.length)) from he) (heldDev r0 (h.1.trans (hB.mono h.1.size))))
  have BE := hid bel
  have HW := hid hW
  clear bel hW hK hS hn r0 ho
  cases hv : okV zs [d0, d1, d2, d3, d4, d5, d6, d7] with
  | false =>
    rw [okDev_digits hv]
    rw [hv] at HV
    clear hv
    go_enter Tryd.func58, Tryd.ntmps58
    go_wp2_with fail
    rw [← HW.out]
    refine HV.out.mono ?_
    rintro e w1 ⟨rfl, hB⟩
    go_wp2_with fail
    go_ret
    exact ⟨rfl, BE.out.trans (hB.mono BE.out.size)⟩
  | true =>
    rw [hv] at HV
    have hzz := (okV_out hv).1
    have HP := hid (HP.out hzz)
    have HX := hid (HX.out hzz)
    have HL := hid (HL.out hv)
    by_cases cc1 : -1 ≤ pr ∧ pr < szL zs
    · have HP := hid (HP.out cc1)
      by_cases t1 : tk < 0
      · rw [okDev_tickets (by omega)]
        have q1 : decide (tk < 0) = true := decide_eq_true t1
        clear hv hzz cc1 c0 c1 c2 c3 c4 c5 c6 c7 c8 c9 c10 c11
        go_enter Tryd.func58, Tryd.ntmps58
        go_wp2_with fail
        rw [← HW.out]
        refine HV.out.mono ?_
        rintro e w1 ⟨rfl, hB1⟩
        have hc := RC.out _ hB1
        have hz1 := hB1.size
        obtain ⟨c0, c1, c2, c3, c4, c5, c6, c7, c8, c9, c10, c11⟩ := hc
        go_wp2_with fail
        refine (HP.out _ hB1).mono ?_
        rintro e w2 ⟨rfl, hB2⟩
        have hb := hB1.trans (hB2.mono hz1)
        clear c0 c1 c2 c3 c4 c5 c6 c7 c8 c9 c10 c11
        obtain ⟨c0, c1, c2, c3, c4, c5, c6, c7, c8, c9, c10, c11⟩ := RC.out _ hb
        go_wp2_with fail
        go_ret
        exact ⟨rfl, BE.out.trans (hb.mono BE.out.size)⟩
      · have q1 : decide (tk < 0) = false := decide_eq_false t1
        by_cases t2 : 1000000 < tk
        · rw [okDev_tickets (by omega)]
          have q2 : decide (1000000 < tk) = true := decide_eq_true t2
          clear hv hzz cc1 c0 c1 c2 c3 c4 c5 c6 c7 c8 c9 c10 c11
          go_enter Tryd.func58, Tryd.ntmps58
          go_wp2_with fail
          rw [← HW.out]
          refine HV.out.mono ?_
          rintro e w1 ⟨rfl, hB1⟩
          have hz1 := hB1.size
          obtain ⟨c0, c1, c2, c3, c4, c5, c6, c7, c8, c9, c10, c11⟩ := RC.out _ hB1
          go_wp2_with fail
          refine (HP.out _ hB1).mono ?_
          rintro e w2 ⟨rfl, hB2⟩
          have hb := hB1.trans (hB2.mono hz1)
          clear c0 c1 c2 c3 c4 c5 c6 c7 c8 c9 c10 c11
          obtain ⟨c0, c1, c2, c3, c4, c5, c6, c7, c8, c9, c10, c11⟩ := RC.out _ hb
          go_wp2_with fail
          go_ret
          exact ⟨rfl, BE.out.trans (hb.mono BE.out.size)⟩
        · have q2 : decide (1000000 < tk) = false := decide_eq_false t2
          rw [okDev_rest hv cc1 ⟨by omega, by omega⟩]
          obtain ⟨l, hl⟩ : ∃ l, valL zs [d0, d1, d2, d3, d4, d5, d6, d7] zs.length = l := ⟨_, rfl⟩
          rw [hl] at HL ⊢
          clear hv hzz cc1 c0 c1 c2 c3 c4 c5 c6 c7 c8 c9 c10 c11 hl
          cases st
          · go_enter Tryd.func58, Tryd.ntmps58
            go_wp2_with fail
            rw [← HW.out]
            refine HV.out.mono ?_
            rintro e w1 ⟨rfl, hB1⟩
            have hz1 := hB1.size
            obtain ⟨c0, c1, c2, c3, c4, c5, c6, c7, c8, c9, c10, c11⟩ := RC.out _ hB1
            go_wp2_with fail
            refine (HP.out _ hB1).mono ?_
            rintro e w2 ⟨rfl, hB2⟩
            have hb := hB1.trans (hB2.mono hz1)
            clear c0 c1 c2 c3 c4 c5 c6 c7 c8 c9 c10 c11
            obtain ⟨c0, c1, c2, c3, c4, c5, c6, c7, c8, c9, c10, c11⟩ := RC.out _ hb
            go_wp2_with fail
            clear c0 c1 c2 c3 c4 c5 c6 c7 c8 c9 c10 c11
            have HS0 := hid (HD.out _ hb)
            refine wp_region_held (S := (fun w' : World => Below W.heap.size W w' ∧ w'.cell? ⟨w.heap.size, 0, none⟩ = some (.slice (some ⟨B, 0, none⟩) n cap) ∧ w'.cell? ⟨w.heap.size, 1, none⟩ = some (.int .u8 d0) ∧ w'.cell? ⟨w.heap.size, 2, none⟩ = some (.int .u8 d1) ∧ w'.cell? ⟨w.heap.size, 3, none⟩ = some (.int .u8 d2) ∧ w'.cell? ⟨w.heap.size, 4, none⟩ = some (.int .u8 d3) ∧ w'.cell? ⟨w.heap.size, 5, none⟩ = some (.int .u8 d4) ∧ w'.cell? ⟨w.heap.size, 6, none⟩ = some (.int .u8 d5) ∧ w'.cell? ⟨w.heap.size, 7, none⟩ = some (.int .u8 d6) ∧ w'.cell? ⟨w.heap.size, 8, none⟩ = some (.int .u8 d7) ∧ w'.cell? ⟨w.heap.size, 9, none⟩ = some (.int .i64 pr) ∧ w'.cell? ⟨w.heap.size, 10, none⟩ = some (.bool false) ∧ w'.cell? ⟨w.heap.size, 11, none⟩ = some (.int .i64 tk))) (by kernel_rfl) ?_
            change wpAnyH _ _ _ _ _ _ _ _ (World.drew _)
            have t0 : ((fun w' : World => Below W.heap.size W w' ∧ w'.cell? ⟨w.heap.size, 0, none⟩ = some (.slice (some ⟨B, 0, none⟩) n cap) ∧ w'.cell? ⟨w.heap.size, 1, none⟩ = some (.int .u8 d0) ∧ w'.cell? ⟨w.heap.size, 2, none⟩ = some (.int .u8 d1) ∧ w'.cell? ⟨w.heap.size, 3, none⟩ = some (.int .u8 d2) ∧ w'.cell? ⟨w.heap.size, 4, none⟩ = some (.int .u8 d3) ∧ w'.cell? ⟨w.heap.size, 5, none⟩ = some (.int .u8 d4) ∧ w'.cell? ⟨w.heap.size, 6, none⟩ = some (.int .u8 d5) ∧ w'.cell? ⟨w.heap.size, 7, none⟩ = some (.int .u8 d6) ∧ w'.cell? ⟨w.heap.size, 8, none⟩ = some (.int .u8 d7) ∧ w'.cell? ⟨w.heap.size, 9, none⟩ = some (.int .i64 pr) ∧ w'.cell? ⟨w.heap.size, 10, none⟩ = some (.bool false) ∧ w'.cell? ⟨w.heap.size, 11, none⟩ = some (.int .i64 tk))) _ := HS0.out
            refine wpAnyH_takeD (some 27) (i := 0) (v := ?_) rfl rfl (by kernel_rfl) (by kernel_rfl) (by kernel_rfl) (fun _ _ _ h => h) (.inl ⟨by kernel_rfl, ?_⟩) t0 ?_
            rotate_left
            · intro w' hw'; obtain ⟨hw1, hw2, hw3, hw4, hw5, hw6, hw7, hw8, hw9, hw10, hw11, hw12, hw13⟩ := hw'; go_simp; try with_reducible rfl
            try simp only [Act.put, List.setIfInBounds_toArray, List.set_cons_zero, List.set_cons_succ]
            refine wpAnyH_takeD (some 28) (i := 1) (v := ?_) rfl rfl (by kernel_rfl) (by kernel_rfl) (by kernel_rfl) (fun _ _ _ h => h) (.inl ⟨by kernel_rfl, ?_⟩) t0 ?_
            rotate_left
            · intro w' hw'; obtain ⟨hw1, hw2, hw3, hw4, hw5, hw6, hw7, hw8, hw9, hw10, hw11, hw12, hw13⟩ := hw'; go_simp; try with_reducible rfl
            try simp only [Act.put, List.setIfInBounds_toArray, List.set_cons_zero, List.set_cons_succ]
            refine wpAnyH_takeD (some 29) (i := 2) (v := ?_) rfl rfl (by kernel_rfl) (by kernel_rfl) (by kernel_rfl) (fun _ _ _ h => h) (.inl ⟨by kernel_rfl, ?_⟩) t0 ?_
            rotate_left
            · intro w' hw'; obtain ⟨hw1, hw2, hw3, hw4, hw5, hw6, hw7, hw8, hw9, hw10, hw11, hw12, hw13⟩ := hw'; go_simp; try with_reducible rfl
            try simp only [Act.put, List.setIfInBounds_toArray, List.set_cons_zero, List.set_cons_succ]
            refine wpAnyH_takeD (some 30) (i := 3) (v := ?_) rfl rfl (by kernel_rfl) (by kernel_rfl) (by kernel_rfl) (fun _ _ _ h => h) (.inl ⟨by kernel_rfl, ?_⟩) t0 ?_
            rotate_left
            · intro w' hw'; obtain ⟨hw1, hw2, hw3, hw4, hw5, hw6, hw7, hw8, hw9, hw10, hw11, hw12, hw13⟩ := hw'; go_simp; try with_reducible rfl
            try simp only [Act.put, List.setIfInBounds_toArray, List.set_cons_zero, List.set_cons_succ]
            refine wpAnyH_takeD (some 31) (i := 4) (v := undef) rfl rfl (by kernel_rfl) (by kernel_rfl) (by kernel_rfl) (fun _ _ _ h => h) (.inr ⟨by kernel_rfl, rfl⟩) t0 ?_
            try simp only [Act.put, List.setIfInBounds_toArray, List.set_cons_zero, List.set_cons_succ]
            refine wpAnyH_takeD (some 32) (i := 5) (v := undef) rfl rfl (by kernel_rfl) (by kernel_rfl) (by kernel_rfl) (fun _ _ _ h => h) (.inr ⟨by kernel_rfl, rfl⟩) t0 ?_
            try simp only [Act.put, List.setIfInBounds_toArray, List.set_cons_zero, List.set_cons_succ]
            refine wpAnyH_takeD (some 33) (i := 6) (v := undef) rfl rfl (by kernel_rfl) (by kernel_rfl) (by kernel_rfl) (fun _ _ _ h => h) (.inr ⟨by kernel_rfl, rfl⟩) t0 ?_
            try simp only [Act.put, List.setIfInBounds_toArray, List.set_cons_zero, List.set_cons_succ]
            refine wpAnyH_takeD (some 34) (i := 7) (v := undef) rfl rfl (by kernel_rfl) (by kernel_rfl) (by kernel_rfl) (fun _ _ _ h => h) (.inr ⟨by kernel_rfl, rfl⟩) t0 ?_
            try simp only [Act.put, List.setIfInBounds_toArray, List.set_cons_zero, List.set_cons_succ]
            refine wpAnyH_takeD (some 35) (i := 8) (v := undef) rfl rfl (by kernel_rfl) (by kernel_rfl) (by kernel_rfl) (fun _ _ _ h => h) (.inr ⟨by kernel_rfl, rfl⟩) t0 ?_
            try simp only [Act.put, List.setIfInBounds_toArray, List.set_cons_zero, List.set_cons_succ]
            refine wpAnyH_takeD (some 36) (i := 9) (v := ?_) rfl rfl (by kernel_rfl) (by kernel_rfl) (by kernel_rfl) (fun _ _ _ h => h) (.inl ⟨by kernel_rfl, ?_⟩) t0 ?_
            rotate_left
            · intro w' hw'; obtain ⟨hw1, hw2, hw3, hw4, hw5, hw6, hw7, hw8, hw9, hw10, hw11, hw12, hw13⟩ := hw'; go_simp; try with_reducible rfl
            try simp only [Act.put, List.setIfInBounds_toArray, List.set_cons_zero, List.set_cons_succ]
            refine wpAnyH_takeD (some 2) (i := 10) (v := ?_) rfl rfl (by kernel_rfl) (by kernel_rfl) (by kernel_rfl) (fun _ _ _ h => h) (.inl ⟨by kernel_rfl, ?_⟩) t0 ?_
            rotate_left
            · intro w' hw'; obtain ⟨hw1, hw2, hw3, hw4, hw5, hw6, hw7, hw8, hw9, hw10, hw11, hw12, hw13⟩ := hw'; go_simp; try with_reducible rfl
            try simp only [Act.put, List.setIfInBounds_toArray, List.set_cons_zero, List.set_cons_succ]
            refine wpAnyH_done (by kernel_rfl) ?_ _
            go_wp2_with fail
            go_ret
            exact ⟨rfl, BE.out.trans (t0.1.mono BE.out.size)⟩
          · go_enter Tryd.func58, Tryd.ntmps58
            go_wp2_with fail
            rw [← HW.out]
            refine HV.out.mono ?_
            rintro e w1 ⟨rfl, hB1⟩
            have hz1 := hB1.size
            obtain ⟨c0, c1, c2, c3, c4, c5, c6, c7, c8, c9, c10, c11⟩ := RC.out _ hB1
            go_wp2_with fail
            refine (HP.out _ hB1).mono ?_
            rintro e w2 ⟨rfl, hB2⟩
            have hb := hB1.trans (hB2.mono hz1)
            clear c0 c1 c2 c3 c4 c5 c6 c7 c8 c9 c10 c11
            obtain ⟨c0, c1, c2, c3, c4, c5, c6, c7, c8, c9, c10, c11⟩ := RC.out _ hb
            go_wp2_with fail
            clear c0 c1 c2 c3 c4 c5 c6 c7 c8 c9 c10 c11
            have HS0 := hid (HD.out _ hb)
            refine wp_region_held (S := (fun w' : World => Below W.heap.size W w' ∧ w'.cell? ⟨w.heap.size, 0, none⟩ = some (.slice (some ⟨B, 0, none⟩) n cap) ∧ w'.cell? ⟨w.heap.size, 1, none⟩ = some (.int .u8 d0) ∧ w'.cell? ⟨w.heap.size, 2, none⟩ = some (.int .u8 d1) ∧ w'.cell? ⟨w.heap.size, 3, none⟩ = some (.int .u8 d2) ∧ w'.cell? ⟨w.heap.size, 4, none⟩ = some (.int .u8 d3) ∧ w'.cell? ⟨w.heap.size, 5, none⟩ = some (.int .u8 d4) ∧ w'.cell? ⟨w.heap.size, 6, none⟩ = some (.int .u8 d5) ∧ w'.cell? ⟨w.heap.size, 7, none⟩ = some (.int .u8 d6) ∧ w'.cell? ⟨w.heap.size, 8, none⟩ = some (.int .u8 d7) ∧ w'.cell? ⟨w.heap.size, 9, none⟩ = some (.int .i64 pr) ∧ w'.cell? ⟨w.heap.size, 10, none⟩ = some (.bool true) ∧ w'.cell? ⟨w.heap.size, 11, none⟩ = some (.int .i64 tk))) (by kernel_rfl) ?_
            change wpAnyH _ _ _ _ _ _ _ _ (World.drew _)
            have t0 : ((fun w' : World => Below W.heap.size W w' ∧ w'.cell? ⟨w.heap.size, 0, none⟩ = some (.slice (some ⟨B, 0, none⟩) n cap) ∧ w'.cell? ⟨w.heap.size, 1, none⟩ = some (.int .u8 d0) ∧ w'.cell? ⟨w.heap.size, 2, none⟩ = some (.int .u8 d1) ∧ w'.cell? ⟨w.heap.size, 3, none⟩ = some (.int .u8 d2) ∧ w'.cell? ⟨w.heap.size, 4, none⟩ = some (.int .u8 d3) ∧ w'.cell? ⟨w.heap.size, 5, none⟩ = some (.int .u8 d4) ∧ w'.cell? ⟨w.heap.size, 6, none⟩ = some (.int .u8 d5) ∧ w'.cell? ⟨w.heap.size, 7, none⟩ = some (.int .u8 d6) ∧ w'.cell? ⟨w.heap.size, 8, none⟩ = some (.int .u8 d7) ∧ w'.cell? ⟨w.heap.size, 9, none⟩ = some (.int .i64 pr) ∧ w'.cell? ⟨w.heap.size, 10, none⟩ = some (.bool true) ∧ w'.cell? ⟨w.heap.size, 11, none⟩ = some (.int .i64 tk))) _ := HS0.out
            refine wpAnyH_takeD (some 27) (i := 0) (v := ?_) rfl rfl (by kernel_rfl) (by kernel_rfl) (by kernel_rfl) (fun _ _ _ h => h) (.inl ⟨by kernel_rfl, ?_⟩) t0 ?_
            rotate_left
            · intro w' hw'; obtain ⟨hw1, hw2, hw3, hw4, hw5, hw6, hw7, hw8, hw9, hw10, hw11, hw12, hw13⟩ := hw'; go_simp; try with_reducible rfl
            try simp only [Act.put, List.setIfInBounds_toArray, List.set_cons_zero, List.set_cons_succ]
            refine wpAnyH_takeD (some 28) (i := 1) (v := ?_) rfl rfl (by kernel_rfl) (by kernel_rfl) (by kernel_rfl) (fun _ _ _ h => h) (.inl ⟨by kernel_rfl, ?_⟩) t0 ?_
            rotate_left
            · intro w' hw'; obtain ⟨hw1, hw2, hw3, hw4, hw5, hw6, hw7, hw8, hw9, hw10, hw11, hw12, hw13⟩ := hw'; go_simp; try with_reducible rfl
            try simp only [Act.put, List.setIfInBounds_toArray, List.set_cons_zero, List.set_cons_succ]
            refine wpAnyH_takeD (some 29) (i := 2) (v := ?_) rfl rfl (by kernel_rfl) (by kernel_rfl) (by kernel_rfl) (fun _ _ _ h => h) (.inl ⟨by kernel_rfl, ?_⟩) t0 ?_
            rotate_left
            · intro w' hw'; obtain ⟨hw1, hw2, hw3, hw4, hw5, hw6, hw7, hw8, hw9, hw10, hw11, hw12, hw13⟩ := hw'; go_simp; try with_reducible rfl
            try simp only [Act.put, List.setIfInBounds_toArray, List.set_cons_zero, List.set_cons_succ]
            refine wpAnyH_takeD (some 30) (i := 3) (v := ?_) rfl rfl (by kernel_rfl) (by kernel_rfl) (by kernel_rfl) (fun _ _ _ h => h) (.inl ⟨by kernel_rfl, ?_⟩) t0 ?_
            rotate_left
            · intro w' hw'; obtain ⟨hw1, hw2, hw3, hw4, hw5, hw6, hw7, hw8, hw9, hw10, hw11, hw12, hw13⟩ := hw'; go_simp; try with_reducible rfl
            try simp only [Act.put, List.setIfInBounds_toArray, List.set_cons_zero, List.set_cons_succ]
            refine wpAnyH_takeD (some 31) (i := 4) (v := ?_) rfl rfl (by kernel_rfl) (by kernel_rfl) (by kernel_rfl) (fun _ _ _ h => h) (.inl ⟨by kernel_rfl, ?_⟩) t0 ?_
            rotate_left
            · intro w' hw'; obtain ⟨hw1, hw2, hw3, hw4, hw5, hw6, hw7, hw8, hw9, hw10, hw11, hw12, hw13⟩ := hw'; go_simp; try with_reducible rfl
            try simp only [Act.put, List.setIfInBounds_toArray, List.set_cons_zero, List.set_cons_succ]
            refine wpAnyH_takeD (some 32) (i := 5) (v := ?_) rfl rfl (by kernel_rfl) (by kernel_rfl) (by kernel_rfl) (fun _ _ _ h => h) (.inl ⟨by kernel_rfl, ?_⟩) t0 ?_
            rotate_left
            · intro w' hw'; obtain ⟨hw1, hw2, hw3, hw4, hw5, hw6, hw7, hw8, hw9, hw10, hw11, hw12, hw13⟩ := hw'; go_simp; try with_reducible rfl
            try simp only [Act.put, List.setIfInBounds_toArray, List.set_cons_zero, List.set_cons_succ]
            refine wpAnyH_takeD (some 33) (i := 6) (v := ?_) rfl rfl (by kernel_rfl) (by kernel_rfl) (by kernel_rfl) (fun _ _ _ h => h) (.inl ⟨by kernel_rfl, ?_⟩) t0 ?_
            rotate_left
            · intro w' hw'; obtain ⟨hw1, hw2, hw3, hw4, hw5, hw6, hw7, hw8, hw9, hw10, hw11, hw12, hw13⟩ := hw'; go_simp; try with_reducible rfl
            try simp only [Act.put, List.setIfInBounds_toArray, List.set_cons_zero, List.set_cons_succ]
            refine wpAnyH_all (rs := [7]) (by kernel_rfl) (by simp) ?_
            intro i hi; simp only [List.mem_singleton] at hi; subst hi
            refine wpOp_step rfl (fun K hK => ?_)
            go_simp
            with_reducible refine (HL.out _ t0).mono ?_
            rintro e vt1 ⟨rfl, hvt1⟩
            have t1 := hvt1
            refine hK _ _ ⟨t1, ?_⟩
            try simp only [Act.put, List.setIfInBounds_toArray, List.set_cons_zero, List.set_cons_succ]
            refine wpAnyH_takeD (some 35) (i := 8) (v := ?_) rfl rfl (by kernel_rfl) (by kernel_rfl) (by kernel_rfl) (fun _ _ _ h => h) (.inl ⟨by kernel_rfl, ?_⟩) t1 ?_
            rotate_left
            · intro w' hw'; obtain ⟨hw1, hw2, hw3, hw4, hw5, hw6, hw7, hw8, hw9, hw10, hw11, hw12, hw13⟩ := hw'; go_simp; try with_reducible rfl
            try simp only [Act.put, List.setIfInBounds_toArray, List.set_cons_zero, List.set_cons_succ]
            refine wpAnyH_takeD (some 36) (i := 9) (v := ?_) rfl rfl (by kernel_rfl) (by kernel_rfl) (by kernel_rfl) (fun _ _ _ h => h) (.inl ⟨by kernel_rfl, ?_⟩) t1 ?_
            rotate_left
            · intro w' hw'; obtain ⟨hw1, hw2, hw3, hw4, hw5, hw6, hw7, hw8, hw9, hw10, hw11, hw12, hw13⟩ := hw'; go_simp; try with_reducible rfl
            try simp only [Act.put, List.setIfInBounds_toArray, List.set_cons_zero, List.set_cons_succ]
            refine wpAnyH_takeD (some 2) (i := 10) (v := ?_) rfl rfl (by kernel_rfl) (by kernel_rfl) (by kernel_rfl) (fun _ _ _ h => h) (.inl ⟨by kernel_rfl, ?_⟩) t1 ?_
            rotate_left
            · intro w' hw'; obtain ⟨hw1, hw2, hw3, hw4, hw5, hw6, hw7, hw8, hw9, hw10, hw11, hw12, hw13⟩ := hw'; go_simp; try with_reducible rfl
            try simp only [Act.put, List.setIfInBounds_toArray, List.set_cons_zero, List.set_cons_succ]
            refine wpAnyH_done (by kernel_rfl) ?_ _
            go_wp2_with fail
            go_ret
            exact ⟨rfl, BE.out.trans (t1.1.mono BE.out.size)⟩
    · rw [okDev_preset cc1]
      have HX := hid (HX.out cc1)
      clear hv hzz cc1 c0 c1 c2 c3 c4 c5 c6 c7 c8 c9 c10 c11
      go_enter Tryd.func58, Tryd.ntmps58
      go_wp2_with fail
      rw [← HW.out]
      refine HV.out.mono ?_
      rintro e w1 ⟨rfl, hB1⟩
      have hz1 := hB1.size
      obtain ⟨c0, c1, c2, c3, c4, c5, c6, c7, c8, c9, c10, c11⟩ := RC.out _ hB1
      go_wp2_with fail
      refine (HX.out _ hB1).mono ?_
      rintro e w2 ⟨rfl, hB2⟩
      have hb := hB1.trans (hB2.mono hz1)
      clear c0 c1 c2 c3 c4 c5 c6 c7 c8 c9 c10 c11
      go_wp2_with fail
      go_ret
      exact ⟨rfl, BE.out.trans (hb.mono BE.out.size)⟩
end Go.Proofs.YthifegbmpmialaaDoor

namespace Go.Proofs.YthifegbmpmialaaDoor
open Go.RowKit
theorem ediv_neg_of (m c : Int) (hc : 1 ≤ c) : (-m) / c = if m % c = 0 then -(m / c) else -(m / c) - 1 := by
  have hm := Int.emod_add_mul_ediv m c
  have h0 := Int.emod_nonneg m (show c ≠ 0 by omega)
  have h1 := Int.emod_lt_of_pos m (show 0 < c by omega)
  split
  · next h =>
    exact ((Int.ediv_emod_unique (r := 0) (show 0 < c by omega)).2 ⟨by rw [Int.mul_neg]; omega, Int.le_refl _, by omega⟩).1
  · next h =>
    exact ((Int.ediv_emod_unique (r := c - m % c) (show 0 < c by omega)).2 ⟨by rw [Int.mul_sub, Int.mul_neg]; omega, by omega, by omega⟩).1

theorem floorDiv_any (a c : Int) (ha : -1000000000000000000 ≤ a ∧ a ≤ 1000000000000000000) (hc : 1 ≤ c ∧ c ≤ 10000000000000000) (w : World) :
    Calls Tryd.prog 136 #[.int .i64 a, .int .i64 c] w fun e w' => e = .returned (.int .i64 (a / c)) ∧ w = w' := by
  have hc0 : c ≠ 0 := by omega
  by_cases h0 : 0 ≤ a
  · have e1 : a.tmod c = a % c := Int.tmod_eq_emod_of_nonneg h0
    have e2 : a.tdiv c = a / c := Int.tdiv_eq_ediv_of_nonneg h0
    have m0 := Int.emod_nonneg a hc0
    have m1 := Int.emod_lt_of_pos a (show 0 < c by omega)
    have q0 := Int.ediv_nonneg h0 (show 0 ≤ c by omega)
    have q1 := Int.ediv_le_self c h0
    obtain ⟨r, hr⟩ : ∃ r, r = a % c := ⟨_, rfl⟩
    obtain ⟨q, hq⟩ : ∃ q, q = a / c := ⟨_, rfl⟩
    rw [← hr] at e1 m0 m1
    rw [← hq] at e2 q0 q1
    rw [← hq]
    have d1 : decide (r < 0) = false := by simp; omega
    replace e1 := e1
    clear hr hq h0
    go_enter Tryd.func136, Tryd.ntmps136
    go_wp2_with fail
    go_ret
    exact ⟨rfl, rfl⟩
  · obtain ⟨m, rfl⟩ : ∃ m, a = -m := ⟨-a, by omega⟩
    have hm : 0 ≤ m := by omega
    have e1 : (-m).tmod c = -(m % c) := by rw [Int.neg_tmod, Int.tmod_eq_emod_of_nonneg hm]
    have e2 : (-m).tdiv c = -(m / c) := by rw [Int.neg_tdiv, Int.tdiv_eq_ediv_of_nonneg hm]
    have e3 := ediv_neg_of m c hc.1
    have m0 := Int.emod_nonneg m hc0
    have m1 := Int.emod_lt_of_pos m (show 0 < c by omega)
    have q0 := Int.ediv_nonneg hm (show 0 ≤ c by omega)
    have q1 := Int.ediv_le_self c hm
    obtain ⟨r, hr⟩ : ∃ r, r = m % c := ⟨_, rfl⟩
    obtain ⟨q, hq⟩ : ∃ q, q = m / c := ⟨_, rfl⟩
    rw [← hr] at e1 e3 m0 m1
    rw [← hq] at e2 e3 q0 q1
    obtain ⟨a, hA⟩ : ∃ a, a = -m := ⟨_, rfl⟩
    rw [← hA] at e1 e2 e3 ha
    rw [← hA, e3]
    by_cases hz : r = 0
    · subst hz
      simp only [if_true]
      simp only [Int.neg_zero] at e1
      have d1 : decide ((0 : Int) < 0) = false := rfl
      have q2 : -1000000000000000000 ≤ -q ∧ -q ≤ 0 := by omega
      clear e3 hr hq hA h0 q0 q1
      generalize -q = q' at e2 q2 ⊢
      go_enter Tryd.func136, Tryd.ntmps136
      go_wp2_with fail
      go_ret
      exact ⟨rfl, rfl⟩
    · rw [if_neg hz]
      have d0 : -10000000000000000 ≤ -r ∧ -r < 0 := by omega
      have q2 : -1000000000000000000 ≤ -q ∧ -q ≤ 0 := by omega
      clear e3 hr hq hA h0 hz q0 q1 m0 m1
      generalize -q = q' at e2 q2 ⊢
      generalize -r = r' at e1 d0
      have d1 : decide (r' < 0) = true := by simp; omega
      go_enter Tryd.func136, Tryd.ntmps136
      go_wp2_with fail
      go_ret
      exact ⟨rfl, rfl⟩

theorem floorMod_any (a c : Int) (ha : -1000000000000000000 ≤ a ∧ a ≤ 1000000000000000000) (hc : 1 ≤ c ∧ c ≤ 10000000000000000) (w : World) :
    Calls Tryd.prog 134 #[.int .i64 a, .int .i64 c] w fun e w' => e = .returned (.int .i64 (a % c)) ∧ w = w' := by
  have hX := hid (fun w => floorDiv_any a c ha hc w)
  have h0 := Int.emod_nonneg a (show c ≠ 0 by omega)
  have h1 := Int.emod_lt_of_pos a (show 0 < c by omega)
  have h2 := Int.emod_add_mul_ediv a c
  rw [Int.mul_comm] at h2
  obtain ⟨q, hq⟩ : ∃ q, q = a / c := ⟨_, rfl⟩
  obtain ⟨r, hr⟩ : ∃ r, r = a % c := ⟨_, rfl⟩
  rw [← hq] at hX h2
  rw [← hr] at h0 h1 h2
  rw [← hr]
  obtain ⟨g, hg⟩ : ∃ g, g = q * c := ⟨_, rfl⟩
  have hg2 : q * c = g := hg.symm
  rw [← hg] at h2
  have hg3 : -2000000000000000000 ≤ g ∧ g ≤ 1000000000000000000 := by omega
  have hg4 : a - g = r := by omega
  clear hq hr hg h2
  go_enter Tryd.func134, Tryd.ntmps134
  go_wp2_with (go_at_call 136; refine (hX.out _).mono ?_; rintro e w' ⟨rfl, rfl⟩)
  go_ret
  exact ⟨rfl, rfl⟩

end Go.Proofs.YthifegbmpmialaaDoor
