/- Texts of this seat, merged: Math VdM Base Floor Valid Places Open Digits Value Sizes Count LawsD Vals NextC. -/
import Derived.Below
import Derived.IntWalk
import Derived.Test.YtfifnngdmhdkiaaGreatDoorProg
import Derived.WalkKit
import Derived.WalkSpells
import Derived.WalkLawsBesides
import Derived.Deep.QuietTactic
import Derived.BigQuiet
import Derived.RangeFuncNested
import Derived.RangeFuncBound
import Derived.RangeFuncCalls
import Derived.RangeFuncLeaves
import Derived.RangeFuncBox
import Derived.Shelf.Abstract
import Derived.Shelf.RegionOpen
import Derived.OwnWalkIn
import Derived.TacticsInMore
import Derived.LoopNIn
import Derived.LoopIn
import Derived.ProofKit
import Derived.OpenShut
import Derived.ShutString
import Derived.ChangeOld
import Derived.JoinedOf
import Derived.KernelRfl
import Derived.Deep.RegionHeld3
namespace Go.Proofs.YtfifnngdmhdkiaaGreatDoor
open Go.RowKit

theorem hid {p : Prop} (h : p) : Hid p := h

/-- the product of all bases -/
def szL (zs : List Int) : Int := zs.foldl (· * ·) 1
def okL (zs : List Int) : Bool := decide (1 ≤ zs.length ∧ zs.length ≤ 8 ∧ (∀ z ∈ zs, 2 ≤ z ∧ z ≤ 100) ∧ szL zs ≤ 1000000000000)

theorem szL_nil : szL [] = 1 := rfl
theorem szL_snoc (zs : List Int) (z : Int) : szL (zs ++ [z]) = szL zs * z := by simp [szL]
theorem take_snoc' (zs : List Int) (k : Nat) (h : k < zs.length) : zs.take (k + 1) = zs.take k ++ [zs[k]?.getD 0] := by
  rw [List.take_succ_eq_append_getElem h]; simp [h]
theorem szL_take (zs : List Int) (k : Nat) (h : k < zs.length) : szL (zs.take (k + 1)) = szL (zs.take k) * (zs[k]?.getD 0) := by
  rw [take_snoc' zs k h, szL_snoc]
/-- each of the first k bases lies within its bounds -/
def inB (zs : List Int) (k : Nat) : Prop := ∀ j, j < k → 2 ≤ zs[j]?.getD 0 ∧ zs[j]?.getD 0 ≤ 100
theorem inB_zero (zs : List Int) : inB zs 0 := fun j h => by omega
theorem inB_succ {zs : List Int} {k : Nat} (h : inB zs k) (h2 : 2 ≤ zs[k]?.getD 0) (h3 : zs[k]?.getD 0 ≤ 100) : inB zs (k + 1) := fun j hj => by
  by_cases e : j = k
  · subst e; exact ⟨h2, h3⟩
  · exact h j (by omega)
theorem inB_mem {zs : List Int} (h : inB zs zs.length) : ∀ z ∈ zs, 2 ≤ z ∧ z ≤ 100 := fun z hz => by
  obtain ⟨j, hj, rfl⟩ := List.mem_iff_getElem.1 hz
  have := h j hj
  simpa [hj] using this
theorem mem_inB {zs : List Int} (h : ∀ z ∈ zs, 2 ≤ z ∧ z ≤ 100) (k : Nat) (hk : k ≤ zs.length) : inB zs k := fun j hj => by
  have hj' : j < zs.length := by omega
  have := h zs[j] (List.getElem_mem hj')
  simpa [hj'] using this
theorem pow_bd : ∀ (k : Nat), k ≤ 8 → (100 : Int) ^ k ≤ 10000000000000000
  | 0, _ => by decide
  | 1, _ => by decide
  | 2, _ => by decide
  | 3, _ => by decide
  | 4, _ => by decide
  | 5, _ => by decide
  | 6, _ => by decide
  | 7, _ => by decide
  | 8, _ => by decide
  | n + 9, h => by omega
theorem szL_bd (zs : List Int) : ∀ (k : Nat), k ≤ zs.length → inB zs k → 1 ≤ szL (zs.take k) ∧ szL (zs.take k) ≤ 100 ^ k
  | 0, _, _ => by simp [szL]
  | k + 1, hk, h => by
    have ih := szL_bd zs k (by omega) (fun j hj => h j (by omega))
    have hz := h k (by omega)
    rw [szL_take zs k (by omega)]
    obtain ⟨p, hp⟩ : ∃ p, p = szL (zs.take k) := ⟨_, rfl⟩
    obtain ⟨z, hz'⟩ : ∃ z, z = zs[k]?.getD 0 := ⟨_, rfl⟩
    rw [← hp] at ih; rw [← hz'] at hz; rw [← hp, ← hz']
    refine ⟨?_, ?_⟩
    · have : 1 * 1 ≤ p * z := Int.mul_le_mul ih.1 (by omega) (by omega) (by omega)
      omega
    · rw [Int.pow_succ]
      exact Int.mul_le_mul ih.2 hz.2 (by omega) (by have := ih.1; omega)
theorem szL_mono (zs : List Int) (k : Nat) (hk : k < zs.length) (h : inB zs (k + 1)) : 2 * szL (zs.take k) ≤ szL (zs.take (k + 1)) := by
  have ih := szL_bd zs k (by omega) (fun j hj => h j (by omega))
  rw [szL_take zs k hk]
  have hz := h k (by omega)
  have : szL (zs.take k) * 2 ≤ szL (zs.take k) * zs[k]?.getD 0 := Int.mul_le_mul_of_nonneg_left hz.1 (by omega)
  omega
/-- the bounds of a product that the walk wants -/
theorem szL_step (zs : List Int) (k : Nat) (hk : k < zs.length) (h8 : zs.length ≤ 8) (h : inB zs (k + 1)) :
    1 ≤ szL (zs.take k) ∧ szL (zs.take k) ≤ 10000000000000000 ∧ 1 ≤ szL (zs.take k) * zs[k]?.getD 0 ∧ szL (zs.take k) * zs[k]?.getD 0 ≤ 10000000000000000 := by
  have a := szL_bd zs k (by omega) (fun j hj => h j (by omega))
  have b := szL_bd zs (k + 1) (by omega) h
  rw [szL_take zs k hk] at b
  have p1 := pow_bd k (by omega)
  have p2 := pow_bd (k + 1) (by omega)
  exact ⟨a.1, Int.le_trans a.2 p1, b.1, Int.le_trans b.2 p2⟩
theorem okL_len0 (zs : List Int) (h : zs.length < 1) : okL zs = false := by simp [okL]; omega
theorem okL_len9 (zs : List Int) (h : 8 < zs.length) : okL zs = false := by simp [okL]; omega
theorem okL_low (zs : List Int) (k : Nat) (hk : k < zs.length) (h : zs[k]?.getD 0 < 2) : okL zs = false := by
  simp only [okL, decide_eq_false_iff_not, not_and]
  intro _ _ hall
  have := hall zs[k] (List.getElem_mem hk)
  simp [hk] at h
  omega
theorem okL_high (zs : List Int) (k : Nat) (hk : k < zs.length) (h : 100 < zs[k]?.getD 0) : okL zs = false := by
  simp only [okL, decide_eq_false_iff_not, not_and]
  intro _ _ hall
  have := hall zs[k] (List.getElem_mem hk)
  simp [hk] at h
  omega
theorem okL_end (zs : List Int) (h1 : 1 ≤ zs.length) (h8 : zs.length ≤ 8) (h : inB zs zs.length) : okL zs = decide (szL zs ≤ 1000000000000) := by
  simp only [okL]
  have := inB_mem h
  by_cases hs : szL zs ≤ 1000000000000
  · simp only [hs, decide_true, decide_eq_true_eq]; exact ⟨h1, h8, this, trivial⟩
  · simp [hs]
/-- what okL says -/
theorem okL_out {zs : List Int} (h : okL zs = true) : 1 ≤ zs.length ∧ zs.length ≤ 8 ∧ inB zs zs.length ∧ 1 ≤ szL zs ∧ szL zs ≤ 1000000000000 := by
  simp only [okL, decide_eq_true_eq] at h
  obtain ⟨h1, h8, hall, hs⟩ := h
  have hi := mem_inB hall zs.length (Nat.le_refl _)
  have := szL_bd zs zs.length (Nat.le_refl _) hi
  rw [List.take_length] at this
  exact ⟨h1, h8, hi, this.1, hs⟩

/-! ### digits: a list of eight numbers -/
/-- the digits of the wheels are less than their bases, all others are 0 -/
def okTo (zs ds : List Int) (k : Nat) : Prop := ∀ j, j < k → (j < zs.length → ds[j]?.getD 0 < zs[j]?.getD 0) ∧ (zs.length ≤ j → ds[j]?.getD 0 = 0)
def okD (zs ds : List Int) : Bool := (List.range 8).all fun j => if j < zs.length then decide (ds[j]?.getD 0 < zs[j]?.getD 0) else decide (ds[j]?.getD 0 = 0)
def okV (zs ds : List Int) : Bool := okL zs && okD zs ds
theorem okTo_zero (zs ds : List Int) : okTo zs ds 0 := fun j h => by omega
theorem okTo_low {zs ds : List Int} {k : Nat} (h : okTo zs ds k) (hk : k < zs.length) (e : ds[k]?.getD 0 < zs[k]?.getD 0) : okTo zs ds (k + 1) := fun j hj => by
  by_cases h' : j = k
  · subst h'; exact ⟨fun _ => e, fun h2 => by omega⟩
  · exact h j (by omega)
theorem okTo_high {zs ds : List Int} {k : Nat} (h : okTo zs ds k) (hk : zs.length ≤ k) (e : ds[k]?.getD 0 = 0) : okTo zs ds (k + 1) := fun j hj => by
  by_cases h' : j = k
  · subst h'; exact ⟨fun _ => by omega, fun _ => e⟩
  · exact h j (by omega)
theorem okD_of {zs ds : List Int} (h : okTo zs ds 8) : okD zs ds = true := by
  simp only [okD, List.all_eq_true, List.mem_range]
  intro j hj
  have := h j hj
  split
  · simp [this.1 (by assumption)]
  · simp [this.2 (by omega)]
theorem okD_out {zs ds : List Int} (h : okD zs ds = true) : okTo zs ds 8 := by
  simp only [okD, List.all_eq_true, List.mem_range] at h
  intro j hj
  have := h j hj
  by_cases h' : j < zs.length
  · rw [if_pos h'] at this
    exact ⟨fun _ => by simpa using this, fun h2 => by omega⟩
  · rw [if_neg h'] at this
    exact ⟨fun h2 => absurd h2 h', fun _ => by simpa using this⟩
theorem okD_low {zs ds : List Int} (k : Nat) (hk : k < 8) (hz : k < zs.length) (e : zs[k]?.getD 0 ≤ ds[k]?.getD 0) : okD zs ds = false := by
  cases h : okD zs ds with
  | false => rfl
  | true => have := (okD_out h k hk).1 hz; omega
theorem okD_high {zs ds : List Int} (k : Nat) (hk : k < 8) (hz : zs.length ≤ k) (e : ds[k]?.getD 0 ≠ 0) : okD zs ds = false := by
  cases h : okD zs ds with
  | false => rfl
  | true => have := (okD_out h k hk).2 hz; exact absurd this e
theorem okV_no {zs ds : List Int} (h : okL zs = false) : okV zs ds = false := by simp [okV, h]
theorem okV_yes {zs ds : List Int} (h : okL zs = true) : okV zs ds = okD zs ds := by simp [okV, h]
theorem okV_out {zs ds : List Int} (h : okV zs ds = true) : okL zs = true ∧ okD zs ds = true := by simpa [okV] using h

/-! ### values -/
def valL (zs ds : List Int) : Nat → Int
  | 0 => 0
  | k + 1 => valL zs ds k + ds[k]?.getD 0 * szL (zs.take k)
/-- the digits of the first k wheels are less than their bases -/
def ltTo (zs ds : List Int) (k : Nat) : Prop := ∀ j, j < k → 0 ≤ ds[j]?.getD 0 ∧ ds[j]?.getD 0 < zs[j]?.getD 0
theorem valL_bd (zs ds : List Int) : ∀ k, k ≤ zs.length → inB zs k → ltTo zs ds k → 0 ≤ valL zs ds k ∧ valL zs ds k < szL (zs.take k)
  | 0, _, _, _ => by simp [valL, szL]
  | k + 1, hk, hi, hl => by
    have ih := valL_bd zs ds k (by omega) (fun j hj => hi j (by omega)) (fun j hj => hl j (by omega))
    have hs := (szL_bd zs k (by omega) (fun j hj => hi j (by omega))).1
    have hd := hl k (by omega)
    rw [szL_take zs k (by omega)]
    simp only [valL]
    obtain ⟨p, hp⟩ : ∃ p, p = szL (zs.take k) := ⟨_, rfl⟩
    obtain ⟨z, hz⟩ : ∃ z, z = zs[k]?.getD 0 := ⟨_, rfl⟩
    obtain ⟨d, hd'⟩ : ∃ d, d = ds[k]?.getD 0 := ⟨_, rfl⟩
    rw [← hp] at ih hs; rw [← hz, ← hd'] at hd; rw [← hp, ← hz, ← hd']
    have h1 : 0 ≤ d * p := Int.mul_nonneg hd.1 (by omega)
    have h2 : (d + 1) * p ≤ z * p := Int.mul_le_mul_of_nonneg_right (by omega) (by omega)
    rw [Int.add_mul, Int.one_mul] at h2
    rw [Int.mul_comm p z]
    omega
/-- the bounds that a sum over the places wants -/
theorem valL_step (zs ds : List Int) (k : Nat) (hk : k < zs.length) (h8 : zs.length ≤ 8) (hi : inB zs (k + 1)) (hl : ltTo zs ds (k + 1)) :
    0 ≤ ds[k]?.getD 0 * szL (zs.take k) ∧ ds[k]?.getD 0 * szL (zs.take k) ≤ 10000000000000000 ∧ 0 ≤ valL zs ds k ∧ valL zs ds k ≤ 10000000000000000 ∧ valL zs ds (k + 1) ≤ 10000000000000000 := by
  have a := valL_bd zs ds k (by omega) (fun j hj => hi j (by omega)) (fun j hj => hl j (by omega))
  have b := valL_bd zs ds (k + 1) (by omega) hi hl
  have c := szL_step zs k hk h8 hi
  rw [szL_take zs k hk] at b
  have hs := (szL_bd zs k (by omega) (fun j hj => hi j (by omega))).1
  have h1 : 0 ≤ ds[k]?.getD 0 * szL (zs.take k) := Int.mul_nonneg (hl k (by omega)).1 (by omega)
  have e : valL zs ds (k + 1) = valL zs ds k + ds[k]?.getD 0 * szL (zs.take k) := rfl
  omega
/-- the sum that a walk over the wheels comes to, wraps and all -/
def vfold {n : Nat} (zs ds : List Int) (pre : List (Fin n)) : Int := pre.foldl (fun s x => wrap64 (s + ds[x.1]?.getD 0 * szL (zs.take x.1))) 0
theorem vfold_snoc {n : Nat} (zs ds : List Int) (pre : List (Fin n)) (x : Fin n) : vfold zs ds (pre ++ [x]) = wrap64 (vfold zs ds pre + ds[x.1]?.getD 0 * szL (zs.take x.1)) := by simp [vfold]
theorem finTake_succ (n k : Nat) (hk : k < n) : (List.finRange n).take (k + 1) = (List.finRange n).take k ++ [⟨k, hk⟩] := by
  rw [List.take_succ_eq_append_getElem (by simpa using hk)]
  simp
theorem finTake_length (n k : Nat) (hk : k ≤ n) : ((List.finRange n).take k).length = k := by simp [hk]
theorem finTake_all (n : Nat) : (List.finRange n).take n = List.finRange n := List.take_of_length_le (by simp)
theorem vfold_take {n : Nat} (zs ds : List Int) (hn : n ≤ zs.length) (h8 : zs.length ≤ 8) (hi : inB zs n) (hl : ltTo zs ds n) : ∀ k, k ≤ n → vfold zs ds ((List.finRange n).take k) = valL zs ds k
  | 0, _ => rfl
  | k + 1, hk => by
    rw [finTake_succ n k (by omega), vfold_snoc, vfold_take zs ds hn h8 hi hl k (by omega)]
    have b := valL_step zs ds k (by omega) h8 (fun j hj => hi j (by omega)) (fun j hj => hl j (by omega))
    show wrap64 (valL zs ds k + ds[k]?.getD 0 * szL (zs.take k)) = valL zs ds (k + 1)
    have e : valL zs ds (k + 1) = valL zs ds k + ds[k]?.getD 0 * szL (zs.take k) := rfl
    rw [e]
    exact IntWalk.wrap64_in _ ⟨by omega, by omega⟩
theorem vfold_all {n : Nat} (zs ds : List Int) (hn : n ≤ zs.length) (h8 : zs.length ≤ 8) (hi : inB zs n) (hl : ltTo zs ds n) : vfold zs ds (List.finRange n) = valL zs ds n := by
  have := vfold_take zs ds hn h8 hi hl n (Nat.le_refl _)
  rwa [finTake_all] at this
theorem okD_lt {zs ds : List Int} (h : okD zs ds = true) (h8 : zs.length ≤ 8) (hd : ∀ j, j < 8 → 0 ≤ ds[j]?.getD 0) : ltTo zs ds zs.length := fun j hj =>
  ⟨hd j (by omega), (okD_out h j (by omega)).1 hj⟩

/-! ### the digits of a value -/
def dgL (zs : List Int) (v : Int) : List Int := (List.range 8).map fun k => if k < zs.length then v / szL (zs.take k) % zs[k]?.getD 0 else 0
theorem dgL_get (zs : List Int) (v : Int) (k : Nat) (hk : k < 8) : (dgL zs v)[k]?.getD 0 = if k < zs.length then v / szL (zs.take k) % zs[k]?.getD 0 else 0 := by simp [dgL, hk]
theorem dgL_len (zs : List Int) (v : Int) : (dgL zs v).length = 8 := by simp [dgL]
theorem dgL_bd (zs : List Int) (v : Int) (hz : inB zs zs.length) (k : Nat) (hk : k < 8) : 0 ≤ (dgL zs v)[k]?.getD 0 ∧ (dgL zs v)[k]?.getD 0 ≤ 99 := by
  rw [dgL_get zs v k hk]
  split
  · have := hz k (by assumption)
    have h1 := Int.emod_nonneg (v / szL (zs.take k)) (show zs[k]?.getD 0 ≠ 0 by omega)
    have h2 := Int.emod_lt_of_pos (v / szL (zs.take k)) (show 0 < zs[k]?.getD 0 by omega)
    omega
  · omega
theorem dgL_okD (zs : List Int) (v : Int) (hz : inB zs zs.length) : okD zs (dgL zs v) = true := okD_of fun k hk => by
  rw [dgL_get zs v k hk]
  refine ⟨fun h => ?_, fun h => by rw [if_neg (by omega)]⟩
  rw [if_pos h]
  have := hz k h
  exact Int.emod_lt_of_pos _ (by omega)

/-! ### writing the digits, wheel by wheel -/
def dg (l : List Int) (i : Nat) : Int := l[i]?.getD 0
def zero8 : List Value := [.int .u8 0, .int .u8 0, .int .u8 0, .int .u8 0, .int .u8 0, .int .u8 0, .int .u8 0, .int .u8 0]
def dset (zs : List Int) (v : Int) (l : List Value) (k : Nat) : List Value := l.set k (.int .u8 (v / szL (zs.take k) % zs[k]?.getD 0))
def dfold {n : Nat} (zs : List Int) (v : Int) (pre : List (Fin n)) : List Value := pre.foldl (fun l x => dset zs v l x.1) zero8
theorem dfold_snoc {n : Nat} (zs : List Int) (v : Int) (pre : List (Fin n)) (x : Fin n) : dfold zs v (pre ++ [x]) = (dfold zs v pre).set x.1 (.int .u8 (v / szL (zs.take x.1) % zs[x.1]?.getD 0)) := by simp [dfold, dset]
theorem dfold_len {n : Nat} (zs : List Int) (v : Int) (pre : List (Fin n)) : (dfold zs v pre).length = 8 := by
  have key : ∀ (pre : List (Fin n)) (l : List Value), l.length = 8 → (pre.foldl (fun l x => dset zs v l x.1) l).length = 8 := by
    intro pre
    induction pre with
    | nil => intro l h; exact h
    | cons x xs ih => intro l h; exact ih _ (by simp [dset, h])
  exact key pre zero8 rfl
/-- what k wheels have made -/
def dto (zs : List Int) (v : Int) (k : Nat) : List Value := (List.range 8).map fun j => .int .u8 (if j < k then v / szL (zs.take j) % zs[j]?.getD 0 else 0)
theorem dto_succ (zs : List Int) (v : Int) (k : Nat) (hk : k < 8) : (dto zs v k).set k (.int .u8 (v / szL (zs.take k) % zs[k]?.getD 0)) = dto zs v (k + 1) := by
  apply List.ext_getElem?
  intro j
  simp only [dto, List.getElem?_set, List.getElem?_map, List.length_map, List.length_range]
  by_cases hj : k = j
  · subst hj
    simp [hk]
  · rw [if_neg hj]
    by_cases h8 : j < 8
    · simp only [List.getElem?_range h8, Option.map_some]
      by_cases h : j < k
      · rw [if_pos h, if_pos (by omega)]
      · rw [if_neg h, if_neg (by omega)]
    · simp [List.getElem?_eq_none (show (List.range 8).length ≤ j by simp; omega)]
theorem dto_zero (zs : List Int) (v : Int) : dto zs v 0 = zero8 := rfl
theorem dfold_take {n : Nat} (zs : List Int) (v : Int) (h8 : n ≤ 8) : ∀ k, k ≤ n → dfold zs v ((List.finRange n).take k) = dto zs v k
  | 0, _ => rfl
  | k + 1, hk => by
    rw [finTake_succ n k (by omega), dfold_snoc, dfold_take zs v h8 k (by omega)]
    exact dto_succ zs v k (by omega)
theorem dto_all (zs : List Int) (v : Int) : dto zs v zs.length = [.int .u8 (dg (dgL zs v) 0), .int .u8 (dg (dgL zs v) 1), .int .u8 (dg (dgL zs v) 2), .int .u8 (dg (dgL zs v) 3), .int .u8 (dg (dgL zs v) 4), .int .u8 (dg (dgL zs v) 5), .int .u8 (dg (dgL zs v) 6), .int .u8 (dg (dgL zs v) 7)] := by
  have e : ∀ k, k < 8 → dg (dgL zs v) k = if k < zs.length then v / szL (zs.take k) % zs[k]?.getD 0 else 0 := fun k hk => dgL_get zs v k hk
  rw [e 0 (by omega), e 1 (by omega), e 2 (by omega), e 3 (by omega), e 4 (by omega), e 5 (by omega), e 6 (by omega), e 7 (by omega)]
  rfl
theorem dfold_all {n : Nat} (zs : List Int) (v : Int) (hn : n = zs.length) (h8 : n ≤ 8) : dfold zs v (List.finRange n) = [.int .u8 (dg (dgL zs v) 0), .int .u8 (dg (dgL zs v) 1), .int .u8 (dg (dgL zs v) 2), .int .u8 (dg (dgL zs v) 3), .int .u8 (dg (dgL zs v) 4), .int .u8 (dg (dgL zs v) 5), .int .u8 (dg (dgL zs v) 6), .int .u8 (dg (dgL zs v) 7)] := by
  have := dfold_take zs v h8 n (Nat.le_refl _)
  rw [finTake_all] at this
  rw [this, hn, dto_all]
/-- a digit as the machine reckons it -/
theorem digit_raw (v p z : Int) (hv : 0 ≤ v) (hv2 : v ≤ 1000000000000) (hp : 1 ≤ p) (hz : 2 ≤ z) (hz2 : z ≤ 100) :
    IntKind.u8.wrap (IntKind.i64.wrap ((IntKind.i64.wrap (v.tdiv p)).tmod (IntKind.i64.wrap z))) = v / p % z := by
  have e1 : v.tdiv p = v / p := Int.tdiv_eq_ediv_of_nonneg hv
  have h0 : 0 ≤ v / p := Int.ediv_nonneg hv (by omega)
  have h1 : v / p ≤ v := Int.ediv_le_self _ hv
  rw [e1, IntWalk.i64_in (v / p) (by omega), IntWalk.i64_in z (by omega)]
  have e2 : (v / p).tmod z = v / p % z := Int.tmod_eq_emod_of_nonneg h0
  have h2 := Int.emod_nonneg (v / p) (show z ≠ 0 by omega)
  have h3 := Int.emod_lt_of_pos (v / p) (show 0 < z by omega)
  rw [e2, IntWalk.i64_in _ (by omega)]
  simp only [IntKind.wrap, IntKind.signed, IntKind.bits]
  simp
  omega
end Go.Proofs.YtfifnngdmhdkiaaGreatDoor
namespace Go.Proofs.YtfifnngdmhdkiaaGreatDoor
open Go.RowKit
set_option linter.unusedVariables false
set_option linter.unusedSimpArgs false
theorem szL_pos (zs : List Int) (k : Nat) (hk : k ≤ zs.length) (h : inB zs zs.length) : 1 ≤ szL (zs.take k) := (szL_bd zs k hk (fun j hj => h j (by omega))).1
theorem valL_lt' (zs ds : List Int) (h8 : zs.length ≤ 8) (hi : inB zs zs.length) (hl : ltTo zs ds zs.length) : ∀ k, k ≤ zs.length → 0 ≤ valL zs ds k ∧ valL zs ds k < szL (zs.take k)
  | 0, _ => ⟨Int.le_refl _, by rw [List.take_zero]; show (0 : Int) < 1; omega⟩
  | k + 1, hk => by
    have ih := valL_lt' zs ds h8 hi hl k (by omega)
    have a := hl k (by omega)
    have p := szL_pos zs k (by omega) hi
    rw [szL_take zs k (by omega)]
    show 0 ≤ valL zs ds k + ds[k]?.getD 0 * szL (zs.take k) ∧ valL zs ds k + ds[k]?.getD 0 * szL (zs.take k) < _
    obtain ⟨P, hP⟩ : ∃ P, szL (zs.take k) = P := ⟨_, rfl⟩
    obtain ⟨d, hd⟩ : ∃ d, ds[k]?.getD 0 = d := ⟨_, rfl⟩
    obtain ⟨z, hz⟩ : ∃ z, zs[k]?.getD 0 = z := ⟨_, rfl⟩
    rw [hP] at ih p ⊢
    rw [hd, hz] at a
    rw [hd, hz]
    have m1 : 0 ≤ d * P := Int.mul_nonneg a.1 (by omega)
    have m2 : (d + 1) * P ≤ z * P := Int.mul_le_mul_of_nonneg_right (by omega) (by omega)
    rw [Int.add_mul, Int.one_mul] at m2
    rw [Int.mul_comm P z]
    omega
theorem valL_digit (zs ds : List Int) (h8 : zs.length ≤ 8) (hi : inB zs zs.length) (hl : ltTo zs ds zs.length) (k : Nat) (hk : k < zs.length) : ∀ m, k + 1 ≤ m → m ≤ zs.length → valL zs ds m / szL (zs.take k) % zs[k]?.getD 0 = ds[k]?.getD 0 ∧ ∃ R, szL (zs.take m) = szL (zs.take k) * (zs[k]?.getD 0 * R) := by
  intro m
  induction m with
  | zero => intro h; omega
  | succ m ih =>
    intro h1 h2
    have p := szL_pos zs k (by omega) hi
    have z2 := hi k hk
    by_cases e : m = k
    · subst e
      have b := valL_lt' zs ds h8 hi hl m (by omega)
      have a := hl m hk
      refine ⟨?_, 1, by rw [szL_take zs m hk, Int.mul_one]⟩
      show (valL zs ds m + ds[m]?.getD 0 * szL (zs.take m)) / szL (zs.take m) % zs[m]?.getD 0 = ds[m]?.getD 0
      rw [Int.add_mul_ediv_right _ _ (by omega), Int.ediv_eq_zero_of_lt b.1 b.2, Int.zero_add, Int.emod_eq_of_lt a.1 a.2]
    · obtain ⟨e1, R, e2⟩ := ih (by omega) (by omega)
      refine ⟨?_, R * zs[m]?.getD 0, by rw [szL_take zs m (by omega), e2, Int.mul_assoc, Int.mul_assoc]⟩
      show (valL zs ds m + ds[m]?.getD 0 * szL (zs.take m)) / szL (zs.take k) % zs[k]?.getD 0 = ds[k]?.getD 0
      rw [e2, show ds[m]?.getD 0 * (szL (zs.take k) * (zs[k]?.getD 0 * R)) = (zs[k]?.getD 0 * (R * ds[m]?.getD 0)) * szL (zs.take k) by
        rw [Int.mul_comm (ds[m]?.getD 0), Int.mul_assoc, Int.mul_comm (szL (zs.take k)), Int.mul_assoc (zs[k]?.getD 0) R]]
      rw [Int.add_mul_ediv_right _ _ (by omega), Int.add_mul_emod_self_left]
      exact e1
/-- valid digits are those of their value -/
theorem dgL_val (zs ds : List Int) (h : okV zs ds = true) (h0 : ∀ j, j < 8 → 0 ≤ ds[j]?.getD 0) (hl : ds.length = 8) : dgL zs (valL zs ds zs.length) = ds := by
  obtain ⟨h1, h2⟩ := okV_out h
  obtain ⟨_, h8, hi, _, _⟩ := okL_out h1
  apply List.ext_getElem?
  intro j
  by_cases hj : j < 8
  · have e1 : (dgL zs (valL zs ds zs.length))[j]? = some ((dgL zs (valL zs ds zs.length))[j]?.getD 0) := by rw [List.getElem?_eq_getElem (by rw [dgL_len]; exact hj)]; rfl
    have e2 : ds[j]? = some (ds[j]?.getD 0) := by rw [List.getElem?_eq_getElem (by omega)]; rfl
    rw [e1, e2, dgL_get zs _ j hj]
    split
    · rw [(valL_digit zs ds h8 hi (okD_lt h2 h8 h0) j (by assumption) zs.length (by omega) (Nat.le_refl _)).1]
    · rw [(okD_out h2 j hj).2 (by omega)]
  · rw [List.getElem?_eq_none (by rw [dgL_len]; omega), List.getElem?_eq_none (by omega)]
theorem emod_step (v P z : Int) (hP : 1 ≤ P) (hz : 1 ≤ z) : v % P + v / P % z * P = v % (P * z) := by
  have e1 := Int.emod_add_mul_ediv v P
  have e2 := Int.emod_add_mul_ediv (v / P) z
  have a1 := Int.emod_nonneg v (show P ≠ 0 by omega)
  have a2 := Int.emod_lt_of_pos v (show 0 < P by omega)
  have b1 := Int.emod_nonneg (v / P) (show z ≠ 0 by omega)
  have b2 := Int.emod_lt_of_pos (v / P) (show 0 < z by omega)
  obtain ⟨r, hr⟩ : ∃ r, v % P = r := ⟨_, rfl⟩
  obtain ⟨q, hq⟩ : ∃ q, v / P = q := ⟨_, rfl⟩
  rw [hr, hq] at e1
  rw [hr] at a1 a2
  rw [hq] at e2 b1 b2
  rw [hr, hq]
  obtain ⟨s, hs⟩ : ∃ s, q % z = s := ⟨_, rfl⟩
  obtain ⟨t, ht⟩ : ∃ t, q / z = t := ⟨_, rfl⟩
  rw [hs, ht] at e2
  rw [hs] at b1 b2
  rw [hs]
  have e3 : v = (r + s * P) + P * z * t := by
    rw [← e1, ← e2, Int.mul_add, Int.mul_comm P s, Int.mul_assoc, Int.add_assoc]
  have m1 : 0 ≤ s * P := Int.mul_nonneg b1 (by omega)
  have m2 : (s + 1) * P ≤ z * P := Int.mul_le_mul_of_nonneg_right (by omega) (by omega)
  rw [Int.add_mul, Int.one_mul, Int.mul_comm z P] at m2
  rw [e3, Int.add_mul_emod_self_left, Int.emod_eq_of_lt (by omega) (by omega)]
theorem valL_dgL (zs : List Int) (v : Int) (h8 : zs.length ≤ 8) (hi : inB zs zs.length) : ∀ k, k ≤ zs.length → valL zs (dgL zs v) k = v % szL (zs.take k)
  | 0, _ => by
    rw [List.take_zero]
    show (0 : Int) = v % 1
    omega
  | k + 1, hk => by
    have ih := valL_dgL zs v h8 hi k (by omega)
    show valL zs (dgL zs v) k + (dgL zs v)[k]?.getD 0 * szL (zs.take k) = _
    rw [ih, dgL_get zs v k (by omega), if_pos (by omega), szL_take zs k (by omega)]
    exact emod_step v _ _ (szL_pos zs k (by omega) hi) (by have := hi k (by omega); omega)
theorem valL_of (zs : List Int) (v : Int) (h : okL zs = true) (hv : 0 ≤ v ∧ v < szL zs) : valL zs (dgL zs v) zs.length = v := by
  obtain ⟨_, h8, hi, _, _⟩ := okL_out h
  rw [valL_dgL zs v h8 hi zs.length (Nat.le_refl _), List.take_length, Int.emod_eq_of_lt hv.1 hv.2]
theorem okV_dgL (zs : List Int) (v : Int) (h : okL zs = true) : okV zs (dgL zs v) = true := by
  obtain ⟨_, h8, hi, _, _⟩ := okL_out h
  rw [okV, h, dgL_okD zs v hi]; rfl
end Go.Proofs.YtfifnngdmhdkiaaGreatDoor
namespace Go.Proofs.YtfifnngdmhdkiaaGreatDoor
open Go.RowKit
def Row (w : World) (g : Nat) (e : TypeId) (xs : List Value) : Prop := w.heap[g]? = some (.cells xs.toArray e (0, 0))
theorem Row.cell {w : World} {g : Nat} {e : TypeId} {xs : List Value} (h : Row w g e xs) (j : Nat) : w.cell? ⟨g, j, none⟩ = xs[j]? := by
  rw [cell_of_row w g j _ e (0, 0) h]; simp
theorem Row.frozen {w : World} {g : Nat} {e : TypeId} {xs : List Value} (h : Row w g e xs) (j : Nat) : w.frozen? ⟨g, j, none⟩ = false :=
  frozen_of_row w g j _ e h
theorem Row.lt {w : World} {g : Nat} {e : TypeId} {xs : List Value} (h : Row w g e xs) : g < w.heap.size := lt_of_block h
theorem Row.below {w w' : World} {g n : Nat} {e : TypeId} {xs : List Value} (h : Row w g e xs) (hb : Below n w w') (hn : g < n) : Row w' g e xs := (hb.block g hn).trans h
theorem Row.set {w : World} {g : Nat} {e : TypeId} {xs : List Value} (h : Row w g e xs) (j : Nat) (u : Value) : Row (w.setCell ⟨g, j, none⟩ u) g e (xs.set j u) := by
  have := heap_setCell_same w g j _ e u h
  simpa [Row] using this
theorem Row.alloc {w : World} {g : Nat} {e : TypeId} {xs : List Value} (h : Row w g e xs) (o : Obj) : Row (w.alloc o) g e xs :=
  (Below.heap_alloc w o g h.lt).trans h
theorem Row.other {w : World} {g : Nat} {e : TypeId} {xs : List Value} (h : Row w g e xs) {a : Addr} (ha : a.block ≠ g) (u : Value) : Row (w.setCell a u) g e xs :=
  (Below.heap_setCell w a u g (fun e => ha e.symm)).trans h
theorem Row.new (w : World) (e : TypeId) (xs : List Value) : Row (w.alloc (.cells xs.toArray e)) w.heap.size e xs := heap_alloc_new w _
theorem Row.of_owns {w : World} {base g n cap : Nat} {e : TypeId} {xs : List Value} (h : w.ownsRow base e 1 (.slice (some ⟨g, 0, none⟩) n cap) n xs) (hn : n = cap) : Row w g e xs := by
  subst hn
  rcases h.2 with ⟨h', _⟩ | ⟨g', cap', cur, h', hb, hg, hnc, hcm, hcs, htake⟩
  · simp at h'
  · simp only [Value.slice.injEq, Option.some.injEq, Addr.mk.injEq, and_true, true_and] at h'
    obtain ⟨rfl, rfl⟩ := h'
    unfold Row
    rw [hg, ← htake, List.take_of_length_le (by simp [hcs])]

theorem below_drewN {B : Nat} {a w : World} (h : Below B a w) (n : Nat) : Below B a (w.drewN n) := ⟨h.os, h.tape, h.output, h.size, h.block⟩
/-- A stack (a slice of bytes) holds the numbers zs from the head of block b on. -/
def Stk (w : World) (b : Nat) (zs : List Int) : Prop :=
  b < w.heap.size ∧ (∀ j, j < zs.length → w.cell? ⟨b, j, none⟩ = some (.int .u8 (zs[j]?.getD 0))) ∧ (∀ z ∈ zs, 0 ≤ z ∧ z ≤ 255) ∧ zs.length ≤ 1048576

theorem Stk.below {w w' : World} {b n : Nat} {zs : List Int} (h : Stk w b zs) (hb : Below n w w') (hn : b < n) : Stk w' b zs :=
  ⟨Nat.lt_of_lt_of_le h.1 hb.size, fun j hj => (hb.cell (p := ⟨b, j, none⟩) hn).trans (h.2.1 j hj), h.2.2.1, h.2.2.2⟩
theorem Row.stk {w : World} {g : Nat} {e : TypeId} {zs : List Int} (h : Row w g e (zs.map (Value.int .u8))) (hz : ∀ z ∈ zs, 0 ≤ z ∧ z ≤ 255) (hl : zs.length ≤ 1048576) : Stk w g zs :=
  ⟨h.lt, fun j hj => by rw [h.cell]; simp [hj], hz, hl⟩

theorem Tryz.infoU8 : (Tryz.prog.info? 5).map (fun i => (i.zero, i.size, i.bytes)) = some (some (.int .u8 0), 1, 1) := by kernel_rfl

/-- what k rounds of a copy have made of n zero bytes -/
def cpy (zs : List Int) (n k : Nat) : List Value := ((zs.take k) ++ List.replicate (n - k) 0).map (Value.int .u8)
theorem cpy_zero (zs : List Int) (n : Nat) : cpy zs n 0 = List.replicate n (Value.int .u8 0) := by simp [cpy]
theorem cpy_len (zs : List Int) (n k : Nat) (hk : k ≤ n) (hz : n ≤ zs.length) : (cpy zs n k).length = n := by simp [cpy]; omega
theorem cpy_set (zs : List Int) (n k : Nat) (hk : k < n) (hz : n ≤ zs.length) : (cpy zs n k).set k (.int .u8 (zs[k]?.getD 0)) = cpy zs n (k + 1) := by
  apply List.ext_getElem?
  intro j
  have h1 : k < zs.length := by omega
  simp only [cpy, List.getElem?_set, List.getElem?_map, List.length_map, List.getElem?_append, List.length_take, List.length_append, List.length_replicate, List.getElem?_take, List.getElem?_replicate]
  by_cases hj : k = j
  · subst hj
    simp [h1, show min k zs.length = k from by omega, show min (k+1) zs.length = k+1 from by omega]
    omega
  · rw [if_neg hj]
    simp only [show min k zs.length = k from by omega, show min (k+1) zs.length = k+1 from by omega]
    by_cases h2 : j < k
    · simp [h2, show j < k + 1 from by omega]
    · have h3 : ¬ j < k + 1 := by omega
      simp only [h2, h3, if_false]
      by_cases h4 : j < n
      · rw [if_pos (by omega), if_pos (by omega)]
      · rw [if_neg (by omega), if_neg (by omega)]
theorem cpy_all (zs : List Int) (n : Nat) : cpy zs n n = (zs.take n).map (Value.int .u8) := by simp [cpy]

end Go.Proofs.YtfifnngdmhdkiaaGreatDoor
namespace Go.Proofs.YtfifnngdmhdkiaaGreatDoor
open Go.RowKit
theorem ediv_neg_of (m c : Int) (hc : 1 ≤ c) : (-m) / c = if m % c = 0 then -(m / c) else -(m / c) - 1 := by
  have hm := Int.emod_add_mul_ediv m c
  have h0 := Int.emod_nonneg m (show c ≠ 0 by omega)
  have h1 := Int.emod_lt_of_pos m (show 0 < c by omega)
  split
  · next h =>
    exact ((Int.ediv_emod_unique (r := 0) (show 0 < c by omega)).2 ⟨by rw [Int.mul_neg]; omega, Int.le_refl _, by omega⟩).1
  · next h =>
    exact ((Int.ediv_emod_unique (r := c - m % c) (show 0 < c by omega)).2 ⟨by rw [Int.mul_sub, Int.mul_neg]; omega, by omega, by omega⟩).1

theorem floorDiv_any (a c : Int) (ha : -1000000000000000000 ≤ a ∧ a ≤ 1000000000000000000) (hc : 1 ≤ c ∧ c ≤ 10000000000000000) (w : World) :
    Calls Tryz.prog 80 #[.int .i64 a, .int .i64 c] w fun e w' => e = .returned (.int .i64 (a / c)) ∧ w = w' := by
  have hc0 : c ≠ 0 := by omega
  by_cases h0 : 0 ≤ a
  · have e1 : a.tmod c = a % c := Int.tmod_eq_emod_of_nonneg h0
    have e2 : a.tdiv c = a / c := Int.tdiv_eq_ediv_of_nonneg h0
    have m0 := Int.emod_nonneg a hc0
    have m1 := Int.emod_lt_of_pos a (show 0 < c by omega)
    have q0 := Int.ediv_nonneg h0 (show 0 ≤ c by omega)
    have q1 := Int.ediv_le_self c h0
    obtain ⟨r, hr⟩ : ∃ r, r = a % c := ⟨_, rfl⟩
    obtain ⟨q, hq⟩ : ∃ q, q = a / c := ⟨_, rfl⟩
    rw [← hr] at e1 m0 m1
    rw [← hq] at e2 q0 q1
    rw [← hq]
    have d1 : decide (r < 0) = false := by simp; omega
    replace e1 := e1
    clear hr hq h0
    go_enter Tryz.func80, Tryz.ntmps80
    go_wp2_with fail
    go_ret
    exact ⟨rfl, rfl⟩
  · obtain ⟨m, rfl⟩ : ∃ m, a = -m := ⟨-a, by omega⟩
    have hm : 0 ≤ m := by omega
    have e1 : (-m).tmod c = -(m % c) := by rw [Int.neg_tmod, Int.tmod_eq_emod_of_nonneg hm]
    have e2 : (-m).tdiv c = -(m / c) := by rw [Int.neg_tdiv, Int.tdiv_eq_ediv_of_nonneg hm]
    have e3 := ediv_neg_of m c hc.1
    have m0 := Int.emod_nonneg m hc0
    have m1 := Int.emod_lt_of_pos m (show 0 < c by omega)
    have q0 := Int.ediv_nonneg hm (show 0 ≤ c by omega)
    have q1 := Int.ediv_le_self c hm
    obtain ⟨r, hr⟩ : ∃ r, r = m % c := ⟨_, rfl⟩
    obtain ⟨q, hq⟩ : ∃ q, q = m / c := ⟨_, rfl⟩
    rw [← hr] at e1 e3 m0 m1
    rw [← hq] at e2 e3 q0 q1
    obtain ⟨a, hA⟩ : ∃ a, a = -m := ⟨_, rfl⟩
    rw [← hA] at e1 e2 e3 ha
    rw [← hA, e3]
    by_cases hz : r = 0
    · subst hz
      simp only [if_true]
      simp only [Int.neg_zero] at e1
      have d1 : decide ((0 : Int) < 0) = false := rfl
      have q2 : -1000000000000000000 ≤ -q ∧ -q ≤ 0 := by omega
      clear e3 hr hq hA h0 q0 q1
      generalize -q = q' at e2 q2 ⊢
      go_enter Tryz.func80, Tryz.ntmps80
      go_wp2_with fail
      go_ret
      exact ⟨rfl, rfl⟩
    · rw [if_neg hz]
      have d0 : -10000000000000000 ≤ -r ∧ -r < 0 := by omega
      have q2 : -1000000000000000000 ≤ -q ∧ -q ≤ 0 := by omega
      clear e3 hr hq hA h0 hz q0 q1 m0 m1
      generalize -q = q' at e2 q2 ⊢
      generalize -r = r' at e1 d0
      have d1 : decide (r' < 0) = true := by simp; omega
      go_enter Tryz.func80, Tryz.ntmps80
      go_wp2_with fail
      go_ret
      exact ⟨rfl, rfl⟩

theorem floorMod_any (a c : Int) (ha : -1000000000000000000 ≤ a ∧ a ≤ 1000000000000000000) (hc : 1 ≤ c ∧ c ≤ 10000000000000000) (w : World) :
    Calls Tryz.prog 79 #[.int .i64 a, .int .i64 c] w fun e w' => e = .returned (.int .i64 (a % c)) ∧ w = w' := by
  have hX := hid (fun w => floorDiv_any a c ha hc w)
  have h0 := Int.emod_nonneg a (show c ≠ 0 by omega)
  have h1 := Int.emod_lt_of_pos a (show 0 < c by omega)
  have h2 := Int.emod_add_mul_ediv a c
  rw [Int.mul_comm] at h2
  obtain ⟨q, hq⟩ : ∃ q, q = a / c := ⟨_, rfl⟩
  obtain ⟨r, hr⟩ : ∃ r, r = a % c := ⟨_, rfl⟩
  rw [← hq] at hX h2
  rw [← hr] at h0 h1 h2
  rw [← hr]
  obtain ⟨g, hg⟩ : ∃ g, g = q * c := ⟨_, rfl⟩
  have hg2 : q * c = g := hg.symm
  rw [← hg] at h2
  have hg3 : -2000000000000000000 ≤ g ∧ g ≤ 1000000000000000000 := by omega
  have hg4 : a - g = r := by omega
  clear hq hr hg h2
  go_enter Tryz.func79, Tryz.ntmps79
  go_wp2_with (go_at_call 80; refine (hX.out _).mono ?_; rintro e w' ⟨rfl, rfl⟩)
  go_ret
  exact ⟨rfl, rfl⟩

end Go.Proofs.YtfifnngdmhdkiaaGreatDoor
namespace Go.Proofs.YtfifnngdmhdkiaaGreatDoor
open Go.RowKit
set_option maxHeartbeats 1000000 in
theorem validStack_any (b n cap : Nat) (zs : List Int) (w : World) (h : Stk w b zs) (hn : n = zs.length) :
    Calls Tryz.prog 17 #[.slice (some ⟨b, 0, none⟩) n cap] w fun e w' => e = .returned (.bool (okL zs)) ∧ w = w' := by
  have hC := hid h.2.1
  have hZ := hid h.2.2.1
  have hl := h.2.2.2
  rw [← hn] at hl
  have hN := hid hn
  clear h hn
  by_cases h1 : n < 1
  · have hf := hid (okL_len0 zs (by rw [← hN.out]; exact h1))
    go_enter Tryz.func17, Tryz.ntmps17
    go_wp2
    go_ret
    exact ⟨by rw [hf.out]; rfl, rfl⟩
  by_cases h8 : 8 < n
  · have hf := hid (okL_len9 zs (by rw [← hN.out]; exact h8))
    go_enter Tryz.func17, Tryz.ntmps17
    go_wp2
    go_ret
    exact ⟨by rw [hf.out]; rfl, rfl⟩
  go_enter Tryz.func17, Tryz.ntmps17
  go_wp2
  go_loop [3, 16] (fun s i => ∃ k : Nat, k ≤ n ∧ i = .int .i64 k ∧ s = .int .i64 (szL (zs.take k)) ∧ inB zs k) (fun _ i => n - (intOf i).toNat)
  case atStart => exact ⟨0, Nat.zero_le _, rfl, rfl, inB_zero _⟩
  case round =>
    obtain ⟨k, hk, rfl, rfl, hin⟩ := hrel
    by_cases hlt : k < n
    · have hltz : k < zs.length := by rw [← hN.out]; exact hlt
      have hx := hC.out k hltz
      have hzb := hZ.out (zs[k]?.getD 0) (by simp [hltz])
      have HL := okL_low zs k hltz
      have HH := okL_high zs k hltz
      have HS := fun a b => szL_step zs k hltz (by rw [← hN.out]; omega) (inB_succ hin a b)
      have HT := hid (szL_take zs k hltz)
      have HI := fun a b => inB_succ hin a b
      obtain ⟨p, hp⟩ : ∃ p, p = szL (zs.take k) := ⟨_, rfl⟩
      obtain ⟨z, hz⟩ : ∃ z, z = zs[k]?.getD 0 := ⟨_, rfl⟩
      rw [← hz] at hx hzb HL HH HS HI
      rw [← hp] at HS
      have HT' : Hid (szL (zs.take (k + 1)) = p * z) := by rw [HT.out, ← hp, ← hz]; exact hid rfl
      clear HT hin
      have hHI := hid HI; have hHS := hid HS; have hHL := hid HL; have hHH := hid HH
      clear HI HS HL HH
      rw [← hp]
      have hp' := hid hp; have hz' := hid hz
      clear hp hz
      by_cases h2 : z < 2
      · have hf := hid (hHL.out h2)
        go_wp2
        go_ret
        exact ⟨by rw [hf.out]; rfl, rfl⟩
      by_cases h3 : 100 < z
      · have hf := hid (hHH.out h3)
        go_wp2
        go_ret
        exact ⟨by rw [hf.out]; rfl, rfl⟩
      obtain ⟨s1, s2, s3, s4⟩ := hHS.out (by omega) (by omega)
      have hi := hHI.out (by omega) (by omega)
      have hHi := hid hi
      clear hi
      go_wp2
      go_round
      case rel => exact ⟨k + 1, by omega, by go_num, by rw [HT'.out], hHi.out⟩
      case measure => simp [intOf]; omega
    · obtain rfl : k = n := by omega
      have hf : okL zs = decide (szL zs ≤ 1000000000000) := okL_end zs (by rw [← hN.out]; omega) (by rw [← hN.out]; omega) (by rw [← hN.out]; exact hin)
      have hz : zs.take k = zs := by rw [hN.out, List.take_length]
      have hf' := hid hf
      clear hf
      rw [hz]
      clear hz hin
      go_wp2
      go_ret
      exact ⟨by rw [hf'.out]; rfl, rfl⟩
theorem inr_any (n lo hi : Int) (w : World) :
    Calls Tryz.prog 35 #[.int .i64 n, .int .i64 lo, .int .i64 hi] w fun e w' => e = .returned (.bool (decide (lo ≤ n) && decide (n ≤ hi))) ∧ w = w' := by
  by_cases h : lo ≤ n
  · have h1 : decide (lo ≤ n) = true := by simpa using h
    go_enter Tryz.func35, Tryz.ntmps35
    go_wp2
    go_ret
    exact ⟨by simp [h], rfl⟩
  · have h1 : decide (lo ≤ n) = false := by simpa using h
    go_enter Tryz.func35, Tryz.ntmps35
    go_wp2
    go_ret
    exact ⟨by simp, rfl⟩
/-- the two ways of l00In -/
theorem inr_yes (n lo hi : Int) (w : World) (h : lo ≤ n ∧ n ≤ hi) : Calls Tryz.prog 35 #[.int .i64 n, .int .i64 lo, .int .i64 hi] w fun e w' => e = .returned (.bool true) ∧ w = w' :=
  (inr_any n lo hi w).mono fun _ _ ⟨he, hw⟩ => ⟨by rw [he]; simp [h.1, h.2], hw⟩
theorem inr_no (n lo hi : Int) (w : World) (h : n < lo ∨ hi < n) : Calls Tryz.prog 35 #[.int .i64 n, .int .i64 lo, .int .i64 hi] w fun e w' => e = .returned (.bool false) ∧ w = w' :=
  (inr_any n lo hi w).mono fun _ _ ⟨he, hw⟩ => ⟨by
    rw [he]
    have : ¬ (lo ≤ n ∧ n ≤ hi) := by omega
    have h2 : (decide (lo ≤ n) && decide (n ≤ hi)) = false := by simpa using fun a => by omega
    rw [h2], hw⟩
theorem min_any (a b : Int) (w : World) :
    Calls Tryz.prog 51 #[.int .i64 a, .int .i64 b] w fun e w' => e = .returned (.int .i64 (min a b)) ∧ w = w' := by
  by_cases h : a < b
  · have hm := hid (show min a b = a from by omega)
    go_enter Tryz.func51, Tryz.ntmps51
    go_wp2
    go_ret
    exact ⟨by rw [hm.out]; rfl, rfl⟩
  · have hm := hid (show min a b = b from by omega)
    go_enter Tryz.func51, Tryz.ntmps51
    go_wp2
    go_ret
    exact ⟨by rw [hm.out]; rfl, rfl⟩

/-- spec.l01Size of the first n bases, each within its bounds: the product, or one more than MaxCount. -/
def szC (zs : List Int) : Int := min (szL zs) 1000000000001
theorem szC_take (zs : List Int) (k : Nat) (hk : k < zs.length) (h : inB zs (k + 1)) :
    min (szC (zs.take k) * (zs[k]?.getD 0)) 1000000000001 = szC (zs.take (k + 1)) := by
  unfold szC
  rw [szL_take zs k hk]
  have a := (szL_bd zs k (by omega) (fun j hj => h j (by omega))).1
  have hz := h k (by omega)
  obtain ⟨p, hp⟩ : ∃ p, p = szL (zs.take k) := ⟨_, rfl⟩
  obtain ⟨z, hz'⟩ : ∃ z, z = zs[k]?.getD 0 := ⟨_, rfl⟩
  rw [← hp] at a; rw [← hz'] at hz; rw [← hp, ← hz']
  by_cases c : p ≤ 1000000000001
  · rw [show min p 1000000000001 = p from by omega]
  · have h1 : 1000000000001 * 1 ≤ p * z := Int.mul_le_mul (by omega) (by omega) (by omega) (by omega)
    have h2 : 1000000000001 * 2 ≤ 1000000000001 * z := Int.mul_le_mul_of_nonneg_left hz.1 (by omega)
    rw [show min p 1000000000001 = 1000000000001 from by omega]
    omega
theorem szC_zero (zs : List Int) : szC (zs.take 0) = 1 := by
  show min (szL []) 1000000000001 = 1
  rw [szL_nil]; omega
theorem szC_bd (zs : List Int) (k : Nat) (hk : k ≤ zs.length) (h : inB zs k) : 1 ≤ szC (zs.take k) ∧ szC (zs.take k) ≤ 1000000000001 := by
  have a := (szL_bd zs k hk h).1
  unfold szC
  omega
set_option maxHeartbeats 1000000 in
theorem l01Size_any (b n cap : Nat) (zs : List Int) (w : World) (h : Stk w b zs) (hn : n ≤ zs.length) (hin : inB zs n) :
    Calls Tryz.prog 29 #[.slice (some ⟨b, 0, none⟩) n cap] w fun e w' => e = .returned (.int .i64 (szC (zs.take n))) ∧ w = w' := by
  have hC := hid h.2.1
  have hl := Nat.le_trans hn h.2.2.2
  have hI := hid hin
  clear h hin
  go_enter Tryz.func29, Tryz.ntmps29
  go_wp2
  go_loop [3, 4] (fun s i => ∃ k : Nat, k ≤ n ∧ i = .int .i64 k ∧ s = .int .i64 (szC (zs.take k))) (fun _ i => n - (intOf i).toNat)
  case atStart => exact ⟨0, Nat.zero_le _, rfl, by rw [szC_zero]⟩
  case round =>
    obtain ⟨k, hk, rfl, rfl⟩ := hrel
    by_cases hlt : k < n
    · have hx := hC.out k (by omega)
      have hzb := hI.out k hlt
      have hb := szC_bd zs k (by omega) (fun j hj => hI.out j (by omega))
      have HT := hid (szC_take zs k (by omega) (fun j hj => hI.out j (by omega)))
      obtain ⟨p, hp⟩ : ∃ p, p = szC (zs.take k) := ⟨_, rfl⟩
      obtain ⟨z, hz⟩ : ∃ z, z = zs[k]?.getD 0 := ⟨_, rfl⟩
      rw [← hz] at hx hzb HT
      rw [← hp] at hb HT
      rw [← hp]
      have hp' := hid hp; have hz' := hid hz
      clear hp hz
      have s1 : p * z ≤ 100000000000100 := by
        have : p * z ≤ 1000000000001 * 100 := Int.mul_le_mul hb.2 hzb.2 (by omega) (by omega)
        omega
      have s2 : 0 ≤ p * z := Int.mul_nonneg (by omega) (by omega)
      go_wp2_with (go_at_call 51; refine (min_any _ _ _).mono ?_; rintro e w' ⟨rfl, rfl⟩)
      go_round
      case rel => exact ⟨k + 1, by omega, by go_num, by rw [← HT.out]⟩
      case measure => simp [intOf]; omega
    · obtain rfl : k = n := by omega
      go_wp2
      go_ret
      exact ⟨rfl, rfl⟩
theorem szC_ok (zs : List Int) : decide (szC zs ≤ 1000000000000) = decide (szL zs ≤ 1000000000000) := by
  by_cases c : szL zs ≤ 1000000000000
  · simp [c, show szC zs ≤ 1000000000000 from by unfold szC; omega]
  · simp [c, show ¬ szC zs ≤ 1000000000000 from by unfold szC; omega]
set_option maxHeartbeats 1000000 in
theorem l01Ok_any (b n cap : Nat) (zs : List Int) (w : World) (h : Stk w b zs) (hn : n = zs.length) :
    Calls Tryz.prog 34 #[.slice (some ⟨b, 0, none⟩) n cap] w fun e w' => e = .returned (.bool (okL zs)) ∧ w = w' := by
  have hS := hid h
  have hC := hid h.2.1
  have hZ := hid h.2.2.1
  have hl := h.2.2.2
  rw [← hn] at hl
  have hN := hid hn
  clear h hn
  by_cases h1 : n < 1
  · have hf := hid (okL_len0 zs (by rw [← hN.out]; exact h1))
    go_enter Tryz.func34, Tryz.ntmps34
    go_wp2_with (go_at_call 35; refine (inr_no _ _ _ _ (by omega)).mono ?_; rintro e w' ⟨rfl, rfl⟩)
    go_ret
    exact ⟨by rw [hf.out]; rfl, rfl⟩
  by_cases h8 : 8 < n
  · have hf := hid (okL_len9 zs (by rw [← hN.out]; exact h8))
    go_enter Tryz.func34, Tryz.ntmps34
    go_wp2_with (go_at_call 35; refine (inr_no _ _ _ _ (by omega)).mono ?_; rintro e w' ⟨rfl, rfl⟩)
    go_ret
    exact ⟨by rw [hf.out]; rfl, rfl⟩
  go_enter Tryz.func34, Tryz.ntmps34
  go_wp2_with (go_at_call 35; refine (inr_yes _ _ _ _ (by omega)).mono ?_; rintro e w' ⟨rfl, rfl⟩)
  go_loop [3] (fun i => ∃ k : Nat, k ≤ n ∧ i = .int .i64 k ∧ inB zs k) (fun i => n - (intOf i).toNat)
  case atStart => exact ⟨0, Nat.zero_le _, rfl, inB_zero _⟩
  case round =>
    obtain ⟨k, hk, rfl, hin⟩ := hrel
    by_cases hlt : k < n
    · have hltz : k < zs.length := by rw [← hN.out]; exact hlt
      have hx := hC.out k hltz
      have hzb := hZ.out (zs[k]?.getD 0) (by simp [hltz])
      have hHL := hid (okL_low zs k hltz)
      have hHH := hid (okL_high zs k hltz)
      have hHI := hid (fun a b => inB_succ hin a b)
      obtain ⟨z, hz⟩ : ∃ z, z = zs[k]?.getD 0 := ⟨_, rfl⟩
      rw [← hz] at hx hzb hHL hHH hHI
      have hz' := hid hz
      clear hz hin
      by_cases h2 : z < 2
      · have hf := hid (hHL.out h2)
        go_wp2
        go_ret
        exact ⟨by rw [hf.out]; rfl, rfl⟩
      by_cases h3 : 100 < z
      · have hf := hid (hHH.out h3)
        go_wp2
        go_ret
        exact ⟨by rw [hf.out]; rfl, rfl⟩
      have hHi := hid (hHI.out (by omega) (by omega))
      go_wp2
      go_round
      case rel => exact ⟨k + 1, by omega, by go_num, hHi.out⟩
      case measure => simp [intOf]; omega
    · obtain rfl : k = n := by omega
      rw [hN.out] at hin
      have hf' := hid ((okL_end zs (by rw [← hN.out]; omega) (by rw [← hN.out]; omega) hin).trans (szC_ok zs).symm)
      have hi' := hid hin
      have hz := hid (show zs.take k = zs by rw [hN.out, List.take_length])
      clear hin
      go_wp2_with (go_at_call 29; refine (l01Size_any _ _ _ zs _ hS.out (Nat.le_of_eq hN.out) (by rw [hN.out]; exact hi'.out)).mono ?_; rw [hz.out]; rintro e w' ⟨rfl, rfl⟩)
      go_ret
      exact ⟨by rw [hf'.out]; rfl, rfl⟩
end Go.Proofs.YtfifnngdmhdkiaaGreatDoor
namespace Go.Proofs.YtfifnngdmhdkiaaGreatDoor
open Go.RowKit Go.Shelf

attribute [local go_sem] Oper.semAt_some

set_option maxRecDepth 100000 in
set_option maxHeartbeats 2000000 in
/-- the closure: each wheel with its place, one after the other, for every body that keeps what lay below n₀ -/
theorem places1_in (F : Fence) (m : Nat) (hf : F.fn 65) (hro : F.round = none) (hm : 1 ≤ m) (l Bs n₀ b n cap : Nat) (zs : List Int) (hn : n = zs.length) (h8 : n ≤ 8) (hin : inB zs n) (hb : b < n₀) (J Jx : List (Fin n) → World → Prop)
    (hY : ∀ pre (x : Fin n) W, J pre W → pre.length < n → YieldAt F (m - 1) Tryz.prog l #[.int .i64 (x.1 : Int), .int .i64 (szL (zs.take x.1))] W fun e W' =>
      (e = .returned (.bool true) ∧ J (pre ++ [x]) W' ∧ Below n₀ W W') ∨ (e = .returned (.bool false) ∧ Jx (pre ++ [x]) W'))
    (W : World) (hBs : W.cell? ⟨Bs, 0, none⟩ = some (.slice (some ⟨b, 0, none⟩) n cap)) (hc : ∀ j, j < n → W.cell? ⟨b, j, none⟩ = some (.int .u8 (zs[j]?.getD 0))) (h0 : J [] W) :
    CallsIn F m Tryz.prog 65 #[.func (.yield l) #[] #[], .pointer (some ⟨Bs, 0, none⟩)] W fun e W' => (∃ v, e = .returned v) ∧
      ((∃ ys, ys = List.finRange n ∧ J ys W') ∨ (∃ pre, (∃ k, k ≤ n ∧ pre = (List.finRange n).take k) ∧ Jx pre W')) := by
  have hN := hid hn
  have hI := hid hin
  have hC := hid hc
  clear hn hin hc
  refine callsIn_of_wp Tryz.func65 rfl hf ?_ hro
  simp only [Tryz.ntmps65, List.size_toArray, List.length_cons, List.length_nil, Nat.reduceAdd, Nat.reduceSub, Array.replicate_succ, Array.replicate_zero, List.push_toArray, List.append_toArray, List.nil_append, List.cons_append]
  gi_wp2
  gi_loopw [3, 8] (fun p i wr => ∃ k : Nat, k ≤ n ∧ i = .int .i64 k ∧ p = .int .i64 (szL (zs.take k)) ∧ J ((List.finRange n).take k) wr ∧ Below n₀ W wr)
    (fun _ i _ => n - (intOf i).toNat)
  case atStart => exact ⟨0, Nat.zero_le _, rfl, rfl, h0, Below.refl _ _⟩
  case round =>
    obtain ⟨k, hk, rfl, rfl, hJs, hnx⟩ := hrel
    by_cases hlt : k < n
    · have hcx := (hnx.cell (p := ⟨b, k, none⟩) hb).trans (hC.out k hlt)
      have hzb := hI.out k hlt
      obtain ⟨s1, s2, s3, s4⟩ := szL_step zs k (by rw [← hN.out]; exact hlt) (by rw [← hN.out]; exact h8) (fun j hj => hI.out j (by omega))
      have HT := hid (szL_take zs k (by rw [← hN.out]; exact hlt))
      obtain ⟨fn, tmps, assign, body, hy, hR⟩ := hY _ ⟨k, hlt⟩ wr hJs (by rw [finTake_length n k hk]; exact hlt)
      have hlen := hid (finTake_succ n k hlt)
      dsimp only at hy
      obtain ⟨p, hp⟩ : ∃ p, p = szL (zs.take k) := ⟨_, rfl⟩
      obtain ⟨z, hz⟩ : ∃ z, z = zs[k]?.getD 0 := ⟨_, rfl⟩
      rw [← hp, ← hz] at HT s3 s4
      rw [← hp] at s1 s2 hy ⊢
      rw [← hz] at hcx hzb
      have hp' := hid hp; have hz' := hid hz
      clear hp hz
      gi_wp2
      refine hR.mono ?_
      rintro e W3 (⟨rfl, hJ3, hk3⟩ | ⟨rfl, hJx3⟩)
      · gi_wp2
        go_roundw
        case rel => exact ⟨k + 1, by omega, by simp, by rw [HT.out], by rw [hlen.out]; exact hJ3, hnx.trans hk3⟩
        case measure => simp [intOf]; omega
      · gi_wp2
        refine bodyPost_ret (results_none rfl _ _ _) rfl ?_
        exact ⟨⟨_, rfl⟩, .inr ⟨_, ⟨k + 1, by omega, hlen.out.symm⟩, hJx3⟩⟩
    · obtain rfl : k = n := by omega
      gi_wp2
      go_end0
      exact ⟨⟨_, rfl⟩, .inl ⟨_, (finTake_all k), hJs⟩⟩

set_option maxHeartbeats 1000000 in
theorem places_in (F : Fence) (m : Nat) (hf : F.fn 54) (hro : F.round = none) (a : Option Addr) (len cap : Nat) (w : World) :
    CallsIn F m Tryz.prog 54 #[.slice a len cap] w fun e w' => e = .returned (.func (.func 65) #[] #[.pointer (some ⟨w.heap.size, 0, none⟩)]) ∧ w' = w.alloc (.cells #[.slice a len cap] 24) := by
  refine callsIn_of_wp Tryz.func54 rfl hf ?_ hro
  simp only [Tryz.ntmps54, List.size_toArray, List.length_cons, List.length_nil, Nat.reduceAdd, Nat.reduceSub, Array.replicate_succ, Array.replicate_zero, List.push_toArray, List.append_toArray, List.nil_append, List.cons_append]
  gi_wp2
  go_ret
  exact ⟨rfl, rfl⟩

theorem places_stops (F : Fence) (m : Nat) (hf : F.fn 65) (hro : F.round = none) (hm : 1 ≤ m) (Bs n₀ b n cap : Nat) (zs : List Int) (hn : n = zs.length) (h8 : n ≤ 8) (hin : inB zs n) (w : World) (hBs : Bs < w.heap.size) (hn₀ : n₀ ≤ w.heap.size) (hb : b < n₀)
    (hc : w.cell? ⟨Bs, 0, none⟩ = some (.slice (some ⟨b, 0, none⟩) n cap)) (hI : ∀ j, j < n → w.cell? ⟨b, j, none⟩ = some (.int .u8 (zs[j]?.getD 0))) :
    SeqStopsK F m Tryz.prog 65 #[.pointer (some ⟨Bs, 0, none⟩)] (fun x : Fin n => #[Value.int .i64 (x.1 : Int), Value.int .i64 (szL (zs.take x.1))]) (Below n₀) (fun ys => ys = List.finRange n)
      (fun pre => ∃ k, k ≤ n ∧ pre = (List.finRange n).take k) n w := fun l J Jx W hW _ _ hY h0 => by
  have hc' := (hW.cell (p := ⟨Bs, 0, none⟩) hBs).trans hc
  exact places1_in F m hf hro hm l Bs n₀ b n cap zs hn h8 hin hb J Jx hY W hc' (fun j hj => (hW.cell (p := ⟨b, j, none⟩) (by show b < _; omega)).trans (hI j hj)) h0

set_option maxRecDepth 100000 in
set_option maxHeartbeats 4000000 in
/-- impl.place of a wheel that is there: the product of the bases before it -/
theorem place_in (F : Fence) (m : Nat) (hf1 : F.fn 49) (hf2 : F.fn 54) (hf3 : F.fn 65) (hro : F.round = none) (hm : 3 ≤ m)
    (b n cap k : Nat) (zs : List Int) (hn : n = zs.length) (h8 : n ≤ 8) (hin : inB zs n) (hk : k < n) (w : World) (hS : Stk w b zs) :
    CallsIn F m Tryz.prog 49 #[.slice (some ⟨b, 0, none⟩) n cap, .int .i64 (k : Int)] w fun e W' => e = .returned (.int .i64 (szL (zs.take k))) ∧ Below w.heap.size w W' := by
  have h1 : 1 ≤ m := by omega
  have hlt := hS.1
  have hC := hid hS.2.1
  have hI := hid hin
  have hN := hid hn
  clear hS hin hn
  refine callsIn_of_wp_marks Tryz.func49 rfl hf1 ?_ hro
  simp only [Tryz.ntmps49, List.size_toArray, List.length_cons, List.length_nil, Nat.reduceAdd, Nat.reduceSub, Array.replicate_succ, Array.replicate_zero, List.push_toArray, List.append_toArray, List.nil_append, List.cons_append]
  gi_wp2_with (gi_at_call 54; refine (places_in F (m - 1) hf2 hro _ _ _ _).mono ?_; rintro e w' ⟨rfl, rfl⟩)
  have bK := Boxed.new w 2 (.int .i64 (k : Int))
  have bR := Boxed.new (w.alloc (.cells #[.int .i64 (k : Int)] 2)) 2 (.int .i64 0)
  have bN := Boxed.new ((w.alloc (.cells #[.int .i64 (k : Int)] 2)).alloc (.cells #[.int .i64 0] 2)) 24 (.slice (some ⟨b, 0, none⟩) n cap)
  rw [World.size_alloc] at bR
  rw [World.size_alloc, World.size_alloc] at bN
  have hB0 : Below w.heap.size w (((w.alloc (.cells #[.int .i64 (k : Int)] 2)).alloc (.cells #[.int .i64 0] 2)).alloc (.cells #[.slice (some ⟨b, 0, none⟩) n cap] 24)) := (((Below.refl _ w).alloc (Nat.le_refl _) _).alloc (by simp) _).alloc (by simp; omega) _
  refine wpIn_rangeFunc_ownG hro h1 (gf := 65) (lb := #[.pointer (some ⟨w.heap.size + 1 + 1, 0, none⟩)]) rfl hf3 (enters_of Tryz.func65 (by kernel_rfl) rfl)
    (places_stops F (m - 1) hf3 hro (by omega) (w.heap.size + 1 + 1) w.heap.size b n cap zs hN.out h8 hI.out _ (by simp) (by simp; omega) hlt bN.cell (fun j hj => (hB0.cell (p := ⟨b, j, none⟩) hlt).trans (hC.out j (by rw [← hN.out]; exact hj)))) belowK_t (belowK_b (by simp; omega)) (Below.refl _ _) (fun _ => rfl)
    (fun pre W => ((∀ x ∈ pre, x.1 ≠ k) ∧ (W.cell? ⟨w.heap.size + 1, 0, none⟩ = some (.int .i64 0) ∧ W.frozen? ⟨w.heap.size + 1, 0, none⟩ = false) ∧ W.cell? ⟨w.heap.size, 0, none⟩ = some (.int .i64 (k : Int))) ∧ Below w.heap.size w W)
    (fun c pre W => (c = .ret ∧ W.cell? ⟨w.heap.size + 1, 0, none⟩ = some (.int .i64 (szL (zs.take k)))) ∧ Below w.heap.size w W)
    (OwnFrom.and (Own.from (fun s A B row hs hg hr => ⟨hs.1, ⟨cell_kept hs.2.1.1 hg hr, (frozen_kept hs.2.1.1 hg hr).trans hs.2.1.2⟩, cell_kept hs.2.2 hg hr⟩) _) (ownFrom_below (Nat.le_refl _) (by simp; omega)))
    (fun c => OwnFrom.and (Own.from (fun s A B row hs hg hr => ⟨hs.1, cell_kept hs.2 hg hr⟩) _) (ownFrom_below (Nat.le_refl _) (by simp; omega)))
    ⟨⟨by simp, ⟨(bR.alloc _).cell, (bR.alloc _).frozen⟩, ((bK.alloc _).alloc _).cell⟩, hB0⟩
    (fun x => { tmps := #[.slice (some ⟨b, 0, none⟩) n cap, .int .i64 (k : Int), undef, .pointer (some ⟨w.heap.size, 0, none⟩), .pointer (some ⟨w.heap.size + 1, 0, none⟩), .int .i64 (x.1 : Int), .int .i64 (szL (zs.take x.1)), .slice (some ⟨b, 0, none⟩) n cap, .func (.func 65) #[] #[.pointer (some ⟨w.heap.size + 1 + 1, 0, none⟩)], .int .i64 (x.1 : Int), .int .i64 (szL (zs.take x.1)), undef, undef, undef, undef], defers := [] }) ?assign ?body ?done ?stop
  case assign =>
    intro l x W K hK
    gi_wp2
    exact hK
  case body =>
    rintro l pre x W ⟨⟨hp, ⟨hcr, hfr⟩, hck⟩, hB⟩ _
    by_cases hx : x.1 = k
    · have he : ((x.1 : Int) == (k : Int)) = true := by simp [hx]
      have hX := hid hx
      clear hx
      gi_wp2
      exact ⟨(KeepsOthers.setCell _ _ _).from _, ⟨rfl, by rw [World.cell?_setCell_same' _ _ _ (by rw [hcr]; rfl), hX.out]⟩, hB.setCell (p := ⟨w.heap.size + 1, 0, none⟩) (by show _ ≤ w.heap.size + 1; omega) _⟩
    · have he : ((x.1 : Int) == (k : Int)) = false := by simp; omega
      have hX := hid hx
      clear hx
      gi_wp2
      exact ⟨KeepsFrom.refl _ _, Below.refl _ _, ⟨fun p hp' => (List.mem_append.1 hp').elim (hp p) (fun e => by simp at e; subst e; exact hX.out), ⟨hcr, hfr⟩, hck⟩, hB⟩
  case done =>
    rintro D ys W hD rfl ⟨⟨hne, _⟩, hB⟩ hK
    exact absurd rfl (hne ⟨k, hk⟩ (by simp))
  case stop =>
    rintro D c pre W hD ⟨j, hj, rfl⟩ ⟨⟨rfl, hcr⟩, hB⟩ hK
    gi_wp2
    refine ⟨by simp, .inl ⟨_, _, rfl, run_takeDeferred hK, ?_⟩⟩
    have hc5 := cell_kept hcr (grownBy_putObj' _ D (.deferred none)) (fun r e => by cases e; exact ⟨_, hK, rfl⟩)
    refine ⟨.int .i64 (szL (zs.take k)), ?_, rfl, hB.trans (belowK_b (w := w) (Nat.le_refl _) W D _ _ (by simp at hD; omega) hK rfl rfl)⟩
    simp [results, Tryz.f49, go_sem, hc5]
end Go.Proofs.YtfifnngdmhdkiaaGreatDoor
namespace Go.Proofs.YtfifnngdmhdkiaaGreatDoor
open Go.ChangeShapes Go.WideShapes Go.ChangeAt Go.RowKit

/-- eight bytes -/
def Oct (d0 d1 d2 d3 d4 d5 d6 d7 : Int) : Prop :=
  (0 ≤ d0 ∧ d0 ≤ 255) ∧ (0 ≤ d1 ∧ d1 ≤ 255) ∧ (0 ≤ d2 ∧ d2 ≤ 255) ∧ (0 ≤ d3 ∧ d3 ≤ 255) ∧ (0 ≤ d4 ∧ d4 ≤ 255) ∧ (0 ≤ d5 ∧ d5 ≤ 255) ∧ (0 ≤ d6 ∧ d6 ≤ 255) ∧ (0 ≤ d7 ∧ d7 ≤ 255)

/-- what a law is told of a slice of bytes that came in -/
def InB (w : World) (a : Option Addr) (len : Nat) (zs : List Int) : Prop :=
  zs.length = len ∧ (∀ z ∈ zs, 0 ≤ z ∧ z ≤ 255) ∧ (len = 0 ∨ ∃ b off, a = some ⟨b, off, none⟩ ∧ b < w.heap.size ∧ ∀ j, j < len → w.cell? ⟨b, off + j, none⟩ = some (.int .u8 (zs[j]?.getD 0)))
theorem InB.below {w w' : World} {a : Option Addr} {len : Nat} {zs : List Int} {n : Nat} (h : InB w a len zs) (hb : Below n w w') (hn : w.heap.size ≤ n) : InB w' a len zs := by
  refine ⟨h.1, h.2.1, ?_⟩
  rcases h.2.2 with h0 | ⟨b, off, e, hl, hc⟩
  · exact .inl h0
  · exact .inr ⟨b, off, e, Nat.lt_of_lt_of_le hl hb.size, fun j hj => (hb.cell (p := ⟨b, off + j, none⟩) (Nat.lt_of_lt_of_le hl hn)).trans (hc j hj)⟩

section
variable {H : Type} {enc : TypeId × Value → H} {P : Program} {W : World}

theorem open_bytes {t e : TypeId} (ht : P.underlying t = some (.slice e)) (he : P.underlying e = some (.int .u8)) (hc : P.cellsOf e = 1) {a : Option Addr} {len cap : Nat} {d : DataW H} {p : List MemPlace}
    (h : DataW.Trod enc P W 0 (fun _ => true) true t (.slice a len cap) d p) : ∃ zs, InB W a len zs := by
  obtain ⟨fuel, hf⟩ := h
  rcases open_ints ht he hc hf with ⟨hcs, _⟩ | ⟨x, l, c, zs, hcs, _, hl, hm, hz, hx, hcell, hwz⟩
  · simp [Value.cells] at hcs
    obtain ⟨rfl, rfl, rfl⟩ := hcs
    exact ⟨[], rfl, by simp, .inl rfl⟩
  · simp [Value.cells] at hcs
    obtain ⟨rfl, rfl, rfl⟩ := hcs
    simp only [if_true] at hz
    refine ⟨zs.take len, by simp; omega, fun z hz' => by have := bounds_u8 (hwz z (List.mem_of_mem_take hz')); omega, ?_⟩
    by_cases h0 : len = 0
    · exact .inl h0
    · right
      have hc0 := hcell 0 (by omega)
      obtain ⟨b, off, spot⟩ := x
      have hspot : spot = none := by simpa [Addr.add] using World.cell?_spot hc0
      subst hspot
      have hx' : p = MemPlace.row ⟨b, off, none⟩ zs.length := (Prod.mk.inj hx).2
      have hb : b < W.heap.size := by
        by_cases hb : b < W.heap.size
        · exact hb
        · simp [World.cell?, Addr.add, Array.getElem?_eq_none (Nat.le_of_not_lt hb)] at hc0
      refine ⟨b, off, rfl, hb, fun j hj => ?_⟩
      have := hcell j (by omega)
      rw [show (⟨b, off, none⟩ : Addr).add j = ⟨b, off + j, none⟩ from by
        by_cases h : j = 0
        · subst h; simp [Addr.add]
        · simp [Addr.add, h]] at this
      rw [this]
      simp [hj]

theorem array8 {α : Type} {cs : Array α} (h : cs.size = 8) : ∃ c0 c1 c2 c3 c4 c5 c6 c7, cs = #[c0, c1, c2, c3, c4, c5, c6, c7] := by
  obtain ⟨l⟩ := cs
  simp at h
  match l, h with
  | [a, b, c, d, e, f, g, i], _ => exact ⟨a, b, c, d, e, f, g, i, rfl⟩

theorem okWide_array {r : Reach} {b0 : Nat} {t e : TypeId} {n : Nat} {v : Value} (ht : P.underlying t = some (.array n e)) (h : Value.okWide P W r b0 t v) : ∃ cs, v = .agg cs ∧ cs.size = P.cellsOf t := by
  simp only [Value.okWide, ht] at h
  obtain ⟨cs, h1, h2, _⟩ := h
  exact ⟨cs, h1, h2⟩

theorem open_oct {r : Reach} {b0 : Nat} {t e : TypeId} {v : Value} {d : DataW H} {p : List MemPlace} (ht : P.underlying t = some (.array 8 e)) (he : P.underlying e = some (.int .u8)) (hc : P.cellsOf e = 1) (hC : P.cellsOf t = 8)
    (hval : Value.okWide P W r b0 t v) (h : DataW.Trod enc P W 0 (fun _ => true) true t v d p) :
    ∃ d0 d1 d2 d3 d4 d5 d6 d7 : Int, v = .agg #[.int .u8 d0, .int .u8 d1, .int .u8 d2, .int .u8 d3, .int .u8 d4, .int .u8 d5, .int .u8 d6, .int .u8 d7] ∧ Oct d0 d1 d2 d3 d4 d5 d6 d7 := by
  obtain ⟨cs, rfl, hsz⟩ := okWide_array ht hval
  obtain ⟨c0, c1, c2, c3, c4, c5, c6, c7, rfl⟩ := array8 (hsz.trans hC)
  obtain ⟨fuel, hf⟩ := h
  obtain ⟨xs, m, _, _, _, hl, hall⟩ := DataW.trod_array ht hf
  have key : ∀ (i : Nat) (c : Value), i < 8 → ([c0, c1, c2, c3, c4, c5, c6, c7] : List Value)[i]? = some c → ∃ n, c = .int .u8 n ∧ 0 ≤ n ∧ n ≤ 255 := by
    intro i c hi hcc
    have hi' := hall i hi
    rw [hc] at hi'
    have hx : (((Value.agg #[c0, c1, c2, c3, c4, c5, c6, c7]).cells.toList.drop (i * 1)).take 1) = [c] := by
      have : (Value.agg #[c0, c1, c2, c3, c4, c5, c6, c7]).cells.toList = [c0, c1, c2, c3, c4, c5, c6, c7] := rfl
      rw [this, Nat.mul_one]
      match i, hi, hcc with
      | 0, _, h | 1, _, h | 2, _, h | 3, _, h | 4, _, h | 5, _, h | 6, _, h | 7, _, h => simp at h; subst h; rfl
    rw [hx] at hi'
    obtain ⟨y, hy⟩ : ∃ y, xs[i]? = some y := ⟨_, List.getElem?_eq_getElem (by omega)⟩
    rw [hy] at hi'
    obtain ⟨n, e0, _, wn⟩ := DataW.trod_int he hi'
    simp only [List.cons.injEq, and_true] at e0
    have := bounds_u8 wn
    exact ⟨n, e0, by omega, by omega⟩
  obtain ⟨d0, rfl, b0⟩ := key 0 c0 (by omega) rfl
  obtain ⟨d1, rfl, b1⟩ := key 1 c1 (by omega) rfl
  obtain ⟨d2, rfl, b2⟩ := key 2 c2 (by omega) rfl
  obtain ⟨d3, rfl, b3⟩ := key 3 c3 (by omega) rfl
  obtain ⟨d4, rfl, b4⟩ := key 4 c4 (by omega) rfl
  obtain ⟨d5, rfl, b5⟩ := key 5 c5 (by omega) rfl
  obtain ⟨d6, rfl, b6⟩ := key 6 c6 (by omega) rfl
  obtain ⟨d7, rfl, b7⟩ := key 7 c7 (by omega) rfl
  exact ⟨d0, d1, d2, d3, d4, d5, d6, d7, rfl, b0, b1, b2, b3, b4, b5, b6, b7⟩
end
theorem tt2 {a b : Bool} (h : a = true) (k : b = true) : (a && b) = true := by rw [h, k]; rfl
end Go.Proofs.YtfifnngdmhdkiaaGreatDoor
namespace Go.Proofs.YtfifnngdmhdkiaaGreatDoor
open Go.RowKit

/-- an array of eight bytes is read at a place -/
theorem index_oct (d0 d1 d2 d3 d4 d5 d6 d7 : Int) (k : Nat) (hk : k < 8) (w : World) :
    (Instr.index 30 (.agg #[.int .u8 d0, .int .u8 d1, .int .u8 d2, .int .u8 d3, .int .u8 d4, .int .u8 d5, .int .u8 d6, .int .u8 d7]) (.int .i64 (k : Int))).run Tryz.prog w
      = .ok (.int .u8 (([d0, d1, d2, d3, d4, d5, d6, d7] : List Int)[k]?.getD 0)) w := by
  have i0 : (Instr.index 30 (.agg #[.int .u8 d0, .int .u8 d1, .int .u8 d2, .int .u8 d3, .int .u8 d4, .int .u8 d5, .int .u8 d6, .int .u8 d7]) (.int .i64 ((0 : Nat) : Int))).run Tryz.prog w = .ok (.int .u8 d0) w := by kernel_rfl
  have i1 : (Instr.index 30 (.agg #[.int .u8 d0, .int .u8 d1, .int .u8 d2, .int .u8 d3, .int .u8 d4, .int .u8 d5, .int .u8 d6, .int .u8 d7]) (.int .i64 ((1 : Nat) : Int))).run Tryz.prog w = .ok (.int .u8 d1) w := by kernel_rfl
  have i2 : (Instr.index 30 (.agg #[.int .u8 d0, .int .u8 d1, .int .u8 d2, .int .u8 d3, .int .u8 d4, .int .u8 d5, .int .u8 d6, .int .u8 d7]) (.int .i64 ((2 : Nat) : Int))).run Tryz.prog w = .ok (.int .u8 d2) w := by kernel_rfl
  have i3 : (Instr.index 30 (.agg #[.int .u8 d0, .int .u8 d1, .int .u8 d2, .int .u8 d3, .int .u8 d4, .int .u8 d5, .int .u8 d6, .int .u8 d7]) (.int .i64 ((3 : Nat) : Int))).run Tryz.prog w = .ok (.int .u8 d3) w := by kernel_rfl
  have i4 : (Instr.index 30 (.agg #[.int .u8 d0, .int .u8 d1, .int .u8 d2, .int .u8 d3, .int .u8 d4, .int .u8 d5, .int .u8 d6, .int .u8 d7]) (.int .i64 ((4 : Nat) : Int))).run Tryz.prog w = .ok (.int .u8 d4) w := by kernel_rfl
  have i5 : (Instr.index 30 (.agg #[.int .u8 d0, .int .u8 d1, .int .u8 d2, .int .u8 d3, .int .u8 d4, .int .u8 d5, .int .u8 d6, .int .u8 d7]) (.int .i64 ((5 : Nat) : Int))).run Tryz.prog w = .ok (.int .u8 d5) w := by kernel_rfl
  have i6 : (Instr.index 30 (.agg #[.int .u8 d0, .int .u8 d1, .int .u8 d2, .int .u8 d3, .int .u8 d4, .int .u8 d5, .int .u8 d6, .int .u8 d7]) (.int .i64 ((6 : Nat) : Int))).run Tryz.prog w = .ok (.int .u8 d6) w := by kernel_rfl
  have i7 : (Instr.index 30 (.agg #[.int .u8 d0, .int .u8 d1, .int .u8 d2, .int .u8 d3, .int .u8 d4, .int .u8 d5, .int .u8 d6, .int .u8 d7]) (.int .i64 ((7 : Nat) : Int))).run Tryz.prog w = .ok (.int .u8 d7) w := by kernel_rfl
  have h : k = 0 ∨ k = 1 ∨ k = 2 ∨ k = 3 ∨ k = 4 ∨ k = 5 ∨ k = 6 ∨ k = 7 := by omega
  clear hk
  rcases h with rfl | rfl | rfl | rfl | rfl | rfl | rfl | rfl
  · exact i0
  · exact i1
  · exact i2
  · exact i3
  · exact i4
  · exact i5
  · exact i6
  · exact i7
theorem oct_bd {d0 d1 d2 d3 d4 d5 d6 d7 : Int} (h : Oct d0 d1 d2 d3 d4 d5 d6 d7) (k : Nat) (hk : k < 8) :
    0 ≤ ([d0, d1, d2, d3, d4, d5, d6, d7] : List Int)[k]?.getD 0 ∧ ([d0, d1, d2, d3, d4, d5, d6, d7] : List Int)[k]?.getD 0 ≤ 255 := by
  obtain ⟨h0, h1, h2, h3, h4, h5, h6, h7⟩ := h
  match k, hk with
  | 0, _ => exact h0
  | 1, _ => exact h1
  | 2, _ => exact h2
  | 3, _ => exact h3
  | 4, _ => exact h4
  | 5, _ => exact h5
  | 6, _ => exact h6
  | 7, _ => exact h7

set_option maxHeartbeats 2000000 in
theorem validDigits_any (b n cap : Nat) (zs : List Int) (d0 d1 d2 d3 d4 d5 d6 d7 : Int) (w : World) (h : Stk w b zs) (hn : n = zs.length) (ho : Oct d0 d1 d2 d3 d4 d5 d6 d7) :
    Calls Tryz.prog 18 #[.slice (some ⟨b, 0, none⟩) n cap, .agg #[.int .u8 d0, .int .u8 d1, .int .u8 d2, .int .u8 d3, .int .u8 d4, .int .u8 d5, .int .u8 d6, .int .u8 d7]] w
      fun e w' => e = .returned (.bool (okV zs [d0, d1, d2, d3, d4, d5, d6, d7])) ∧ Below w.heap.size w w' := by
  have hS := hid h
  have hZ := hid h.2.2.1
  have hl := h.2.2.2
  rw [← hn] at hl
  have hN := hid hn
  have hO := hid (fun k hk => oct_bd ho k hk)
  have hB0 := fun (o : Obj) => (Below.refl w.heap.size w).alloc (Nat.le_refl _) o
  have hS1 := hid (fun (o : Obj) => h.below (hB0 o) h.1)
  have hC := hid (fun (o : Obj) => (h.below (hB0 o) h.1).2.1)
  have hB := hid hB0
  clear h hn ho hB0
  cases hv : okL zs with
  | false =>
    have hf := hid (okV_no (ds := [d0, d1, d2, d3, d4, d5, d6, d7]) hv)
    have hv' := hid hv
    clear hv
    go_enter Tryz.func18, Tryz.ntmps18
    go_wp2_with (go_at_call 17; refine (validStack_any _ _ _ zs _ (hS1.out _) hN.out).mono ?_; rw [hv'.out]; rintro e w' ⟨rfl, rfl⟩)
    go_ret
    exact ⟨by rw [hf.out]; rfl, hB.out _⟩
  | true =>
    have hf := hid (okV_yes (ds := [d0, d1, d2, d3, d4, d5, d6, d7]) hv)
    have hv' := hid hv
    clear hv
    go_enter Tryz.func18, Tryz.ntmps18
    go_wp2_with (go_at_call 17; refine (validStack_any _ _ _ zs _ (hS1.out _) hN.out).mono ?_; rw [hv'.out]; rintro e w' ⟨rfl, rfl⟩)
    go_loop [11] (fun i => ∃ k : Nat, k ≤ 8 ∧ i = .int .i64 k ∧ okTo zs [d0, d1, d2, d3, d4, d5, d6, d7] k) (fun i => 8 - (intOf i).toNat)
    case atStart => exact ⟨0, Nat.zero_le _, rfl, okTo_zero _ _⟩
    case round =>
      obtain ⟨k, hk, rfl, hT⟩ := hrel
      by_cases hlt : k < 8
      · have hix := fun w => index_oct d0 d1 d2 d3 d4 d5 d6 d7 k hlt w
        have hdb := hO.out k hlt
        have hTL := hid (fun a b => okTo_low hT (k := k) a b)
        have hTH := hid (fun a b => okTo_high hT (k := k) a b)
        have hFL := hid (fun a b => okD_low (zs := zs) (ds := [d0, d1, d2, d3, d4, d5, d6, d7]) k hlt a b)
        have hFH := hid (fun a b => okD_high (zs := zs) (ds := [d0, d1, d2, d3, d4, d5, d6, d7]) k hlt a b)
        clear hT
        obtain ⟨d, hd⟩ : ∃ d, d = ([d0, d1, d2, d3, d4, d5, d6, d7] : List Int)[k]?.getD 0 := ⟨_, rfl⟩
        rw [← hd] at hdb hTL hTH hFL hFH
        simp only [← hd] at hix
        clear hd
        by_cases hw : k < n
        · have hx := hC.out (.cells #[.int .u8 d0, .int .u8 d1, .int .u8 d2, .int .u8 d3, .int .u8 d4, .int .u8 d5, .int .u8 d6, .int .u8 d7] 30) k (by rw [← hN.out]; exact hw)
          have hzb := hZ.out (zs[k]?.getD 0) (by simp [show k < zs.length from by rw [← hN.out]; exact hw])
          have hw' : k < zs.length := by rw [← hN.out]; exact hw
          have hTL' := hid (hTL.out hw')
          have hFL' := hid (hFL.out hw')
          clear hTL hTH hFL hFH hw'
          obtain ⟨z, hz⟩ : ∃ z, z = zs[k]?.getD 0 := ⟨_, rfl⟩
          rw [← hz] at hx hzb hTL' hFL'
          clear hz
          by_cases hdz : d < z
          · have hT' := hid (hTL'.out hdz)
            have hge : (decide (z ≤ d)) = false := by simp; omega
            go_wp2
            go_round
            case rel => exact ⟨k + 1, by omega, by go_num, hT'.out⟩
            case measure => simp [intOf]; omega
          · have hF' := hid (hf.out.trans (hFL'.out (by omega)))
            have hge : (decide (z ≤ d)) = true := by simp; omega
            go_wp2
            go_ret
            exact ⟨by rw [hF'.out]; rfl, hB.out _⟩
        · have hw' : zs.length ≤ k := by rw [← hN.out]; omega
          have hTH' := hid (hTH.out hw')
          have hFH' := hid (hFH.out hw')
          clear hTL hTH hFL hFH hw'
          by_cases hdz : d = 0
          · have hT' := hid (hTH'.out hdz)
            subst hdz
            go_wp2
            go_round
            case rel => exact ⟨k + 1, by omega, by go_num, hT'.out⟩
            case measure => simp [intOf]; omega
          · have hF' := hid (hf.out.trans (hFH'.out hdz))
            have hne : (d != 0) = true := by rw [bne_iff_ne]; exact hdz
            clear hdz
            go_wp2
            go_ret
            exact ⟨by rw [hF'.out]; rfl, hB.out _⟩
      · obtain rfl : k = 8 := by omega
        have hF' := hid (hf.out.trans (okD_of hT))
        clear hT
        go_wp2
        go_ret
        exact ⟨by rw [hF'.out]; rfl, hB.out _⟩

set_option maxHeartbeats 4000000 in
theorem l01Digits_any (b n cap : Nat) (zs : List Int) (d0 d1 d2 d3 d4 d5 d6 d7 : Int) (w : World) (h : Stk w b zs) (hn : n = zs.length) (ho : Oct d0 d1 d2 d3 d4 d5 d6 d7) :
    Calls Tryz.prog 64 #[.slice (some ⟨b, 0, none⟩) n cap, .agg #[.int .u8 d0, .int .u8 d1, .int .u8 d2, .int .u8 d3, .int .u8 d4, .int .u8 d5, .int .u8 d6, .int .u8 d7]] w
      fun e w' => e = .returned (.bool (okD zs [d0, d1, d2, d3, d4, d5, d6, d7])) ∧ Below w.heap.size w w' := by
  have hZ := hid h.2.2.1
  have hl := h.2.2.2
  rw [← hn] at hl
  have hN := hid hn
  have hO := hid (fun k hk => oct_bd ho k hk)
  have hB0 := fun (o : Obj) => (Below.refl w.heap.size w).alloc (Nat.le_refl _) o
  have hC := hid (fun (o : Obj) => (h.below (hB0 o) h.1).2.1)
  have hB := hid hB0
  have hR := hid ((Row.new w 30 [.int .u8 d0, .int .u8 d1, .int .u8 d2, .int .u8 d3, .int .u8 d4, .int .u8 d5, .int .u8 d6, .int .u8 d7]).cell)
  clear h hn ho hB0
  go_enter Tryz.func64, Tryz.ntmps64
  go_wp2
  go_loopw [5] (fun i wr => ∃ k : Nat, k ≤ 8 ∧ i = .int .i64 k ∧ okTo zs [d0, d1, d2, d3, d4, d5, d6, d7] k ∧ ∃ q, wr = (w.alloc (.cells #[.int .u8 d0, .int .u8 d1, .int .u8 d2, .int .u8 d3, .int .u8 d4, .int .u8 d5, .int .u8 d6, .int .u8 d7] 30)).drewN q) (fun i _ => 8 - (intOf i).toNat)
  case atStart => exact ⟨0, Nat.zero_le _, rfl, okTo_zero _ _, 0, rfl⟩
  case round =>
    obtain ⟨k, hk, rfl, hT, q, rfl⟩ := hrel
    by_cases hlt : k < 8
    · have hc := hR.out k
      rw [show ([Value.int .u8 d0, .int .u8 d1, .int .u8 d2, .int .u8 d3, .int .u8 d4, .int .u8 d5, .int .u8 d6, .int .u8 d7] : List Value)[k]? = some (.int .u8 (([d0, d1, d2, d3, d4, d5, d6, d7] : List Int)[k]?.getD 0)) from by
        have h : k = 0 ∨ k = 1 ∨ k = 2 ∨ k = 3 ∨ k = 4 ∨ k = 5 ∨ k = 6 ∨ k = 7 := by omega
        rcases h with rfl | rfl | rfl | rfl | rfl | rfl | rfl | rfl <;> rfl] at hc
      have hdb := hO.out k hlt
      have hTL := hid (fun a b => okTo_low hT (k := k) a b)
      have hTH := hid (fun a b => okTo_high hT (k := k) a b)
      have hFL := hid (fun a b => okD_low (zs := zs) (ds := [d0, d1, d2, d3, d4, d5, d6, d7]) k hlt a b)
      have hFH := hid (fun a b => okD_high (zs := zs) (ds := [d0, d1, d2, d3, d4, d5, d6, d7]) k hlt a b)
      clear hT
      obtain ⟨d, hd⟩ : ∃ d, d = ([d0, d1, d2, d3, d4, d5, d6, d7] : List Int)[k]?.getD 0 := ⟨_, rfl⟩
      rw [← hd] at hdb hTL hTH hFL hFH hc
      clear hd
      by_cases hw : k < n
      · have hx := hC.out (.cells #[.int .u8 d0, .int .u8 d1, .int .u8 d2, .int .u8 d3, .int .u8 d4, .int .u8 d5, .int .u8 d6, .int .u8 d7] 30) k (by rw [← hN.out]; exact hw)
        have hzb := hZ.out (zs[k]?.getD 0) (by simp [show k < zs.length from by rw [← hN.out]; exact hw])
        have hw' : k < zs.length := by rw [← hN.out]; exact hw
        have hTL' := hid (hTL.out hw')
        have hFL' := hid (hFL.out hw')
        clear hTL hTH hFL hFH hw'
        obtain ⟨z, hz⟩ : ∃ z, z = zs[k]?.getD 0 := ⟨_, rfl⟩
        rw [← hz] at hx hzb hTL' hFL'
        clear hz
        have g1 : decide (k < n) = true := by simp; omega
        have g2 : decide (n ≤ k) = false := by simp; omega
        have g3 : (k : Int) < (n : Int) := by omega
        by_cases hdz : d < z
        · have hT' := hid (hTL'.out hdz)
          have hge : (decide (z ≤ d)) = false := by simp; omega
          go_wp2
          go_quiet (fail)
          go_wp2
          all_goals go_roundw
          case rel => exact ⟨k + 1, by omega, by go_num, hT'.out, _, rfl⟩
          case measure => simp [intOf]; omega
        · have hF' := hid (hFL'.out (by omega))
          have hge : (decide (z ≤ d)) = true := by simp; omega
          go_wp2
          go_quiet (fail)
          go_wp2
          go_ret
          exact ⟨by rw [hF'.out]; rfl, below_drewN (below_drewN (hB.out _) q) _⟩
      · have hw' : zs.length ≤ k := by rw [← hN.out]; omega
        have hTH' := hid (hTH.out hw')
        have hFH' := hid (hFH.out hw')
        clear hTL hTH hFL hFH hw'
        have g1 : decide (k < n) = false := by simp; omega
        have g2 : decide (n ≤ k) = true := by simp; omega
        have g3 : (n : Int) ≤ (k : Int) := by omega
        by_cases hdz : d = 0
        · have hT' := hid (hTH'.out hdz)
          subst hdz
          have hne : ((0 : Int) != 0) = false := by simp
          go_wp2
          go_quiet (fail)
          go_wp2
          all_goals go_roundw
          case rel => exact ⟨k + 1, by omega, by go_num, hT'.out, _, rfl⟩
          case measure => simp [intOf]; omega
        · have hF' := hid (hFH'.out hdz)
          have hne : (d != 0) = true := by rw [bne_iff_ne]; exact hdz
          clear hdz
          go_wp2
          go_quiet (fail)
          go_wp2
          go_ret
          exact ⟨by rw [hF'.out]; rfl, below_drewN (below_drewN (hB.out _) q) _⟩
    · obtain rfl : k = 8 := by omega
      have hF' := hid (okD_of hT)
      clear hT
      go_wp2
      go_ret
      exact ⟨by rw [hF'.out]; rfl, below_drewN (hB.out _) q⟩

set_option maxHeartbeats 1000000 in
theorem specValidDigits_any (b n cap : Nat) (zs : List Int) (d0 d1 d2 d3 d4 d5 d6 d7 : Int) (w : World) (h : Stk w b zs) (hn : n = zs.length) (ho : Oct d0 d1 d2 d3 d4 d5 d6 d7) :
    Calls Tryz.prog 47 #[.slice (some ⟨b, 0, none⟩) n cap, .agg #[.int .u8 d0, .int .u8 d1, .int .u8 d2, .int .u8 d3, .int .u8 d4, .int .u8 d5, .int .u8 d6, .int .u8 d7]] w
      fun e w' => e = .returned (.bool (okV zs [d0, d1, d2, d3, d4, d5, d6, d7])) ∧ Below w.heap.size w w' := by
  have hN := hid hn
  have hO := hid ho
  have hB0 := fun (o : Obj) => (Below.refl w.heap.size w).alloc (Nat.le_refl _) o
  have hS1 := hid (fun (o : Obj) => h.below (hB0 o) h.1)
  have hB := hid hB0
  clear h hn ho hB0
  cases hv : okL zs with
  | false =>
    have hf := hid (okV_no (ds := [d0, d1, d2, d3, d4, d5, d6, d7]) hv)
    have hv' := hid hv
    clear hv
    go_enter Tryz.func47, Tryz.ntmps47
    go_wp2_with (go_at_call 34; refine (l01Ok_any _ _ _ zs _ (hS1.out _) hN.out).mono ?_; rw [hv'.out]; rintro e w' ⟨rfl, rfl⟩)
    go_ret
    exact ⟨by rw [hf.out]; rfl, hB.out _⟩
  | true =>
    have hf := hid (okV_yes (ds := [d0, d1, d2, d3, d4, d5, d6, d7]) hv)
    have hv' := hid hv
    clear hv
    go_enter Tryz.func47, Tryz.ntmps47
    go_wp2_with (first | (go_at_call 34; refine (l01Ok_any _ _ _ zs _ (hS1.out _) hN.out).mono ?_; rw [hv'.out]; rintro e w' ⟨rfl, rfl⟩) | (go_at_call 64; refine (l01Digits_any _ _ _ zs _ _ _ _ _ _ _ _ _ (hS1.out _) hN.out hO.out).mono ?_; rintro e w' ⟨rfl, hB2⟩))
    go_ret
    exact ⟨by rw [hf.out]; rfl, (hB.out _).trans (hB2.mono (by simp))⟩
end Go.Proofs.YtfifnngdmhdkiaaGreatDoor
namespace Go.Proofs.YtfifnngdmhdkiaaGreatDoor
open Go.RowKit Go.Shelf

theorem place_any (b n cap k : Nat) (zs : List Int) (hn : n = zs.length) (h8 : n ≤ 8) (hin : inB zs n) (hk : k < n) (w : World) (hS : Stk w b zs) :
    Calls Tryz.prog 49 #[.slice (some ⟨b, 0, none⟩) n cap, .int .i64 (k : Int)] w fun e W' => e = .returned (.int .i64 (szL (zs.take k))) ∧ Below w.heap.size w W' :=
  callsIn_wide.1 (place_in Fence.wide 8 trivial trivial trivial rfl (by omega) b n cap k zs hn h8 hin hk w hS)

set_option maxHeartbeats 2000000 in
theorem cycle_any (b n cap k : Nat) (zs : List Int) (hn : n = zs.length) (h8 : n ≤ 8) (hin : inB zs n) (hk : k < n) (w : World) (hS : Stk w b zs) :
    Calls Tryz.prog 53 #[.slice (some ⟨b, 0, none⟩) n cap, .int .i64 (k : Int)] w fun e W' => e = .returned (.int .i64 (szL (zs.take (k + 1)))) ∧ Below w.heap.size w W' := by
  have hx : w.cell? ⟨b, k, none⟩ = some (.int .u8 (zs[k]?.getD 0)) := hS.2.1 k (by omega)
  have hlt := hS.1
  have hzb := hin k hk
  obtain ⟨s1, s2, s3, s4⟩ := szL_step zs k (by omega) (by omega) (fun j hj => hin j (by omega))
  have HT := hid (szL_take zs k (by omega))
  have HP := hid (fun w (hS : Stk w b zs) => place_any b n cap k zs hn h8 hin hk w hS)
  have HS := hid hS
  have HN := hid hn
  have HI := hid hin
  clear hn hin hS
  obtain ⟨p, hp⟩ : ∃ p, p = szL (zs.take k) := ⟨_, rfl⟩
  obtain ⟨z, hz⟩ : ∃ z, z = zs[k]?.getD 0 := ⟨_, rfl⟩
  rw [← hp, ← hz] at HT s3 s4
  rw [← hp] at s1 s2
  simp only [← hp] at HP
  rw [← hz] at hx hzb
  clear hp hz
  have hk1 : (0 : Int) ≤ (k : Int) := by omega
  have hk2 : (k : Int) < (n : Int) := by omega
  go_enter Tryz.func53, Tryz.ntmps53
  go_wp2_with fail
  go_region_held3 (fun w' => w'.cell? ⟨b, k, none⟩ = some (.int .u8 z)) (first | exact hx2 | exact hx)
    ((first | (go_at_call 49; have hX := HP.out w.drew (HS.out.below (Below.refl _ w).drew HS.out.1); refine hX.mono ?_; clear hX; rintro e w1 ⟨rfl, hB⟩; have hx2 := (hB.cell (p := ⟨b, k, none⟩) hlt).trans (show w.drew.cell? ⟨b, k, none⟩ = _ from hx))))
  go_wp2
  go_ret
  have hw1 : IntKind.i64.wrap z = z := IntWalk.i64_in _ (by omega)
  have hw2 : IntKind.i64.wrap (p * z) = p * z := IntWalk.i64_in _ (by omega)
  exact ⟨by show Ending.returned (.int .i64 (IntKind.i64.wrap (p * IntKind.i64.wrap z))) = _; rw [hw1, hw2, HT.out], (Below.refl _ w).drew.trans hB⟩

theorem size_any /- by Tryz.prog 53 -/ (b n cap : Nat) (zs : List Int) (hn : n = zs.length) (hv : okL zs = true) (w : World) (hS : Stk w b zs) :
    Calls Tryz.prog 31 #[.slice (some ⟨b, 0, none⟩) n cap] w fun e W' => e = .returned (.int .i64 (szL zs)) ∧ Below w.heap.size w W' := by
  obtain ⟨h1, h8, hin, _, _⟩ := okL_out hv
  obtain ⟨k, hk⟩ : ∃ k, n = k + 1 := ⟨n - 1, by omega⟩
  have hX := hid (cycle_any b n cap k zs hn (by omega) (by rw [hn]; exact hin) (by omega) w hS)
  have hT : zs.take (k + 1) = zs := by rw [← hk, hn, List.take_length]
  rw [hT] at hX
  have hk8 : k < 8 := by omega
  subst hk
  clear hn hv hS h1 hin hT h8
  go_enter Tryz.func31, Tryz.ntmps31
  go_wp2_with fail
  refine hX.out.mono ?_
  rintro e w1 ⟨rfl, hB⟩
  go_wp2_with fail
  go_ret
  exact ⟨rfl, hB⟩

attribute [local go_sem] Oper.semAt_some
theorem cell_far {W : World} {a p : Addr} {u : Value} (h : p.block ≠ a.block) : (W.setCell a u).cell? p = W.cell? p := World.cell?_of_block (Below.heap_setCell W a u p.block h)
theorem oct_get (d0 d1 d2 d3 d4 d5 d6 d7 : Int) (k : Nat) (hk : k < 8) : ([Value.int .u8 d0, .int .u8 d1, .int .u8 d2, .int .u8 d3, .int .u8 d4, .int .u8 d5, .int .u8 d6, .int .u8 d7] : List Value)[k]? = some (.int .u8 (([d0, d1, d2, d3, d4, d5, d6, d7] : List Int)[k]?.getD 0)) := by
  have h : k = 0 ∨ k = 1 ∨ k = 2 ∨ k = 3 ∨ k = 4 ∨ k = 5 ∨ k = 6 ∨ k = 7 := by omega
  rcases h with rfl | rfl | rfl | rfl | rfl | rfl | rfl | rfl <;> rfl

set_option maxRecDepth 100000 in
set_option maxHeartbeats 4000000 in
/-- impl.value: the sum of each digit times its place -/
theorem value_in (F : Fence) (m : Nat) (hf1 : F.fn 37) (hf2 : F.fn 54) (hf3 : F.fn 65) (hro : F.round = none) (hm : 3 ≤ m)
    (b n cap : Nat) (zs : List Int) (hn : n = zs.length) (h8 : n ≤ 8) (hin : inB zs n) (d0 d1 d2 d3 d4 d5 d6 d7 : Int) (ho : Oct d0 d1 d2 d3 d4 d5 d6 d7) (w : World) (hS : Stk w b zs) :
    CallsIn F m Tryz.prog 37 #[.slice (some ⟨b, 0, none⟩) n cap, .agg #[.int .u8 d0, .int .u8 d1, .int .u8 d2, .int .u8 d3, .int .u8 d4, .int .u8 d5, .int .u8 d6, .int .u8 d7]] w fun e W' => e = .returned (.int .i64 (vfold zs [d0, d1, d2, d3, d4, d5, d6, d7] (List.finRange n))) ∧ Below w.heap.size w W' := by
  have h1 : 1 ≤ m := by omega
  have hlt := hS.1
  have hC := hid hS.2.1
  have hI := hid hin
  have hN := hid hn
  have hO := hid (fun k hk => oct_bd ho k hk)
  clear hS hin hn ho
  refine callsIn_of_wp_marks Tryz.func37 rfl hf1 ?_ hro
  simp only [Tryz.ntmps37, List.size_toArray, List.length_cons, List.length_nil, Nat.reduceAdd, Nat.reduceSub, Array.replicate_succ, Array.replicate_zero, List.push_toArray, List.append_toArray, List.nil_append, List.cons_append]
  gi_wp2_with (gi_at_call 54; refine (places_in F (m - 1) hf2 hro _ _ _ _).mono ?_; rintro e w' ⟨rfl, rfl⟩)
  have rD := Row.new w 30 [.int .u8 d0, .int .u8 d1, .int .u8 d2, .int .u8 d3, .int .u8 d4, .int .u8 d5, .int .u8 d6, .int .u8 d7]
  have bR := Boxed.new (w.alloc (.cells #[.int .u8 d0, .int .u8 d1, .int .u8 d2, .int .u8 d3, .int .u8 d4, .int .u8 d5, .int .u8 d6, .int .u8 d7] 30)) 2 (.int .i64 0)
  have bN := Boxed.new ((w.alloc (.cells #[.int .u8 d0, .int .u8 d1, .int .u8 d2, .int .u8 d3, .int .u8 d4, .int .u8 d5, .int .u8 d6, .int .u8 d7] 30)).alloc (.cells #[.int .i64 0] 2)) 24 (.slice (some ⟨b, 0, none⟩) n cap)
  rw [World.size_alloc] at bR
  rw [World.size_alloc, World.size_alloc] at bN
  have hB0 : Below w.heap.size w (((w.alloc (.cells #[.int .u8 d0, .int .u8 d1, .int .u8 d2, .int .u8 d3, .int .u8 d4, .int .u8 d5, .int .u8 d6, .int .u8 d7] 30)).alloc (.cells #[.int .i64 0] 2)).alloc (.cells #[.slice (some ⟨b, 0, none⟩) n cap] 24)) := (((Below.refl _ w).alloc (Nat.le_refl _) _).alloc (by simp) _).alloc (by simp; omega) _
  refine wpIn_rangeFunc_ownG hro h1 (gf := 65) (lb := #[.pointer (some ⟨w.heap.size + 1 + 1, 0, none⟩)]) rfl hf3 (enters_of Tryz.func65 (by kernel_rfl) rfl)
    (places_stops F (m - 1) hf3 hro (by omega) (w.heap.size + 1 + 1) w.heap.size b n cap zs hN.out h8 hI.out _ (by simp) (by simp; omega) hlt bN.cell (fun j hj => (hB0.cell (p := ⟨b, j, none⟩) hlt).trans (hC.out j (by rw [← hN.out]; exact hj)))) belowK_t (belowK_b (by simp; omega)) (Below.refl _ _) (fun _ => rfl)
    (fun pre W => ((∀ j, j < 8 → W.cell? ⟨w.heap.size, j, none⟩ = some (.int .u8 (([d0, d1, d2, d3, d4, d5, d6, d7] : List Int)[j]?.getD 0))) ∧ (W.cell? ⟨w.heap.size + 1, 0, none⟩ = some (.int .i64 (vfold zs [d0, d1, d2, d3, d4, d5, d6, d7] pre)) ∧ W.frozen? ⟨w.heap.size + 1, 0, none⟩ = false)) ∧ Below w.heap.size w W)
    (fun _ _ _ => False)
    (OwnFrom.and (Own.from (fun s A B row hs hg hr => ⟨fun j hj => cell_kept (hs.1 j hj) hg hr, cell_kept hs.2.1 hg hr, (frozen_kept hs.2.1 hg hr).trans hs.2.2⟩) _) (ownFrom_below (Nat.le_refl _) (by simp; omega)))
    (fun _ _ _ _ _ hs _ _ => hs)
    ⟨⟨fun j hj => (((rD.alloc _).alloc _).cell j).trans (oct_get d0 d1 d2 d3 d4 d5 d6 d7 j hj), (bR.alloc _).cell, (bR.alloc _).frozen⟩, hB0⟩
    (fun x => { tmps := #[.slice (some ⟨b, 0, none⟩) n cap, .agg #[.int .u8 d0, .int .u8 d1, .int .u8 d2, .int .u8 d3, .int .u8 d4, .int .u8 d5, .int .u8 d6, .int .u8 d7], undef, .pointer (some ⟨w.heap.size, 0, none⟩), .int .i64 0, .pointer (some ⟨w.heap.size + 1, 0, none⟩), .int .i64 (x.1 : Int), .int .i64 (szL (zs.take x.1)), .slice (some ⟨b, 0, none⟩) n cap, .func (.func 65) #[] #[.pointer (some ⟨w.heap.size + 1 + 1, 0, none⟩)], .int .i64 (x.1 : Int), .int .i64 (szL (zs.take x.1)), undef, undef, undef, undef, undef, undef, undef, undef, undef], defers := [] }) ?assign ?body ?done ?stop
  case assign =>
    intro l x W K hK
    gi_wp2
    exact hK
  case body =>
    rintro l pre x W ⟨⟨hd, hcr, hfr⟩, hB⟩ _
    have hk := x.2
    have hdx := hd x.1 (by omega)
    have hdb := hO.out x.1 (by omega)
    obtain ⟨s1, s2, _, _⟩ := szL_step zs x.1 (by rw [← hN.out]; exact hk) (by rw [← hN.out]; exact h8) (fun j hj => hI.out j (by omega))
    have HV := hid (vfold_snoc zs [d0, d1, d2, d3, d4, d5, d6, d7] pre x)
    have hD := hid hd
    clear hd
    obtain ⟨d, hd⟩ : ∃ d, d = ([d0, d1, d2, d3, d4, d5, d6, d7] : List Int)[x.1]?.getD 0 := ⟨_, rfl⟩
    obtain ⟨p, hp⟩ : ∃ p, p = szL (zs.take x.1) := ⟨_, rfl⟩
    obtain ⟨s, hs⟩ : ∃ s, s = vfold zs [d0, d1, d2, d3, d4, d5, d6, d7] pre := ⟨_, rfl⟩
    rw [← hd, ← hp, ← hs] at HV
    rw [← hd] at hdx hdb
    rw [← hp] at s1 s2
    rw [← hs] at hcr
    rw [← hp]
    clear hd hp hs
    have q1 : 0 ≤ d * p := Int.mul_nonneg (by omega) (by omega)
    have q2 : d * p ≤ 255 * 10000000000000000 := Int.mul_le_mul hdb.2 s2 (by omega) (by omega)
    gi_wp2
    have e1 : IntKind.i64.wrap d = d := IntWalk.i64_in _ (by omega)
    have e2 : IntKind.i64.wrap (d * p) = d * p := IntWalk.i64_in _ (by omega)
    have HW : Hid (IntKind.i64.wrap (s + IntKind.i64.wrap (IntKind.i64.wrap d * p)) = vfold zs [d0, d1, d2, d3, d4, d5, d6, d7] (pre ++ [x])) := by
      rw [e1, e2, HV.out, IntKind.wrap_i64]; exact hid (by unfold wrap64; omega)
    clear e1 e2
    gi_region
    all_goals
      exact ⟨((KeepsOthers.setCell _ _ _).trans (KeepsOthers.drew _)).from _, ((Below.refl w.heap.size W).setCell (p := ⟨w.heap.size + 1, 0, none⟩) (by show _ ≤ w.heap.size + 1; omega) _).drew,
        ⟨fun j hj => (cell_far (by show w.heap.size ≠ w.heap.size + 1; omega)).trans (hD.out j hj), by rw [World.cell?_drew, World.cell?_setCell_same' _ _ _ (by rw [hcr]; rfl), HW.out], by rw [World.frozen?_drew, World.frozen?_setCell]; exact hfr⟩, (hB.setCell (p := ⟨w.heap.size + 1, 0, none⟩) (by show _ ≤ w.heap.size + 1; omega) _).drew⟩
  case done =>
    rintro D ys W hD rfl ⟨⟨_, hc, _⟩, hB⟩ hK
    gi_wp2
    refine ⟨by simp, .inl ⟨_, _, rfl, run_takeDeferred hK, ?_⟩⟩
    exact ⟨_, results_tmp rfl _ _ _, rfl, hB.trans (belowK_b (w := w) (Nat.le_refl _) W D _ _ (by simp at hD; omega) hK rfl rfl)⟩
  case stop =>
    rintro D c pre W _ _ h _
    exact h.elim
end Go.Proofs.YtfifnngdmhdkiaaGreatDoor
namespace Go.Proofs.YtfifnngdmhdkiaaGreatDoor
open Go.RowKit

def sizeR (zs : List Int) : Int × Int := if okL zs then (szL zs, 0) else (0, 1)
theorem sizeR_no {zs : List Int} (h : okL zs = false) : sizeR zs = (0, 1) := by simp [sizeR, h]
theorem sizeR_yes {zs : List Int} (h : okL zs = true) : sizeR zs = (szL zs, 0) := by simp [sizeR, h]
theorem szC_eq {zs : List Int} (h : szL zs ≤ 1000000000000) : szC zs = szL zs := by unfold szC; omega

theorem l01Size_ok (b n cap : Nat) (zs : List Int) (w : World) (h : Stk w b zs) (hn : n = zs.length) (hv : okL zs = true) :
    Calls Tryz.prog 29 #[.slice (some ⟨b, 0, none⟩) n cap] w fun e w' => e = .returned (.int .i64 (szL zs)) ∧ w = w' := by
  obtain ⟨_, _, hin, _, hs⟩ := okL_out hv
  have := l01Size_any b n cap zs w h (by omega) (by rw [hn]; exact hin)
  rwa [hn, List.take_length, szC_eq hs, ← hn] at this
theorem l01Size_part (b n cap : Nat) (zs : List Int) (w : World) (h : Stk w b zs) (hn : n ≤ zs.length) (hv : okL zs = true) :
    Calls Tryz.prog 29 #[.slice (some ⟨b, 0, none⟩) n cap] w fun e w' => e = .returned (.int .i64 (szL (zs.take n))) ∧ w = w' := by
  obtain ⟨_, h8, hin, _, hs⟩ := okL_out hv
  have := l01Size_any b n cap zs w h hn (fun j hj => hin j (by omega))
  have hle : szL (zs.take n) ≤ szL zs := by
    have key : ∀ k, n + k ≤ zs.length → szL (zs.take n) ≤ szL (zs.take (n + k)) := by
      intro k
      induction k with
      | zero => intro _; exact Int.le_refl _
      | succ k ih =>
        intro hk
        have a := ih (by omega)
        have c := szL_mono zs (n + k) (by omega) (fun j hj => hin j (by omega))
        have d := (szL_bd zs (n + k) (by omega) (fun j hj => hin j (by omega))).1
        show _ ≤ szL (zs.take (n + k + 1))
        omega
    have := key (zs.length - n) (by omega)
    rwa [show n + (zs.length - n) = zs.length from by omega, List.take_length] at this
  rwa [show szC (zs.take n) = szL (zs.take n) from szC_eq (by omega)] at this

theorem implSizeOf_any (b n cap : Nat) (zs : List Int) (w : World) (h : Stk w b zs) (hn : n = zs.length) :
    Calls Tryz.prog 7 #[.slice (some ⟨b, 0, none⟩) n cap] w fun e w' => e = .returned (.tuple #[.int .i64 (sizeR zs).1, .int .i64 (sizeR zs).2]) ∧ Below w.heap.size w w' := by
  have H := hid h; have N := hid hn
  clear h hn
  cases hv : okL zs with
  | false =>
    rw [sizeR_no hv]
    have hv' := hid hv
    clear hv
    go_enter Tryz.func7, Tryz.ntmps7
    go_wp2_with (go_at_call 17; refine (validStack_any _ _ _ zs _ H.out N.out).mono ?_; rw [hv'.out]; rintro e w' ⟨rfl, rfl⟩)
    go_ret2
    exact ⟨rfl, Below.refl _ _⟩
  | true =>
    rw [sizeR_yes hv]
    have hv' := hid hv
    clear hv
    go_enter Tryz.func7, Tryz.ntmps7
    go_wp2_with (first | (go_at_call 17; refine (validStack_any _ _ _ zs _ H.out N.out).mono ?_; rw [hv'.out]; rintro e w' ⟨rfl, rfl⟩) | (go_at_call 31; refine (size_any _ _ _ zs N.out hv'.out _ H.out).mono ?_; rintro e w' ⟨rfl, hB⟩))
    go_ret2
    exact ⟨rfl, hB⟩
def placeR (zs : List Int) (k : Int) : Int × Int := if okL zs then (if 0 ≤ k ∧ k < zs.length then (szL (zs.take k.toNat), 0) else (0, 2)) else (0, 1)
theorem placeR_no {zs : List Int} (k : Int) (h : okL zs = false) : placeR zs k = (0, 1) := by simp [placeR, h]
theorem placeR_out {zs : List Int} (k : Int) (h : okL zs = true) (hk : ¬ (0 ≤ k ∧ k < zs.length)) : placeR zs k = (0, 2) := by simp only [placeR, h, if_true, if_neg hk]
theorem placeR_yes {zs : List Int} (k : Nat) (h : okL zs = true) (hk : k < zs.length) : placeR zs (k : Int) = (szL (zs.take k), 0) := by
  simp only [placeR, h, if_true]
  rw [if_pos (by omega), Int.toNat_natCast]

theorem hasWheel_yes (a : Option Addr) (n cap : Nat) (k : Int) (hk : 0 ≤ k ∧ k < n) (w : World) : Calls Tryz.prog 48 #[.slice a n cap, .int .i64 k] w fun e w' => e = .returned (.bool true) ∧ w = w' := by
  obtain ⟨j, rfl⟩ := Int.eq_ofNat_of_zero_le hk.1
  have h2 : j < n := by omega
  have h3 : decide (j < n) = true := by simp; exact h2
  clear hk
  go_enter Tryz.func48, Tryz.ntmps48
  go_wp2
  go_ret
  exact ⟨rfl, rfl⟩
theorem hasWheel_no (a : Option Addr) (n cap : Nat) (k : Int) (hk : ¬ (0 ≤ k ∧ k < n)) (w : World) : Calls Tryz.prog 48 #[.slice a n cap, .int .i64 k] w fun e w' => e = .returned (.bool false) ∧ w = w' := by
  by_cases h0 : 0 ≤ k
  · obtain ⟨j, rfl⟩ := Int.eq_ofNat_of_zero_le h0
    have h2 : n ≤ j := by omega
    have h3 : decide (j < n) = false := by simp; exact h2
    clear hk h0
    go_enter Tryz.func48, Tryz.ntmps48
    go_wp2
    go_ret
    exact ⟨rfl, rfl⟩
  · have h3 : decide (0 ≤ k) = false := by simp; omega
    have h4 : k < 0 := by omega
    clear hk
    go_enter Tryz.func48, Tryz.ntmps48
    go_wp2
    go_ret
    exact ⟨rfl, rfl⟩
set_option maxHeartbeats 1000000 in
theorem implPlaceOf_any (b n cap : Nat) (zs : List Int) (k : Int) (w : World) (h : Stk w b zs) (hn : n = zs.length) (hc : n ≤ cap) :
    Calls Tryz.prog 24 #[.slice (some ⟨b, 0, none⟩) n cap, .int .i64 k] w fun e w' => e = .returned (.tuple #[.int .i64 (placeR zs k).1, .int .i64 (placeR zs k).2]) ∧ Below w.heap.size w w' := by
  have H := hid h; have N := hid hn
  have hn20 : n ≤ 1048576 := by rw [hn]; exact h.2.2.2
  cases hv : okL zs with
  | false =>
    rw [placeR_no k hv]
    have V := hid hv
    clear h hn hv
    go_enter Tryz.func24, Tryz.ntmps24
    go_wp2_with (go_at_call 17; refine (validStack_any _ _ _ zs _ H.out N.out).mono ?_; rw [V.out]; rintro e w' ⟨rfl, rfl⟩)
    go_ret2
    exact ⟨rfl, Below.refl _ _⟩
  | true =>
    by_cases hk : 0 ≤ k ∧ k < n
    · obtain ⟨k, rfl⟩ := Int.eq_ofNat_of_zero_le hk.1
      have hk : k < n := by omega
      rw [placeR_yes k hv (by omega)]
      have V := hid hv
      have hin := hid (show inB zs n by rw [hn]; exact (okL_out hv).2.2.1)
      have h8 : n ≤ 8 := by rw [hn]; exact (okL_out hv).2.1
      clear h hn hv
      go_enter Tryz.func24, Tryz.ntmps24
      go_wp2_with (first | (go_at_call 17; refine (validStack_any _ _ _ zs _ H.out N.out).mono ?_; rw [V.out]; rintro e w' ⟨rfl, rfl⟩) | (go_at_call 48; refine (hasWheel_yes _ _ _ _ (by omega) _).mono ?_; rintro e w' ⟨rfl, rfl⟩) | (go_at_call 49; refine (place_any _ _ _ k zs N.out h8 hin.out hk _ H.out).mono ?_; rintro e w' ⟨rfl, hB⟩))
      go_ret2
      exact ⟨rfl, hB⟩
    · rw [placeR_out k hv (by rw [← hn]; exact hk)]
      have V := hid hv
      clear h hn hv
      go_enter Tryz.func24, Tryz.ntmps24
      go_wp2_with (first | (go_at_call 17; refine (validStack_any _ _ _ zs _ H.out N.out).mono ?_; rw [V.out]; rintro e w' ⟨rfl, rfl⟩) | (go_at_call 48; refine (hasWheel_no _ _ _ _ hk _).mono ?_; rintro e w' ⟨rfl, rfl⟩))
      go_ret2
      exact ⟨rfl, Below.refl _ _⟩

end Go.Proofs.YtfifnngdmhdkiaaGreatDoor
namespace Go.Proofs.YtfifnngdmhdkiaaGreatDoor
open Go.RowKit

def hdB (zs : List Int) (k x : Int) : Prop := (0 ≤ k ∧ k < zs.length) ∧ 0 ≤ x ∧ x < zs[k.toNat]?.getD 0
/-- how many values less than e have a digit x on a wheel with the place p and the base z -/
def belowF (p z x e : Int) : Int := e / (p * z) * p + min (max (e % (p * z) - x * p) 0) p
theorem belowF_bd (p z x e : Int) (hp : 1 ≤ p) (hz : 2 ≤ z) (he : 0 ≤ e) : 0 ≤ belowF p z x e ∧ belowF p z x e ≤ e + p := by
  unfold belowF
  have hc : 1 * 1 ≤ p * z := Int.mul_le_mul hp (by omega) (by omega) (by omega)
  have h0 := Int.ediv_nonneg he (show 0 ≤ p * z by omega)
  have h1 : 0 ≤ e / (p * z) * p := Int.mul_nonneg h0 (by omega)
  have h2 : e / (p * z) * p ≤ e / (p * z) * (p * z) := Int.mul_le_mul_of_nonneg_left (by have : p * 1 ≤ p * z := Int.mul_le_mul_of_nonneg_left (by omega) (by omega); omega) h0
  have h3 := Int.ediv_mul_le e (show p * z ≠ 0 by omega)
  omega

theorem hasValue_yes (b n cap : Nat) (zs : List Int) (v : Int) (w : World) (h : Stk w b zs) (hn : n = zs.length) (hv : okL zs = true) (hx : 0 ≤ v ∧ v < szL zs) :
    Calls Tryz.prog 32 #[.slice (some ⟨b, 0, none⟩) n cap, .int .i64 v] w fun e w' => e = .returned (.bool true) ∧ Below w.heap.size w w' := by
  have hX := hid (size_any b n cap zs hn hv w h)
  clear h hn hv
  have d0 : decide (0 ≤ v) = true := by simp; omega
  have d1 : decide (v < szL zs) = true := by simp; omega
  go_enter Tryz.func32, Tryz.ntmps32
  go_wp2_with (go_at_call 31; refine hX.out.mono ?_; rintro e w' ⟨rfl, hB⟩)
  go_ret
  exact ⟨rfl, hB⟩
theorem hasValue_no (b n cap : Nat) (zs : List Int) (v : Int) (w : World) (h : Stk w b zs) (hn : n = zs.length) (hv : okL zs = true) (hx : ¬ (0 ≤ v ∧ v < szL zs)) :
    Calls Tryz.prog 32 #[.slice (some ⟨b, 0, none⟩) n cap, .int .i64 v] w fun e w' => e = .returned (.bool false) ∧ Below w.heap.size w w' := by
  have hX := hid (size_any b n cap zs hn hv w h)
  clear h hn hv
  by_cases h0 : 0 ≤ v
  · have d0 : decide (0 ≤ v) = true := by simp; omega
    have d1 : decide (v < szL zs) = false := by simp; omega
    have d2 : szL zs ≤ v := by omega
    clear hx
    go_enter Tryz.func32, Tryz.ntmps32
    go_wp2_with (go_at_call 31; refine hX.out.mono ?_; rintro e w' ⟨rfl, hB⟩)
    go_ret
    exact ⟨rfl, hB⟩
  · have d0 : decide (0 ≤ v) = false := by simp; omega
    clear hx
    go_enter Tryz.func32, Tryz.ntmps32
    go_wp2_with fail
    go_ret
    exact ⟨rfl, Below.refl _ _⟩
end Go.Proofs.YtfifnngdmhdkiaaGreatDoor
namespace Go.Proofs.YtfifnngdmhdkiaaGreatDoor
open Go.RowKit

/-- eight bytes lie from the head of a block on -/
def Oc (w : World) (g : Nat) (d0 d1 d2 d3 d4 d5 d6 d7 : Int) : Prop :=
  w.cell? ⟨g, 0, none⟩ = some (.int .u8 d0) ∧ w.cell? ⟨g, 1, none⟩ = some (.int .u8 d1) ∧ w.cell? ⟨g, 2, none⟩ = some (.int .u8 d2) ∧ w.cell? ⟨g, 3, none⟩ = some (.int .u8 d3) ∧ w.cell? ⟨g, 4, none⟩ = some (.int .u8 d4) ∧ w.cell? ⟨g, 5, none⟩ = some (.int .u8 d5) ∧ w.cell? ⟨g, 6, none⟩ = some (.int .u8 d6) ∧ w.cell? ⟨g, 7, none⟩ = some (.int .u8 d7)
theorem Oc.below {w w' : World} {g n : Nat} {d0 d1 d2 d3 d4 d5 d6 d7 : Int} (h : Oc w g d0 d1 d2 d3 d4 d5 d6 d7) (hb : Below n w w') (hn : g < n) : Oc w' g d0 d1 d2 d3 d4 d5 d6 d7 :=
  ⟨(hb.cell (p := ⟨g, 0, none⟩) hn).trans h.1, (hb.cell (p := ⟨g, 1, none⟩) hn).trans h.2.1, (hb.cell (p := ⟨g, 2, none⟩) hn).trans h.2.2.1, (hb.cell (p := ⟨g, 3, none⟩) hn).trans h.2.2.2.1,
   (hb.cell (p := ⟨g, 4, none⟩) hn).trans h.2.2.2.2.1, (hb.cell (p := ⟨g, 5, none⟩) hn).trans h.2.2.2.2.2.1, (hb.cell (p := ⟨g, 6, none⟩) hn).trans h.2.2.2.2.2.2.1, (hb.cell (p := ⟨g, 7, none⟩) hn).trans h.2.2.2.2.2.2.2⟩
theorem Oc.new (w : World) (t : TypeId) (d0 d1 d2 d3 d4 d5 d6 d7 : Int) : Oc (w.alloc (.cells #[.int .u8 d0, .int .u8 d1, .int .u8 d2, .int .u8 d3, .int .u8 d4, .int .u8 d5, .int .u8 d6, .int .u8 d7] t)) w.heap.size d0 d1 d2 d3 d4 d5 d6 d7 := by
  have h := (Row.new w t [.int .u8 d0, .int .u8 d1, .int .u8 d2, .int .u8 d3, .int .u8 d4, .int .u8 d5, .int .u8 d6, .int .u8 d7]).cell
  exact ⟨h 0, h 1, h 2, h 3, h 4, h 5, h 6, h 7⟩

end Go.Proofs.YtfifnngdmhdkiaaGreatDoor
namespace Go.Proofs.YtfifnngdmhdkiaaGreatDoor
open Go.RowKit

/-- what the model has reckoned when the wheels from k on are done -/
def horn (zs ds : List Int) (n k : Nat) (h : Int) : Prop := 0 ≤ h ∧ valL zs ds n = h * szL (zs.take k) + valL zs ds k
theorem horn_bd {zs ds : List Int} {n k : Nat} {h : Int} (H : horn zs ds n k h) (hk : k ≤ n) (hn : n ≤ zs.length) (h8 : zs.length ≤ 8) (hi : inB zs n) (hl : ltTo zs ds n) : h ≤ 10000000000000000 := by
  have a := (szL_bd zs k (by omega) (fun j hj => hi j (by omega))).1
  have b := (valL_bd zs ds k (by omega) (fun j hj => hi j (by omega)) (fun j hj => hl j (by omega))).1
  have c := (valL_bd zs ds n hn hi hl).2
  have d := szL_bd zs n hn hi
  have e := pow_bd n (by omega)
  have f : h * 1 ≤ h * szL (zs.take k) := Int.mul_le_mul_of_nonneg_left a H.1
  have g := H.2
  omega
theorem horn_step {zs ds : List Int} {n k : Nat} {h : Int} (H : horn zs ds n (k + 1) h) (hk : k + 1 ≤ n) (hn : n ≤ zs.length) (hi : inB zs n) (hl : ltTo zs ds n) :
    horn zs ds n k (h * zs[k]?.getD 0 + ds[k]?.getD 0) := by
  have hz := hi k (by omega)
  have hd := hl k (by omega)
  refine ⟨by have := Int.mul_nonneg H.1 (show 0 ≤ zs[k]?.getD 0 by omega); omega, ?_⟩
  rw [H.2, szL_take zs k (by omega)]
  show _ = _
  simp only [valL]
  rw [Int.add_mul, Int.mul_assoc, Int.mul_comm (szL (zs.take k)) (zs[k]?.getD 0)]
  omega
theorem horn_end {zs ds : List Int} {n : Nat} {h : Int} (H : horn zs ds n 0 h) : h = valL zs ds n := by
  have := H.2
  simp [szL, valL] at this
  omega

set_option maxHeartbeats 4000000 in
theorem l01Value_any (b n cap : Nat) (zs : List Int) (d0 d1 d2 d3 d4 d5 d6 d7 : Int) (w : World) (h : Stk w b zs) (hn : n ≤ zs.length) (h8 : zs.length ≤ 8) (hi : inB zs n) (ho : Oct d0 d1 d2 d3 d4 d5 d6 d7)
    (hl : ltTo zs [d0, d1, d2, d3, d4, d5, d6, d7] n) :
    Calls Tryz.prog 81 #[.slice (some ⟨b, 0, none⟩) n cap, .agg #[.int .u8 d0, .int .u8 d1, .int .u8 d2, .int .u8 d3, .int .u8 d4, .int .u8 d5, .int .u8 d6, .int .u8 d7]] w
      fun e w' => e = .returned (.int .i64 (valL zs [d0, d1, d2, d3, d4, d5, d6, d7] n)) ∧ Below w.heap.size w w' := by
  have hO := hid (fun k hk => oct_bd ho k hk)
  have hB0 := fun (o : Obj) => (Below.refl w.heap.size w).alloc (Nat.le_refl _) o
  have hC := hid (fun (o : Obj) => (h.below (hB0 o) h.1).2.1)
  have hB := hid hB0
  have hR := hid ((Row.new w 30 [.int .u8 d0, .int .u8 d1, .int .u8 d2, .int .u8 d3, .int .u8 d4, .int .u8 d5, .int .u8 d6, .int .u8 d7]).cell)
  have HI := hid hi
  have HL := hid hl
  have n8 : n ≤ 8 := by omega
  have HN := hid hn
  have H8 := hid h8
  clear h ho hB0 hi hl hn h8
  go_enter Tryz.func81, Tryz.ntmps81
  go_wp2
  go_loopw [5, 6] (fun s i wr => ∃ (k : Nat) (q : Int), k ≤ n ∧ i = .int .i64 ((k : Int) - 1) ∧ s = .int .i64 q ∧ horn zs [d0, d1, d2, d3, d4, d5, d6, d7] n k q ∧ ∃ t, wr = (w.alloc (.cells #[.int .u8 d0, .int .u8 d1, .int .u8 d2, .int .u8 d3, .int .u8 d4, .int .u8 d5, .int .u8 d6, .int .u8 d7] 30)).drewN t) (fun _ i _ => (intOf i + 1).toNat)
  case atStart => exact ⟨n, 0, Nat.le_refl _, rfl, rfl, ⟨Int.le_refl _, by omega⟩, 0, rfl⟩
  case round =>
    obtain ⟨k, q, hk, rfl, rfl, hH, t, rfl⟩ := hrel
    by_cases hlt : 0 < k
    · obtain ⟨k, rfl⟩ : ∃ j, k = j + 1 := ⟨k - 1, by omega⟩
      have hc := hR.out k
      rw [show ([Value.int .u8 d0, .int .u8 d1, .int .u8 d2, .int .u8 d3, .int .u8 d4, .int .u8 d5, .int .u8 d6, .int .u8 d7] : List Value)[k]? = some (.int .u8 (([d0, d1, d2, d3, d4, d5, d6, d7] : List Int)[k]?.getD 0)) from oct_get d0 d1 d2 d3 d4 d5 d6 d7 k (by omega)] at hc
      have hdb := hO.out k (by omega)
      have hx := hC.out (.cells #[.int .u8 d0, .int .u8 d1, .int .u8 d2, .int .u8 d3, .int .u8 d4, .int .u8 d5, .int .u8 d6, .int .u8 d7] 30) k (by have := HN.out; omega)
      have hzb := HI.out k (by omega)
      have hS := hid (horn_step hH hk HN.out HI.out HL.out)
      have hbd := horn_bd hS.out (by omega) HN.out H8.out HI.out HL.out
      have hq0 := hH.1
      have hqb := horn_bd hH hk HN.out H8.out HI.out HL.out
      clear hH
      obtain ⟨d, hd⟩ : ∃ d, d = ([d0, d1, d2, d3, d4, d5, d6, d7] : List Int)[k]?.getD 0 := ⟨_, rfl⟩
      obtain ⟨z, hz⟩ : ∃ z, z = zs[k]?.getD 0 := ⟨_, rfl⟩
      rw [← hd] at hc hdb hS hbd
      rw [← hz] at hx hzb hS hbd
      clear hd hz
      have q1 : 0 ≤ q * z := Int.mul_nonneg hq0 (by omega)
      have e0 : (((k + 1 : Nat) : Int) - 1) = (k : Int) := by omega
      have w1 : IntKind.i64.wrap z = z := IntWalk.i64_in z (by omega)
      have w2 : IntKind.i64.wrap d = d := IntWalk.i64_in d (by omega)
      have w3 : IntKind.i64.wrap (q * z) = q * z := IntWalk.i64_in _ (by omega)
      have w4 : IntKind.i64.wrap (q * z + d) = q * z + d := IntWalk.i64_in _ (by omega)
      have k0 : (0 : Int) ≤ (k : Int) := by omega
      have kn : (k : Int) < (n : Int) := by omega
      rw [e0]
      go_wp2
      go_quiet (fail)
      clear w1 w2 w3 w4
      go_wp2
      all_goals go_roundw
      case rel => exact ⟨k, q * z + d, by omega, by go_num, rfl, hS.out, _, rfl⟩
      case measure => simp [intOf]
    · obtain rfl : k = 0 := by omega
      have hE := hid (horn_end hH)
      clear hH
      go_wp2
      go_ret
      exact ⟨by rw [← hE.out]; rfl, below_drewN (hB.out _) t⟩

theorem Stk.take {w : World} {b : Nat} {zs : List Int} (h : Stk w b zs) (k : Nat) (hk : k ≤ zs.length) : Stk w b (zs.take k) :=
  ⟨h.1, fun j hj => by
    have hj' : j < k := by simpa using (Nat.lt_min.1 (by simpa using hj)).1
    rw [h.2.1 j (by omega)]; simp [hj'], fun z hz => h.2.2.1 z (List.mem_of_mem_take hz), by simp; have := h.2.2.2; omega⟩
theorem take_take' (zs : List Int) (j k : Nat) (h : j ≤ k) : (zs.take k).take j = zs.take j := by rw [List.take_take, Nat.min_eq_left h]
theorem valL_take (zs ds : List Int) (k : Nat) : ∀ j, j ≤ k → valL (zs.take k) ds j = valL zs ds j
  | 0, _ => rfl
  | j + 1, h => by
    simp only [valL]
    rw [valL_take zs ds k j (by omega), take_take' zs j k (by omega)]
theorem inB_take {zs : List Int} {n k : Nat} (h : inB zs n) (hk : k ≤ n) : inB (zs.take k) k := fun j hj => by
  have := h j (by omega)
  simpa [hj] using this
theorem ltTo_take {zs ds : List Int} {n k : Nat} (h : ltTo zs ds n) (hk : k ≤ n) : ltTo (zs.take k) ds k := fun j hj => by
  have := h j (by omega)
  simpa [hj] using this

/-- impl.value over the first k wheels of a valid stack -/
theorem value_any (b k cap : Nat) (zs : List Int) (d0 d1 d2 d3 d4 d5 d6 d7 : Int) (ho : Oct d0 d1 d2 d3 d4 d5 d6 d7) (hv : okV zs [d0, d1, d2, d3, d4, d5, d6, d7] = true) (hk : k ≤ zs.length) (w : World) (hS : Stk w b zs) :
    Calls Tryz.prog 37 #[.slice (some ⟨b, 0, none⟩) k cap, .agg #[.int .u8 d0, .int .u8 d1, .int .u8 d2, .int .u8 d3, .int .u8 d4, .int .u8 d5, .int .u8 d6, .int .u8 d7]] w fun e W' => e = .returned (.int .i64 (valL zs [d0, d1, d2, d3, d4, d5, d6, d7] k)) ∧ Below w.heap.size w W' := by
  obtain ⟨hv1, hv2⟩ := okV_out hv
  obtain ⟨_, h8, hin, _, _⟩ := okL_out hv1
  have hlt := okD_lt hv2 h8 (fun j hj => (oct_bd ho j hj).1)
  have hlen : k = (zs.take k).length := by simp; omega
  have h := callsIn_wide.1 (value_in Fence.wide 8 trivial trivial trivial rfl (by omega) b k cap (zs.take k) hlen (by omega) (inB_take hin hk) d0 d1 d2 d3 d4 d5 d6 d7 ho w (hS.take k hk))
  rw [vfold_all (zs.take k) [d0, d1, d2, d3, d4, d5, d6, d7] (by omega) (by omega) (inB_take hin hk) (ltTo_take hlt hk), valL_take zs [d0, d1, d2, d3, d4, d5, d6, d7] k k (Nat.le_refl _)] at h
  exact h
theorem l01Value_ok (b k cap : Nat) (zs : List Int) (d0 d1 d2 d3 d4 d5 d6 d7 : Int) (ho : Oct d0 d1 d2 d3 d4 d5 d6 d7) (hv : okV zs [d0, d1, d2, d3, d4, d5, d6, d7] = true) (hk : k ≤ zs.length) (w : World) (hS : Stk w b zs) :
    Calls Tryz.prog 81 #[.slice (some ⟨b, 0, none⟩) k cap, .agg #[.int .u8 d0, .int .u8 d1, .int .u8 d2, .int .u8 d3, .int .u8 d4, .int .u8 d5, .int .u8 d6, .int .u8 d7]] w fun e W' => e = .returned (.int .i64 (valL zs [d0, d1, d2, d3, d4, d5, d6, d7] k)) ∧ Below w.heap.size w W' := by
  obtain ⟨hv1, hv2⟩ := okV_out hv
  obtain ⟨_, h8, hin, _, _⟩ := okL_out hv1
  have hlt := okD_lt hv2 h8 (fun j hj => (oct_bd ho j hj).1)
  exact l01Value_any b k cap zs d0 d1 d2 d3 d4 d5 d6 d7 w hS hk h8 (fun j hj => hin j (by omega)) ho (fun j hj => hlt j (by omega))

def valueR (zs ds : List Int) : Int × Int := if okV zs ds then (valL zs ds zs.length, 0) else (0, 1)
theorem valueR_no {zs ds : List Int} (h : okV zs ds = false) : valueR zs ds = (0, 1) := by simp [valueR, h]
theorem valueR_yes {zs ds : List Int} (h : okV zs ds = true) : valueR zs ds = (valL zs ds zs.length, 0) := by simp [valueR, h]
def lastR (zs ds : List Int) (k : Int) : Int × Int := if okV zs ds then (if 0 ≤ k ∧ k ≤ zs.length then (valL zs ds k.toNat, 0) else (0, 2)) else (0, 1)
theorem lastR_no {zs ds : List Int} (k : Int) (h : okV zs ds = false) : lastR zs ds k = (0, 1) := by simp [lastR, h]
theorem lastR_out {zs ds : List Int} (k : Int) (h : okV zs ds = true) (hk : ¬ (0 ≤ k ∧ k ≤ zs.length)) : lastR zs ds k = (0, 2) := by simp only [lastR, h, if_true, if_neg hk]
theorem lastR_yes {zs ds : List Int} (k : Nat) (h : okV zs ds = true) (hk : k ≤ zs.length) : lastR zs ds (k : Int) = (valL zs ds k, 0) := by
  simp only [lastR, h, if_true]
  rw [if_pos (by omega), Int.toNat_natCast]

set_option maxHeartbeats 1000000 in
theorem implValueOf_any (b n cap : Nat) (zs : List Int) (d0 d1 d2 d3 d4 d5 d6 d7 : Int) (w : World) (h : Stk w b zs) (hn : n = zs.length) (_ : n ≤ cap) (ho : Oct d0 d1 d2 d3 d4 d5 d6 d7) :
    Calls Tryz.prog 10 #[.slice (some ⟨b, 0, none⟩) n cap, .agg #[.int .u8 d0, .int .u8 d1, .int .u8 d2, .int .u8 d3, .int .u8 d4, .int .u8 d5, .int .u8 d6, .int .u8 d7]] w fun e w' => e = .returned (.tuple #[.int .i64 (valueR zs [d0, d1, d2, d3, d4, d5, d6, d7]).1, .int .i64 (valueR zs [d0, d1, d2, d3, d4, d5, d6, d7]).2]) ∧ Below w.heap.size w w' := by
  have N := hid hn; have HO := hid ho
  have hB0 : Below w.heap.size w (w.alloc (.cells #[.int .u8 d0, .int .u8 d1, .int .u8 d2, .int .u8 d3, .int .u8 d4, .int .u8 d5, .int .u8 d6, .int .u8 d7] 30)) := (Below.refl w.heap.size w).alloc (Nat.le_refl _) _
  have H1 := hid (h.below hB0 h.1)
  have oc := Oc.new w 30 d0 d1 d2 d3 d4 d5 d6 d7
  clear h hn ho
  cases hv : okV zs [d0, d1, d2, d3, d4, d5, d6, d7] with
  | false =>
    rw [valueR_no hv]
    have V := hid hv
    clear hv
    go_enter Tryz.func10, Tryz.ntmps10
    go_wp2_with fail
    have hX := validDigits_any _ n cap zs d0 d1 d2 d3 d4 d5 d6 d7 _ H1.out N.out HO.out
    rw [V.out] at hX
    refine hX.mono ?_
    clear hX
    rintro e w1 ⟨rfl, hB1⟩
    go_wp2_with fail
    go_ret2
    exact ⟨rfl, hB0.trans (hB1.mono (by simp))⟩
  | true =>
    rw [valueR_yes hv]
    have V := hid hv
    clear hv
    go_enter Tryz.func10, Tryz.ntmps10
    go_wp2_with fail
    have hX := validDigits_any _ n cap zs d0 d1 d2 d3 d4 d5 d6 d7 _ H1.out N.out HO.out
    rw [V.out] at hX
    refine hX.mono ?_
    clear hX
    rintro e w1 ⟨rfl, hB1⟩
    have hz1 := hB1.size
    simp only [World.size_alloc] at hB1 hz1
    obtain ⟨f0, f1, f2, f3, f4, f5, f6, f7⟩ := oc.below hB1 (by omega)
    have H2 := hid (H1.out.below hB1 (by have := H1.out.1; simp only [World.size_alloc] at this; exact this))
    go_wp2_with fail
    have hX := value_any _ n cap zs d0 d1 d2 d3 d4 d5 d6 d7 HO.out V.out (Nat.le_of_eq N.out) _ H2.out
    rw [show valL zs [d0, d1, d2, d3, d4, d5, d6, d7] n = valL zs [d0, d1, d2, d3, d4, d5, d6, d7] zs.length from by rw [← N.out]] at hX
    refine hX.mono ?_
    clear hX f0 f1 f2 f3 f4 f5 f6 f7
    rintro e w2 ⟨rfl, hB2⟩
    go_wp2_with fail
    go_ret2
    exact ⟨rfl, hB0.trans ((hB1.mono (by omega)).trans (hB2.mono (by omega)))⟩

end Go.Proofs.YtfifnngdmhdkiaaGreatDoor
namespace Go.Proofs.YtfifnngdmhdkiaaGreatDoor
open Go.RowKit

open Classical in
noncomputable def nxtR (zs ds : List Int) (k x : Int) : Int × Int :=
  if okV zs ds then (if hdB zs k x then (if ds[k.toNat]?.getD 0 = x then (0, 0) else
    ((if x - ds[k.toNat]?.getD 0 < 0 then x - ds[k.toNat]?.getD 0 + zs[k.toNat]?.getD 0 else x - ds[k.toNat]?.getD 0) * szL (zs.take k.toNat) - valL zs ds k.toNat, 0)) else (0, 2)) else (0, 1)
theorem nxtR_no {zs ds : List Int} (k x : Int) (h : okV zs ds = false) : nxtR zs ds k x = (0, 1) := by simp [nxtR, h]
theorem nxtR_out {zs ds : List Int} (k x : Int) (h : okV zs ds = true) (hk : ¬ hdB zs k x) : nxtR zs ds k x = (0, 2) := by simp only [nxtR, h, if_true, if_neg hk]
theorem nxtR_same {zs ds : List Int} (k : Nat) (x : Int) (h : okV zs ds = true) (hk : hdB zs k x) (hx : ds[k]?.getD 0 = x) : nxtR zs ds k x = (0, 0) := by simp only [nxtR, h, if_true, if_pos hk, Int.toNat_natCast, if_pos hx]
theorem nxtR_yes {zs ds : List Int} (k : Nat) (x : Int) (h : okV zs ds = true) (hk : hdB zs k x) (hx : ¬ ds[k]?.getD 0 = x) :
    nxtR zs ds k x = ((if x - ds[k]?.getD 0 < 0 then x - ds[k]?.getD 0 + zs[k]?.getD 0 else x - ds[k]?.getD 0) * szL (zs.take k) - valL zs ds k, 0) := by simp only [nxtR, h, if_true, if_pos hk, Int.toNat_natCast, if_neg hx]

theorem horn_any {zs ds : List Int} {n : Nat} (hn : n ≤ zs.length) (hi : inB zs n) (hl : ltTo zs ds n) : ∀ j k, k + j = n → ∃ g, horn zs ds n k g
  | 0, k, hk => ⟨0, Int.le_refl _, by obtain rfl : k = n := by omega
                                      omega⟩
  | j + 1, k, hk => by
    obtain ⟨g, hg⟩ := horn_any hn hi hl j (k + 1) (by omega)
    exact ⟨_, horn_step hg (by omega) hn hi hl⟩
theorem nxt_mod (g p z x d low : Int) (hp : 1 ≤ p) (hz : 2 ≤ z) (hx : 0 ≤ x ∧ x < z) (hd : 0 ≤ d ∧ d < z) (hl : 0 ≤ low ∧ low < p) (hxd : ¬ d = x) :
    (x * p - (g * (p * z) + (low + d * p))) % (p * z) = (if x - d < 0 then x - d + z else x - d) * p - low := by
  have hc : 0 < p * z := Int.mul_pos (by omega) (by omega)
  by_cases h : x - d < 0
  · rw [if_pos h]
    have a1 : 1 * p ≤ (x - d + z) * p := Int.mul_le_mul_of_nonneg_right (by omega) (by omega)
    have a2 : (x - d + z) * p ≤ (z - 1) * p := Int.mul_le_mul_of_nonneg_right (by omega) (by omega)
    have a3 : (z - 1) * p = p * z - p := by rw [Int.sub_mul, Int.mul_comm z p]; omega
    refine ((Int.ediv_emod_unique (q := -g - 1) hc).2 ⟨?_, by omega, by omega⟩).2
    rw [Int.mul_sub, Int.mul_neg, Int.add_mul, Int.sub_mul, Int.mul_comm z p, Int.mul_comm (p * z) g]
    omega
  · rw [if_neg h]
    have a1 : 1 * p ≤ (x - d) * p := Int.mul_le_mul_of_nonneg_right (by omega) (by omega)
    have a2 : (x - d) * p ≤ (z - 1) * p := Int.mul_le_mul_of_nonneg_right (by omega) (by omega)
    have a3 : (z - 1) * p = p * z - p := by rw [Int.sub_mul, Int.mul_comm z p]; omega
    refine ((Int.ediv_emod_unique (q := -g) hc).2 ⟨?_, by omega, by omega⟩).2
    rw [Int.mul_neg, Int.sub_mul, Int.mul_comm (p * z) g]
    omega
/-- the numbers that NextWith reckons with, and their bounds -/
theorem nxt_facts {zs ds : List Int} (k : Nat) (x : Int) (hv : okL zs = true) (hl : ltTo zs ds zs.length) (hk : k < zs.length) (hx : 0 ≤ x ∧ x < zs[k]?.getD 0) :
    ∃ p z d low V c : Int, p = szL (zs.take k) ∧ z = zs[k]?.getD 0 ∧ d = ds[k]?.getD 0 ∧ low = valL zs ds k ∧ V = valL zs ds zs.length ∧ c = szL (zs.take (k + 1)) ∧ c = p * z ∧
      (1 ≤ p ∧ p ≤ 10000000000000000) ∧ (2 ≤ z ∧ z ≤ 100) ∧ (0 ≤ d ∧ d < z) ∧ (0 ≤ low ∧ low < p) ∧ (0 ≤ V ∧ V ≤ 1000000000000) ∧ (1 ≤ c ∧ c ≤ 10000000000000000) ∧
      (0 ≤ x * p ∧ x * p ≤ 1000000000000000000) ∧
      (¬ d = x → (x * p - V) % c = (if x - d < 0 then x - d + z else x - d) * p - low) := by
  obtain ⟨_, h8, hin, _, hs⟩ := okL_out hv
  obtain ⟨s1, s2, s3, s4⟩ := szL_step zs k hk h8 (fun j hj => hin j (by omega))
  have hzb := hin k hk
  have b1 := valL_bd zs ds k (by omega) (fun j hj => hin j (by omega)) (fun j hj => hl j (by omega))
  have b2 := valL_bd zs ds zs.length (Nat.le_refl _) hin hl
  rw [List.take_length] at b2
  obtain ⟨g, hg⟩ := horn_any (Nat.le_refl _) hin hl (zs.length - (k + 1)) (k + 1) (by omega)
  have hg2 := hg.2
  have hT := szL_take zs k hk
  have hdl := hl k hk
  have m2 : 0 ≤ x * szL (zs.take k) := Int.mul_nonneg hx.1 (by omega)
  have m3 : x * szL (zs.take k) ≤ 100 * 10000000000000000 := Int.mul_le_mul (by omega) s2 (by omega) (by omega)
  refine ⟨_, _, _, _, _, _, rfl, rfl, rfl, rfl, rfl, rfl, hT, ⟨s1, s2⟩, hzb, hdl, b1, by omega, by rw [hT]; exact ⟨s3, s4⟩, ⟨m2, by omega⟩, fun hne => ?_⟩
  have := nxt_mod g (szL (zs.take k)) (zs[k]?.getD 0) x (ds[k]?.getD 0) (valL zs ds k) s1 hzb.1 hx hdl b1 hne
  rw [hT, hg2, hT]
  exact this
theorem Oc.cell {w : World} {g : Nat} {d0 d1 d2 d3 d4 d5 d6 d7 : Int} (h : Oc w g d0 d1 d2 d3 d4 d5 d6 d7) (k : Nat) (hk : k < 8) : w.cell? ⟨g, k, none⟩ = some (.int .u8 (([d0, d1, d2, d3, d4, d5, d6, d7] : List Int)[k]?.getD 0)) := by
  obtain ⟨f0, f1, f2, f3, f4, f5, f6, f7⟩ := h
  have q : k = 0 ∨ k = 1 ∨ k = 2 ∨ k = 3 ∨ k = 4 ∨ k = 5 ∨ k = 6 ∨ k = 7 := by omega
  rcases q with rfl | rfl | rfl | rfl | rfl | rfl | rfl | rfl <;> assumption

end Go.Proofs.YtfifnngdmhdkiaaGreatDoor
