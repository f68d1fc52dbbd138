/- Texts of this seat, merged: Math Base Valid Held TxA TxG Bui Open Reads Rounds RoundsC Keep Itv ItvS FlowM Places Digits Value Floor Gcd Ratio OpenR FlowA FlowB FlowC FlowD FlowE FlowS ValGM ValGI ValGS RoundsD TxB. -/
import Derived.Below
import Derived.IntWalk
import Derived.Test.YtcanfcpofihoeaaGreatDoorProg
import Derived.WalkKit
import Derived.WalkSpells
import Derived.WalkLawsBesides
import Derived.Deep.QuietTactic
import Derived.BigQuiet
import Derived.OrdersHeld
import Derived.Test.YtcanfcpofihoeaaGreatDoorShf
import Derived.Lib.ItoaNum
import Derived.Lib.AppendIntMem
import Derived.Laws.BytesString
import Derived.Laws.Concat
import Derived.WalkSmall
import Derived.Shelf.Strings.BuilderK
import Derived.ProofKit
import Derived.OpenShut
import Derived.ShutString
import Derived.ChangeOld
import Derived.JoinedOf
import Derived.KernelRfl
import Derived.Lib.SmallJoins
import Derived.Deep.RegionHeld3
import Derived.Deep.Slices
import Derived.Deep.Fields
import Derived.RegionTactic
import Derived.RegionIn
import Derived.OrdersIn
import Derived.RangeFuncNested
import Derived.RangeFuncBound
import Derived.RangeFuncCalls
import Derived.RangeFuncLeaves
import Derived.RangeFuncBox
import Derived.Shelf.Abstract
import Derived.Shelf.RegionOpen
import Derived.OwnWalkIn
import Derived.TacticsInMore
import Derived.LoopNIn
import Derived.LoopIn
import Derived.Sort.CutIn
import Derived.Stop.RegionWithIn
import Derived.BigRegionIn
import Derived.Deep.RegionWith
import Derived.OwnWalk

namespace Go.Proofs.YtcanfcpofihoeaaGreatDoor
open Go.RowKit

theorem hid {p : Prop} (h : p) : Hid p := h

/-- the product of all bases -/
def szL (zs : List Int) : Int := zs.foldl (· * ·) 1
def okL (zs : List Int) : Bool := decide (1 ≤ zs.length ∧ zs.length ≤ 8 ∧ (∀ z ∈ zs, 2 ≤ z ∧ z ≤ 100) ∧ szL zs ≤ 1000000000000)

theorem szL_nil : szL [] = 1 := rfl
theorem szL_snoc (zs : List Int) (z : Int) : szL (zs ++ [z]) = szL zs * z := by simp [szL]
theorem take_snoc' (zs : List Int) (k : Nat) (h : k < zs.length) : zs.take (k + 1) = zs.take k ++ [zs[k]?.getD 0] := by
  rw [List.take_succ_eq_append_getElem h]; simp [h]
theorem szL_take (zs : List Int) (k : Nat) (h : k < zs.length) : szL (zs.take (k + 1)) = szL (zs.take k) * (zs[k]?.getD 0) := by
  rw [take_snoc' zs k h, szL_snoc]
/-- each of the first k bases lies within its bounds -/
def inB (zs : List Int) (k : Nat) : Prop := ∀ j, j < k → 2 ≤ zs[j]?.getD 0 ∧ zs[j]?.getD 0 ≤ 100
theorem inB_zero (zs : List Int) : inB zs 0 := fun j h => by omega
theorem inB_succ {zs : List Int} {k : Nat} (h : inB zs k) (h2 : 2 ≤ zs[k]?.getD 0) (h3 : zs[k]?.getD 0 ≤ 100) : inB zs (k + 1) := fun j hj => by
  by_cases e : j = k
  · subst e; exact ⟨h2, h3⟩
  · exact h j (by omega)
theorem inB_mem {zs : List Int} (h : inB zs zs.length) : ∀ z ∈ zs, 2 ≤ z ∧ z ≤ 100 := fun z hz => by
  obtain ⟨j, hj, rfl⟩ := List.mem_iff_getElem.1 hz
  have := h j hj
  simpa [hj] using this
theorem mem_inB {zs : List Int} (h : ∀ z ∈ zs, 2 ≤ z ∧ z ≤ 100) (k : Nat) (hk : k ≤ zs.length) : inB zs k := fun j hj => by
  have hj' : j < zs.length := by omega
  have := h zs[j] (List.getElem_mem hj')
  simpa [hj'] using this
theorem pow_bd : ∀ (k : Nat), k ≤ 8 → (100 : Int) ^ k ≤ 10000000000000000
  | 0, _ => by decide
  | 1, _ => by decide
  | 2, _ => by decide
  | 3, _ => by decide
  | 4, _ => by decide
  | 5, _ => by decide
  | 6, _ => by decide
  | 7, _ => by decide
  | 8, _ => by decide
  | n + 9, h => by omega
theorem szL_bd (zs : List Int) : ∀ (k : Nat), k ≤ zs.length → inB zs k → 1 ≤ szL (zs.take k) ∧ szL (zs.take k) ≤ 100 ^ k
  | 0, _, _ => by simp [szL]
  | k + 1, hk, h => by
    have ih := szL_bd zs k (by omega) (fun j hj => h j (by omega))
    have hz := h k (by omega)
    rw [szL_take zs k (by omega)]
    obtain ⟨p, hp⟩ : ∃ p, p = szL (zs.take k) := ⟨_, rfl⟩
    obtain ⟨z, hz'⟩ : ∃ z, z = zs[k]?.getD 0 := ⟨_, rfl⟩
    rw [← hp] at ih; rw [← hz'] at hz; rw [← hp, ← hz']
    refine ⟨?_, ?_⟩
    · have : 1 * 1 ≤ p * z := Int.mul_le_mul ih.1 (by omega) (by omega) (by omega)
      omega
    · rw [Int.pow_succ]
      exact Int.mul_le_mul ih.2 hz.2 (by omega) (by have := ih.1; omega)
theorem szL_mono (zs : List Int) (k : Nat) (hk : k < zs.length) (h : inB zs (k + 1)) : 2 * szL (zs.take k) ≤ szL (zs.take (k + 1)) := by
  have ih := szL_bd zs k (by omega) (fun j hj => h j (by omega))
  rw [szL_take zs k hk]
  have hz := h k (by omega)
  have : szL (zs.take k) * 2 ≤ szL (zs.take k) * zs[k]?.getD 0 := Int.mul_le_mul_of_nonneg_left hz.1 (by omega)
  omega
/-- the bounds of a product that the walk wants -/
theorem szL_step (zs : List Int) (k : Nat) (hk : k < zs.length) (h8 : zs.length ≤ 8) (h : inB zs (k + 1)) :
    1 ≤ szL (zs.take k) ∧ szL (zs.take k) ≤ 10000000000000000 ∧ 1 ≤ szL (zs.take k) * zs[k]?.getD 0 ∧ szL (zs.take k) * zs[k]?.getD 0 ≤ 10000000000000000 := by
  have a := szL_bd zs k (by omega) (fun j hj => h j (by omega))
  have b := szL_bd zs (k + 1) (by omega) h
  rw [szL_take zs k hk] at b
  have p1 := pow_bd k (by omega)
  have p2 := pow_bd (k + 1) (by omega)
  exact ⟨a.1, Int.le_trans a.2 p1, b.1, Int.le_trans b.2 p2⟩
theorem okL_len0 (zs : List Int) (h : zs.length < 1) : okL zs = false := by simp [okL]; omega
theorem okL_len9 (zs : List Int) (h : 8 < zs.length) : okL zs = false := by simp [okL]; omega
theorem okL_low (zs : List Int) (k : Nat) (hk : k < zs.length) (h : zs[k]?.getD 0 < 2) : okL zs = false := by
  simp only [okL, decide_eq_false_iff_not, not_and]
  intro _ _ hall
  have := hall zs[k] (List.getElem_mem hk)
  simp [hk] at h
  omega
theorem okL_high (zs : List Int) (k : Nat) (hk : k < zs.length) (h : 100 < zs[k]?.getD 0) : okL zs = false := by
  simp only [okL, decide_eq_false_iff_not, not_and]
  intro _ _ hall
  have := hall zs[k] (List.getElem_mem hk)
  simp [hk] at h
  omega
theorem okL_end (zs : List Int) (h1 : 1 ≤ zs.length) (h8 : zs.length ≤ 8) (h : inB zs zs.length) : okL zs = decide (szL zs ≤ 1000000000000) := by
  simp only [okL]
  have := inB_mem h
  by_cases hs : szL zs ≤ 1000000000000
  · simp only [hs, decide_true, decide_eq_true_eq]; exact ⟨h1, h8, this, trivial⟩
  · simp [hs]
/-- what okL says -/
theorem okL_out {zs : List Int} (h : okL zs = true) : 1 ≤ zs.length ∧ zs.length ≤ 8 ∧ inB zs zs.length ∧ 1 ≤ szL zs ∧ szL zs ≤ 1000000000000 := by
  simp only [okL, decide_eq_true_eq] at h
  obtain ⟨h1, h8, hall, hs⟩ := h
  have hi := mem_inB hall zs.length (Nat.le_refl _)
  have := szL_bd zs zs.length (Nat.le_refl _) hi
  rw [List.take_length] at this
  exact ⟨h1, h8, hi, this.1, hs⟩

/-! ### digits: a list of eight numbers -/
/-- the digits of the wheels are less than their bases, all others are 0 -/
def okTo (zs ds : List Int) (k : Nat) : Prop := ∀ j, j < k → (j < zs.length → ds[j]?.getD 0 < zs[j]?.getD 0) ∧ (zs.length ≤ j → ds[j]?.getD 0 = 0)
def okD (zs ds : List Int) : Bool := (List.range 8).all fun j => if j < zs.length then decide (ds[j]?.getD 0 < zs[j]?.getD 0) else decide (ds[j]?.getD 0 = 0)
def okV (zs ds : List Int) : Bool := okL zs && okD zs ds
theorem okTo_zero (zs ds : List Int) : okTo zs ds 0 := fun j h => by omega
theorem okTo_low {zs ds : List Int} {k : Nat} (h : okTo zs ds k) (hk : k < zs.length) (e : ds[k]?.getD 0 < zs[k]?.getD 0) : okTo zs ds (k + 1) := fun j hj => by
  by_cases h' : j = k
  · subst h'; exact ⟨fun _ => e, fun h2 => by omega⟩
  · exact h j (by omega)
theorem okTo_high {zs ds : List Int} {k : Nat} (h : okTo zs ds k) (hk : zs.length ≤ k) (e : ds[k]?.getD 0 = 0) : okTo zs ds (k + 1) := fun j hj => by
  by_cases h' : j = k
  · subst h'; exact ⟨fun _ => by omega, fun _ => e⟩
  · exact h j (by omega)
theorem okD_of {zs ds : List Int} (h : okTo zs ds 8) : okD zs ds = true := by
  simp only [okD, List.all_eq_true, List.mem_range]
  intro j hj
  have := h j hj
  split
  · simp [this.1 (by assumption)]
  · simp [this.2 (by omega)]
theorem okD_out {zs ds : List Int} (h : okD zs ds = true) : okTo zs ds 8 := by
  simp only [okD, List.all_eq_true, List.mem_range] at h
  intro j hj
  have := h j hj
  by_cases h' : j < zs.length
  · rw [if_pos h'] at this
    exact ⟨fun _ => by simpa using this, fun h2 => by omega⟩
  · rw [if_neg h'] at this
    exact ⟨fun h2 => absurd h2 h', fun _ => by simpa using this⟩
theorem okD_low {zs ds : List Int} (k : Nat) (hk : k < 8) (hz : k < zs.length) (e : zs[k]?.getD 0 ≤ ds[k]?.getD 0) : okD zs ds = false := by
  cases h : okD zs ds with
  | false => rfl
  | true => have := (okD_out h k hk).1 hz; omega
theorem okD_high {zs ds : List Int} (k : Nat) (hk : k < 8) (hz : zs.length ≤ k) (e : ds[k]?.getD 0 ≠ 0) : okD zs ds = false := by
  cases h : okD zs ds with
  | false => rfl
  | true => have := (okD_out h k hk).2 hz; exact absurd this e
theorem okV_no {zs ds : List Int} (h : okL zs = false) : okV zs ds = false := by simp [okV, h]
theorem okV_yes {zs ds : List Int} (h : okL zs = true) : okV zs ds = okD zs ds := by simp [okV, h]
theorem okV_out {zs ds : List Int} (h : okV zs ds = true) : okL zs = true ∧ okD zs ds = true := by simpa [okV] using h

/-! ### values -/
def valL (zs ds : List Int) : Nat → Int
  | 0 => 0
  | k + 1 => valL zs ds k + ds[k]?.getD 0 * szL (zs.take k)
/-- the digits of the first k wheels are less than their bases -/
def ltTo (zs ds : List Int) (k : Nat) : Prop := ∀ j, j < k → 0 ≤ ds[j]?.getD 0 ∧ ds[j]?.getD 0 < zs[j]?.getD 0
theorem valL_bd (zs ds : List Int) : ∀ k, k ≤ zs.length → inB zs k → ltTo zs ds k → 0 ≤ valL zs ds k ∧ valL zs ds k < szL (zs.take k)
  | 0, _, _, _ => by simp [valL, szL]
  | k + 1, hk, hi, hl => by
    have ih := valL_bd zs ds k (by omega) (fun j hj => hi j (by omega)) (fun j hj => hl j (by omega))
    have hs := (szL_bd zs k (by omega) (fun j hj => hi j (by omega))).1
    have hd := hl k (by omega)
    rw [szL_take zs k (by omega)]
    simp only [valL]
    obtain ⟨p, hp⟩ : ∃ p, p = szL (zs.take k) := ⟨_, rfl⟩
    obtain ⟨z, hz⟩ : ∃ z, z = zs[k]?.getD 0 := ⟨_, rfl⟩
    obtain ⟨d, hd'⟩ : ∃ d, d = ds[k]?.getD 0 := ⟨_, rfl⟩
    rw [← hp] at ih hs; rw [← hz, ← hd'] at hd; rw [← hp, ← hz, ← hd']
    have h1 : 0 ≤ d * p := Int.mul_nonneg hd.1 (by omega)
    have h2 : (d + 1) * p ≤ z * p := Int.mul_le_mul_of_nonneg_right (by omega) (by omega)
    rw [Int.add_mul, Int.one_mul] at h2
    rw [Int.mul_comm p z]
    omega
/-- the bounds that a sum over the places wants -/
theorem valL_step (zs ds : List Int) (k : Nat) (hk : k < zs.length) (h8 : zs.length ≤ 8) (hi : inB zs (k + 1)) (hl : ltTo zs ds (k + 1)) :
    0 ≤ ds[k]?.getD 0 * szL (zs.take k) ∧ ds[k]?.getD 0 * szL (zs.take k) ≤ 10000000000000000 ∧ 0 ≤ valL zs ds k ∧ valL zs ds k ≤ 10000000000000000 ∧ valL zs ds (k + 1) ≤ 10000000000000000 := by
  have a := valL_bd zs ds k (by omega) (fun j hj => hi j (by omega)) (fun j hj => hl j (by omega))
  have b := valL_bd zs ds (k + 1) (by omega) hi hl
  have c := szL_step zs k hk h8 hi
  rw [szL_take zs k hk] at b
  have hs := (szL_bd zs k (by omega) (fun j hj => hi j (by omega))).1
  have h1 : 0 ≤ ds[k]?.getD 0 * szL (zs.take k) := Int.mul_nonneg (hl k (by omega)).1 (by omega)
  have e : valL zs ds (k + 1) = valL zs ds k + ds[k]?.getD 0 * szL (zs.take k) := rfl
  omega
/-- the sum that a walk over the wheels comes to, wraps and all -/
def vfold {n : Nat} (zs ds : List Int) (pre : List (Fin n)) : Int := pre.foldl (fun s x => wrap64 (s + ds[x.1]?.getD 0 * szL (zs.take x.1))) 0
theorem vfold_snoc {n : Nat} (zs ds : List Int) (pre : List (Fin n)) (x : Fin n) : vfold zs ds (pre ++ [x]) = wrap64 (vfold zs ds pre + ds[x.1]?.getD 0 * szL (zs.take x.1)) := by simp [vfold]
theorem finTake_succ (n k : Nat) (hk : k < n) : (List.finRange n).take (k + 1) = (List.finRange n).take k ++ [⟨k, hk⟩] := by
  rw [List.take_succ_eq_append_getElem (by simpa using hk)]
  simp
theorem finTake_length (n k : Nat) (hk : k ≤ n) : ((List.finRange n).take k).length = k := by simp [hk]
theorem finTake_all (n : Nat) : (List.finRange n).take n = List.finRange n := List.take_of_length_le (by simp)
theorem vfold_take {n : Nat} (zs ds : List Int) (hn : n ≤ zs.length) (h8 : zs.length ≤ 8) (hi : inB zs n) (hl : ltTo zs ds n) : ∀ k, k ≤ n → vfold zs ds ((List.finRange n).take k) = valL zs ds k
  | 0, _ => rfl
  | k + 1, hk => by
    rw [finTake_succ n k (by omega), vfold_snoc, vfold_take zs ds hn h8 hi hl k (by omega)]
    have b := valL_step zs ds k (by omega) h8 (fun j hj => hi j (by omega)) (fun j hj => hl j (by omega))
    show wrap64 (valL zs ds k + ds[k]?.getD 0 * szL (zs.take k)) = valL zs ds (k + 1)
    have e : valL zs ds (k + 1) = valL zs ds k + ds[k]?.getD 0 * szL (zs.take k) := rfl
    rw [e]
    exact IntWalk.wrap64_in _ ⟨by omega, by omega⟩
theorem vfold_all {n : Nat} (zs ds : List Int) (hn : n ≤ zs.length) (h8 : zs.length ≤ 8) (hi : inB zs n) (hl : ltTo zs ds n) : vfold zs ds (List.finRange n) = valL zs ds n := by
  have := vfold_take zs ds hn h8 hi hl n (Nat.le_refl _)
  rwa [finTake_all] at this
theorem okD_lt {zs ds : List Int} (h : okD zs ds = true) (h8 : zs.length ≤ 8) (hd : ∀ j, j < 8 → 0 ≤ ds[j]?.getD 0) : ltTo zs ds zs.length := fun j hj =>
  ⟨hd j (by omega), (okD_out h j (by omega)).1 hj⟩

/-! ### the digits of a value -/
def dgL (zs : List Int) (v : Int) : List Int := (List.range 8).map fun k => if k < zs.length then v / szL (zs.take k) % zs[k]?.getD 0 else 0
theorem dgL_get (zs : List Int) (v : Int) (k : Nat) (hk : k < 8) : (dgL zs v)[k]?.getD 0 = if k < zs.length then v / szL (zs.take k) % zs[k]?.getD 0 else 0 := by simp [dgL, hk]
theorem dgL_len (zs : List Int) (v : Int) : (dgL zs v).length = 8 := by simp [dgL]
theorem dgL_bd (zs : List Int) (v : Int) (hz : inB zs zs.length) (k : Nat) (hk : k < 8) : 0 ≤ (dgL zs v)[k]?.getD 0 ∧ (dgL zs v)[k]?.getD 0 ≤ 99 := by
  rw [dgL_get zs v k hk]
  split
  · have := hz k (by assumption)
    have h1 := Int.emod_nonneg (v / szL (zs.take k)) (show zs[k]?.getD 0 ≠ 0 by omega)
    have h2 := Int.emod_lt_of_pos (v / szL (zs.take k)) (show 0 < zs[k]?.getD 0 by omega)
    omega
  · omega
theorem dgL_okD (zs : List Int) (v : Int) (hz : inB zs zs.length) : okD zs (dgL zs v) = true := okD_of fun k hk => by
  rw [dgL_get zs v k hk]
  refine ⟨fun h => ?_, fun h => by rw [if_neg (by omega)]⟩
  rw [if_pos h]
  have := hz k h
  exact Int.emod_lt_of_pos _ (by omega)

/-! ### writing the digits, wheel by wheel -/
def dg (l : List Int) (i : Nat) : Int := l[i]?.getD 0
def zero8 : List Value := [.int .u8 0, .int .u8 0, .int .u8 0, .int .u8 0, .int .u8 0, .int .u8 0, .int .u8 0, .int .u8 0]
def dset (zs : List Int) (v : Int) (l : List Value) (k : Nat) : List Value := l.set k (.int .u8 (v / szL (zs.take k) % zs[k]?.getD 0))
def dfold {n : Nat} (zs : List Int) (v : Int) (pre : List (Fin n)) : List Value := pre.foldl (fun l x => dset zs v l x.1) zero8
theorem dfold_snoc {n : Nat} (zs : List Int) (v : Int) (pre : List (Fin n)) (x : Fin n) : dfold zs v (pre ++ [x]) = (dfold zs v pre).set x.1 (.int .u8 (v / szL (zs.take x.1) % zs[x.1]?.getD 0)) := by simp [dfold, dset]
theorem dfold_len {n : Nat} (zs : List Int) (v : Int) (pre : List (Fin n)) : (dfold zs v pre).length = 8 := by
  have key : ∀ (pre : List (Fin n)) (l : List Value), l.length = 8 → (pre.foldl (fun l x => dset zs v l x.1) l).length = 8 := by
    intro pre
    induction pre with
    | nil => intro l h; exact h
    | cons x xs ih => intro l h; exact ih _ (by simp [dset, h])
  exact key pre zero8 rfl
/-- what k wheels have made -/
def dto (zs : List Int) (v : Int) (k : Nat) : List Value := (List.range 8).map fun j => .int .u8 (if j < k then v / szL (zs.take j) % zs[j]?.getD 0 else 0)
theorem dto_succ (zs : List Int) (v : Int) (k : Nat) (hk : k < 8) : (dto zs v k).set k (.int .u8 (v / szL (zs.take k) % zs[k]?.getD 0)) = dto zs v (k + 1) := by
  apply List.ext_getElem?
  intro j
  simp only [dto, List.getElem?_set, List.getElem?_map, List.length_map, List.length_range]
  by_cases hj : k = j
  · subst hj
    simp [hk]
  · rw [if_neg hj]
    by_cases h8 : j < 8
    · simp only [List.getElem?_range h8, Option.map_some]
      by_cases h : j < k
      · rw [if_pos h, if_pos (by omega)]
      · rw [if_neg h, if_neg (by omega)]
    · simp [List.getElem?_eq_none (show (List.range 8).length ≤ j by simp; omega)]
theorem dto_zero (zs : List Int) (v : Int) : dto zs v 0 = zero8 := rfl
theorem dfold_take {n : Nat} (zs : List Int) (v : Int) (h8 : n ≤ 8) : ∀ k, k ≤ n → dfold zs v ((List.finRange n).take k) = dto zs v k
  | 0, _ => rfl
  | k + 1, hk => by
    rw [finTake_succ n k (by omega), dfold_snoc, dfold_take zs v h8 k (by omega)]
    exact dto_succ zs v k (by omega)
theorem dto_all (zs : List Int) (v : Int) : dto zs v zs.length = [.int .u8 (dg (dgL zs v) 0), .int .u8 (dg (dgL zs v) 1), .int .u8 (dg (dgL zs v) 2), .int .u8 (dg (dgL zs v) 3), .int .u8 (dg (dgL zs v) 4), .int .u8 (dg (dgL zs v) 5), .int .u8 (dg (dgL zs v) 6), .int .u8 (dg (dgL zs v) 7)] := by
  have e : ∀ k, k < 8 → dg (dgL zs v) k = if k < zs.length then v / szL (zs.take k) % zs[k]?.getD 0 else 0 := fun k hk => dgL_get zs v k hk
  rw [e 0 (by omega), e 1 (by omega), e 2 (by omega), e 3 (by omega), e 4 (by omega), e 5 (by omega), e 6 (by omega), e 7 (by omega)]
  rfl
theorem dfold_all {n : Nat} (zs : List Int) (v : Int) (hn : n = zs.length) (h8 : n ≤ 8) : dfold zs v (List.finRange n) = [.int .u8 (dg (dgL zs v) 0), .int .u8 (dg (dgL zs v) 1), .int .u8 (dg (dgL zs v) 2), .int .u8 (dg (dgL zs v) 3), .int .u8 (dg (dgL zs v) 4), .int .u8 (dg (dgL zs v) 5), .int .u8 (dg (dgL zs v) 6), .int .u8 (dg (dgL zs v) 7)] := by
  have := dfold_take zs v h8 n (Nat.le_refl _)
  rw [finTake_all] at this
  rw [this, hn, dto_all]
/-- a digit as the machine reckons it -/
theorem digit_raw (v p z : Int) (hv : 0 ≤ v) (hv2 : v ≤ 1000000000000) (hp : 1 ≤ p) (hz : 2 ≤ z) (hz2 : z ≤ 100) :
    IntKind.u8.wrap (IntKind.i64.wrap ((IntKind.i64.wrap (v.tdiv p)).tmod (IntKind.i64.wrap z))) = v / p % z := by
  have e1 : v.tdiv p = v / p := Int.tdiv_eq_ediv_of_nonneg hv
  have h0 : 0 ≤ v / p := Int.ediv_nonneg hv (by omega)
  have h1 : v / p ≤ v := Int.ediv_le_self _ hv
  rw [e1, IntWalk.i64_in (v / p) (by omega), IntWalk.i64_in z (by omega)]
  have e2 : (v / p).tmod z = v / p % z := Int.tmod_eq_emod_of_nonneg h0
  have h2 := Int.emod_nonneg (v / p) (show z ≠ 0 by omega)
  have h3 := Int.emod_lt_of_pos (v / p) (show 0 < z by omega)
  rw [e2, IntWalk.i64_in _ (by omega)]
  simp only [IntKind.wrap, IntKind.signed, IntKind.bits]
  simp
  omega
end Go.Proofs.YtcanfcpofihoeaaGreatDoor

namespace Go.Proofs.YtcanfcpofihoeaaGreatDoor
open Go.RowKit
def Row (w : World) (g : Nat) (e : TypeId) (xs : List Value) : Prop := w.heap[g]? = some (.cells xs.toArray e (0, 0))
theorem Row.cell {w : World} {g : Nat} {e : TypeId} {xs : List Value} (h : Row w g e xs) (j : Nat) : w.cell? ⟨g, j, none⟩ = xs[j]? := by
  rw [cell_of_row w g j _ e (0, 0) h]; simp
theorem Row.frozen {w : World} {g : Nat} {e : TypeId} {xs : List Value} (h : Row w g e xs) (j : Nat) : w.frozen? ⟨g, j, none⟩ = false :=
  frozen_of_row w g j _ e h
theorem Row.lt {w : World} {g : Nat} {e : TypeId} {xs : List Value} (h : Row w g e xs) : g < w.heap.size := lt_of_block h
theorem Row.below {w w' : World} {g n : Nat} {e : TypeId} {xs : List Value} (h : Row w g e xs) (hb : Below n w w') (hn : g < n) : Row w' g e xs := (hb.block g hn).trans h
theorem Row.set {w : World} {g : Nat} {e : TypeId} {xs : List Value} (h : Row w g e xs) (j : Nat) (u : Value) : Row (w.setCell ⟨g, j, none⟩ u) g e (xs.set j u) := by
  have := heap_setCell_same w g j _ e u h
  simpa [Row] using this
theorem Row.alloc {w : World} {g : Nat} {e : TypeId} {xs : List Value} (h : Row w g e xs) (o : Obj) : Row (w.alloc o) g e xs :=
  (Below.heap_alloc w o g h.lt).trans h
theorem Row.other {w : World} {g : Nat} {e : TypeId} {xs : List Value} (h : Row w g e xs) {a : Addr} (ha : a.block ≠ g) (u : Value) : Row (w.setCell a u) g e xs :=
  (Below.heap_setCell w a u g (fun e => ha e.symm)).trans h
theorem Row.new (w : World) (e : TypeId) (xs : List Value) : Row (w.alloc (.cells xs.toArray e)) w.heap.size e xs := heap_alloc_new w _
theorem Row.of_owns {w : World} {base g n cap : Nat} {e : TypeId} {xs : List Value} (h : w.ownsRow base e 1 (.slice (some ⟨g, 0, none⟩) n cap) n xs) (hn : n = cap) : Row w g e xs := by
  subst hn
  rcases h.2 with ⟨h', _⟩ | ⟨g', cap', cur, h', hb, hg, hnc, hcm, hcs, htake⟩
  · simp at h'
  · simp only [Value.slice.injEq, Option.some.injEq, Addr.mk.injEq, and_true, true_and] at h'
    obtain ⟨rfl, rfl⟩ := h'
    unfold Row
    rw [hg, ← htake, List.take_of_length_le (by simp [hcs])]

theorem below_drewN {B : Nat} {a w : World} (h : Below B a w) (n : Nat) : Below B a (w.drewN n) := ⟨h.os, h.tape, h.output, h.size, h.block⟩
/-- A stack (a slice of bytes) holds the numbers zs from the head of block b on. -/
def Stk (w : World) (b : Nat) (zs : List Int) : Prop :=
  b < w.heap.size ∧ (∀ j, j < zs.length → w.cell? ⟨b, j, none⟩ = some (.int .u8 (zs[j]?.getD 0))) ∧ (∀ z ∈ zs, 0 ≤ z ∧ z ≤ 255) ∧ zs.length ≤ 1048576

theorem Stk.below {w w' : World} {b n : Nat} {zs : List Int} (h : Stk w b zs) (hb : Below n w w') (hn : b < n) : Stk w' b zs :=
  ⟨Nat.lt_of_lt_of_le h.1 hb.size, fun j hj => (hb.cell (p := ⟨b, j, none⟩) hn).trans (h.2.1 j hj), h.2.2.1, h.2.2.2⟩
theorem Row.stk {w : World} {g : Nat} {e : TypeId} {zs : List Int} (h : Row w g e (zs.map (Value.int .u8))) (hz : ∀ z ∈ zs, 0 ≤ z ∧ z ≤ 255) (hl : zs.length ≤ 1048576) : Stk w g zs :=
  ⟨h.lt, fun j hj => by rw [h.cell]; simp [hj], hz, hl⟩

theorem Tryz.infoU8 : (Tryz.prog.info? 5).map (fun i => (i.zero, i.size, i.bytes)) = some (some (.int .u8 0), 1, 1) := by kernel_rfl

/-- what k rounds of a copy have made of n zero bytes -/
def cpy (zs : List Int) (n k : Nat) : List Value := ((zs.take k) ++ List.replicate (n - k) 0).map (Value.int .u8)
theorem cpy_zero (zs : List Int) (n : Nat) : cpy zs n 0 = List.replicate n (Value.int .u8 0) := by simp [cpy]
theorem cpy_len (zs : List Int) (n k : Nat) (hk : k ≤ n) (hz : n ≤ zs.length) : (cpy zs n k).length = n := by simp [cpy]; omega
theorem cpy_set (zs : List Int) (n k : Nat) (hk : k < n) (hz : n ≤ zs.length) : (cpy zs n k).set k (.int .u8 (zs[k]?.getD 0)) = cpy zs n (k + 1) := by
  apply List.ext_getElem?
  intro j
  have h1 : k < zs.length := by omega
  simp only [cpy, List.getElem?_set, List.getElem?_map, List.length_map, List.getElem?_append, List.length_take, List.length_append, List.length_replicate, List.getElem?_take, List.getElem?_replicate]
  by_cases hj : k = j
  · subst hj
    simp [h1, show min k zs.length = k from by omega, show min (k+1) zs.length = k+1 from by omega]
    omega
  · rw [if_neg hj]
    simp only [show min k zs.length = k from by omega, show min (k+1) zs.length = k+1 from by omega]
    by_cases h2 : j < k
    · simp [h2, show j < k + 1 from by omega]
    · have h3 : ¬ j < k + 1 := by omega
      simp only [h2, h3, if_false]
      by_cases h4 : j < n
      · rw [if_pos (by omega), if_pos (by omega)]
      · rw [if_neg (by omega), if_neg (by omega)]
theorem cpy_all (zs : List Int) (n : Nat) : cpy zs n n = (zs.take n).map (Value.int .u8) := by simp [cpy]

set_option maxHeartbeats 400000 in
/-- laws.toStack at an argument with elements: a new block holds them. -/
theorem toStack_some (b off len cap : Nat) (zs : List Int) (hl : len ≤ 1048576) (hz : len ≤ zs.length) (hb : ∀ z ∈ zs, 0 ≤ z ∧ z ≤ 255) (w : World) (hbs : b < w.heap.size) (hc : ∀ j, j < len → w.cell? ⟨b, off + j, none⟩ = some (.int .u8 (zs[j]?.getD 0))) :
    Calls Tryz.prog 5 #[.slice (some ⟨b, off, none⟩) len cap] w fun e w' => e = .returned (.slice (some ⟨w.heap.size, 0, none⟩) len len) ∧ Below w.heap.size w w' ∧ Stk w' w.heap.size (zs.take len) ∧ w.heap.size < w'.heap.size := by
  obtain ⟨i0, hi, hz0, hz1, hz2⟩ := info_parts Tryz.infoU8
  go_enter Tryz.func5, Tryz.ntmps5
  go_wp2_with (at_make; refine wpList_make_full _ rfl _ _ 26 rfl w.heap.size 5 i0 (.int .u8 0) 1 Tryz.underlying26 hi hz0 hz1 .i64 .i64 _ _ len rfl rfl rfl rfl (by rw [hz2]; omega) (by unfold maxLen; omega) (Nat.le_refl _) ?_; intro w1 hown hgrow)
  have hrow := Row.of_owns hown rfl
  rw [show (madeCells (Value.int .u8 0).cells (len * 1)).toList = cpy zs len 0 from by rw [cpy_zero, Nat.mul_one]; exact toList_madeCells_one _ _] at hrow
  have hB1 : Below w.heap.size w w1 := (Below.refl _ w).grown hgrow (Nat.le_refl _) (fun k e => by cases e)
  clear hown hgrow
  go_wp2
  go_loopw [4] (fun i wr => ∃ k : Nat, k ≤ len ∧ i = .int .i64 k ∧ Row wr w.heap.size 5 (cpy zs len k) ∧ Below w.heap.size w wr) (fun i _ => len - (intOf i).toNat)
  case atStart => exact ⟨0, Nat.zero_le _, rfl, hrow, hB1⟩
  case round =>
    clear hrow hB1
    obtain ⟨k, hk, rfl, hrow, hB⟩ := hrel
    by_cases hlt : k < len
    · have hcx : wr.cell? ⟨b, off + k, none⟩ = some (.int .u8 (zs[k]?.getD 0)) := (hB.cell (p := ⟨b, off + k, none⟩) hbs).trans (hc k hlt)
      have hfz := hrow.frozen k
      have hlen := cpy_len zs len k hk hz
      obtain ⟨old, hold⟩ : ∃ v, wr.cell? ⟨w.heap.size, k, none⟩ = some v := ⟨_, (hrow.cell k).trans (List.getElem?_eq_getElem (by omega))⟩
      have hR2 := hrow.set k (.int .u8 (zs[k]?.getD 0))
      rw [cpy_set zs len k hlt hz] at hR2
      have hB2 : Below w.heap.size w (wr.setCell ⟨w.heap.size, k, none⟩ (.int .u8 (zs[k]?.getD 0))) := hB.setCell (p := ⟨w.heap.size, k, none⟩) (Nat.le_refl _) _
      clear hlen
      go_wp2
      go_roundw
      case rel => exact ⟨k + 1, by omega, by go_num, hR2, hB2⟩
      case measure => simp [intOf]; omega
    · obtain rfl : k = len := by omega
      rw [cpy_all] at hrow
      go_wp2
      go_ret
      exact ⟨rfl, hB, hrow.stk (fun z hz' => hb z (List.mem_of_mem_take hz')) (by simp; omega), hrow.lt⟩
set_option maxHeartbeats 400000 in
/-- .. at an argument without elements: a new block without cells. -/
theorem toStack_none (a : Option Addr) (cap : Nat) (w : World) :
    Calls Tryz.prog 5 #[.slice a 0 cap] w fun e w' => e = .returned (.slice (some ⟨w.heap.size, 0, none⟩) 0 0) ∧ Below w.heap.size w w' ∧ Stk w' w.heap.size [] ∧ w.heap.size < w'.heap.size := by
  obtain ⟨i0, hi, hz0, hz1, hz2⟩ := info_parts Tryz.infoU8
  go_enter Tryz.func5, Tryz.ntmps5
  go_wp2_with (at_make; refine wpList_make_full _ rfl _ _ 26 rfl w.heap.size 5 i0 (.int .u8 0) 1 Tryz.underlying26 hi hz0 hz1 .i64 .i64 _ _ 0 rfl rfl rfl rfl (by rw [hz2]; omega) (by unfold maxLen; omega) (Nat.le_refl _) ?_; intro w1 hown hgrow)
  have hrow := Row.of_owns hown rfl
  have hB : Below w.heap.size w w1 := (Below.refl _ w).grown hgrow (Nat.le_refl _) (fun k e => by cases e)
  clear hown hgrow
  go_wp2
  refine wp_loop_rounds 1 ?_
  rw [rounds_succ]
  go_wp2
  go_ret
  exact ⟨rfl, hB, Row.stk (zs := []) (by simpa [madeCells] using hrow) (by simp) (by simp), hrow.lt⟩

set_option maxHeartbeats 400000 in
/-- laws.eqStack at two stacks with the same numbers. -/
theorem eqStack_same (b1 b2 n c1 c2 : Nat) (zs : List Int) (w : World) (h1 : Stk w b1 zs) (h2 : Stk w b2 zs) (hn : n = zs.length) :
    Calls Tryz.prog 8 #[.slice (some ⟨b1, 0, none⟩) n c1, .slice (some ⟨b2, 0, none⟩) n c2] w fun e w' => e = .returned (.bool true) ∧ Below w.heap.size w w' := by
  have hl := h1.2.2.2
  have hC1 := hid h1.2.1
  have hC2 := hid h2.2.1
  have hN := hid hn
  rw [← hn] at hl
  clear h1 h2 hn
  have hne : ((n : Int) != (n : Int)) = false := by simp
  go_enter Tryz.func8, Tryz.ntmps8
  go_wp2
  go_loopw [5] (fun i wr => ∃ k : Nat, k ≤ n ∧ i = .int .i64 k ∧ ∃ d, wr = w.drewN d) (fun i _ => n - (intOf i).toNat)
  case atStart => exact ⟨0, Nat.zero_le _, rfl, 0, rfl⟩
  case round =>
    obtain ⟨k, hk, rfl, d, rfl⟩ := hrel
    by_cases hlt : k < n
    · have hx1 := hC1.out k (by rw [← hN.out]; exact hlt)
      have hx2 := hC2.out k (by rw [← hN.out]; exact hlt)
      have hb : ((zs[k]?.getD 0) != (zs[k]?.getD 0)) = false := by simp
      have hlt' : (k : Int) < (n : Int) := by omega
      go_wp2
      go_quiet (fail)
      go_wp2
      all_goals go_roundw
      case rel => exact ⟨k + 1, by omega, by go_num, _, rfl⟩
      case measure => simp [intOf]; omega
    · obtain rfl : k = n := by omega
      go_wp2
      go_ret
      exact ⟨rfl, below_drewN (Below.refl _ _) d⟩
end Go.Proofs.YtcanfcpofihoeaaGreatDoor

namespace Go.Proofs.YtcanfcpofihoeaaGreatDoor
open Go.RowKit
set_option maxHeartbeats 1000000 in
theorem validStack_any (b n cap : Nat) (zs : List Int) (w : World) (h : Stk w b zs) (hn : n = zs.length) :
    Calls Tryz.prog 18 #[.slice (some ⟨b, 0, none⟩) n cap] w fun e w' => e = .returned (.bool (okL zs)) ∧ w = w' := by
  have hC := hid h.2.1
  have hZ := hid h.2.2.1
  have hl := h.2.2.2
  rw [← hn] at hl
  have hN := hid hn
  clear h hn
  by_cases h1 : n < 1
  · have hf := hid (okL_len0 zs (by rw [← hN.out]; exact h1))
    go_enter Tryz.func18, Tryz.ntmps18
    go_wp2
    go_ret
    exact ⟨by rw [hf.out]; rfl, rfl⟩
  by_cases h8 : 8 < n
  · have hf := hid (okL_len9 zs (by rw [← hN.out]; exact h8))
    go_enter Tryz.func18, Tryz.ntmps18
    go_wp2
    go_ret
    exact ⟨by rw [hf.out]; rfl, rfl⟩
  go_enter Tryz.func18, Tryz.ntmps18
  go_wp2
  go_loop [3, 16] (fun s i => ∃ k : Nat, k ≤ n ∧ i = .int .i64 k ∧ s = .int .i64 (szL (zs.take k)) ∧ inB zs k) (fun _ i => n - (intOf i).toNat)
  case atStart => exact ⟨0, Nat.zero_le _, rfl, rfl, inB_zero _⟩
  case round =>
    obtain ⟨k, hk, rfl, rfl, hin⟩ := hrel
    by_cases hlt : k < n
    · have hltz : k < zs.length := by rw [← hN.out]; exact hlt
      have hx := hC.out k hltz
      have hzb := hZ.out (zs[k]?.getD 0) (by simp [hltz])
      have HL := okL_low zs k hltz
      have HH := okL_high zs k hltz
      have HS := fun a b => szL_step zs k hltz (by rw [← hN.out]; omega) (inB_succ hin a b)
      have HT := hid (szL_take zs k hltz)
      have HI := fun a b => inB_succ hin a b
      obtain ⟨p, hp⟩ : ∃ p, p = szL (zs.take k) := ⟨_, rfl⟩
      obtain ⟨z, hz⟩ : ∃ z, z = zs[k]?.getD 0 := ⟨_, rfl⟩
      rw [← hz] at hx hzb HL HH HS HI
      rw [← hp] at HS
      have HT' : Hid (szL (zs.take (k + 1)) = p * z) := by rw [HT.out, ← hp, ← hz]; exact hid rfl
      clear HT hin
      have hHI := hid HI; have hHS := hid HS; have hHL := hid HL; have hHH := hid HH
      clear HI HS HL HH
      rw [← hp]
      have hp' := hid hp; have hz' := hid hz
      clear hp hz
      by_cases h2 : z < 2
      · have hf := hid (hHL.out h2)
        go_wp2
        go_ret
        exact ⟨by rw [hf.out]; rfl, rfl⟩
      by_cases h3 : 100 < z
      · have hf := hid (hHH.out h3)
        go_wp2
        go_ret
        exact ⟨by rw [hf.out]; rfl, rfl⟩
      obtain ⟨s1, s2, s3, s4⟩ := hHS.out (by omega) (by omega)
      have hi := hHI.out (by omega) (by omega)
      have hHi := hid hi
      clear hi
      go_wp2
      go_round
      case rel => exact ⟨k + 1, by omega, by go_num, by rw [HT'.out], hHi.out⟩
      case measure => simp [intOf]; omega
    · obtain rfl : k = n := by omega
      have hf : okL zs = decide (szL zs ≤ 1000000000000) := okL_end zs (by rw [← hN.out]; omega) (by rw [← hN.out]; omega) (by rw [← hN.out]; exact hin)
      have hz : zs.take k = zs := by rw [hN.out, List.take_length]
      have hf' := hid hf
      clear hf
      rw [hz]
      clear hz hin
      go_wp2
      go_ret
      exact ⟨by rw [hf'.out]; rfl, rfl⟩
theorem inr_any (n lo hi : Int) (w : World) :
    Calls Tryz.prog 23 #[.int .i64 n, .int .i64 lo, .int .i64 hi] w fun e w' => e = .returned (.bool (decide (lo ≤ n) && decide (n ≤ hi))) ∧ w = w' := by
  by_cases h : lo ≤ n
  · have h1 : decide (lo ≤ n) = true := by simpa using h
    go_enter Tryz.func23, Tryz.ntmps23
    go_wp2
    go_ret
    exact ⟨by simp [h], rfl⟩
  · have h1 : decide (lo ≤ n) = false := by simpa using h
    go_enter Tryz.func23, Tryz.ntmps23
    go_wp2
    go_ret
    exact ⟨by simp, rfl⟩
/-- the two ways of l00In -/
theorem inr_yes (n lo hi : Int) (w : World) (h : lo ≤ n ∧ n ≤ hi) : Calls Tryz.prog 23 #[.int .i64 n, .int .i64 lo, .int .i64 hi] w fun e w' => e = .returned (.bool true) ∧ w = w' :=
  (inr_any n lo hi w).mono fun _ _ ⟨he, hw⟩ => ⟨by rw [he]; simp [h.1, h.2], hw⟩
theorem inr_no (n lo hi : Int) (w : World) (h : n < lo ∨ hi < n) : Calls Tryz.prog 23 #[.int .i64 n, .int .i64 lo, .int .i64 hi] w fun e w' => e = .returned (.bool false) ∧ w = w' :=
  (inr_any n lo hi w).mono fun _ _ ⟨he, hw⟩ => ⟨by
    rw [he]
    have : ¬ (lo ≤ n ∧ n ≤ hi) := by omega
    have h2 : (decide (lo ≤ n) && decide (n ≤ hi)) = false := by simpa using fun a => by omega
    rw [h2], hw⟩
theorem min_any (a b : Int) (w : World) :
    Calls Tryz.prog 38 #[.int .i64 a, .int .i64 b] w fun e w' => e = .returned (.int .i64 (min a b)) ∧ w = w' := by
  by_cases h : a < b
  · have hm := hid (show min a b = a from by omega)
    go_enter Tryz.func38, Tryz.ntmps38
    go_wp2
    go_ret
    exact ⟨by rw [hm.out]; rfl, rfl⟩
  · have hm := hid (show min a b = b from by omega)
    go_enter Tryz.func38, Tryz.ntmps38
    go_wp2
    go_ret
    exact ⟨by rw [hm.out]; rfl, rfl⟩

/-- spec.l01Size of the first n bases, each within its bounds: the product, or one more than MaxCount. -/
def szC (zs : List Int) : Int := min (szL zs) 1000000000001
theorem szC_take (zs : List Int) (k : Nat) (hk : k < zs.length) (h : inB zs (k + 1)) :
    min (szC (zs.take k) * (zs[k]?.getD 0)) 1000000000001 = szC (zs.take (k + 1)) := by
  unfold szC
  rw [szL_take zs k hk]
  have a := (szL_bd zs k (by omega) (fun j hj => h j (by omega))).1
  have hz := h k (by omega)
  obtain ⟨p, hp⟩ : ∃ p, p = szL (zs.take k) := ⟨_, rfl⟩
  obtain ⟨z, hz'⟩ : ∃ z, z = zs[k]?.getD 0 := ⟨_, rfl⟩
  rw [← hp] at a; rw [← hz'] at hz; rw [← hp, ← hz']
  by_cases c : p ≤ 1000000000001
  · rw [show min p 1000000000001 = p from by omega]
  · have h1 : 1000000000001 * 1 ≤ p * z := Int.mul_le_mul (by omega) (by omega) (by omega) (by omega)
    have h2 : 1000000000001 * 2 ≤ 1000000000001 * z := Int.mul_le_mul_of_nonneg_left hz.1 (by omega)
    rw [show min p 1000000000001 = 1000000000001 from by omega]
    omega
theorem szC_zero (zs : List Int) : szC (zs.take 0) = 1 := by
  show min (szL []) 1000000000001 = 1
  rw [szL_nil]; omega
theorem szC_bd (zs : List Int) (k : Nat) (hk : k ≤ zs.length) (h : inB zs k) : 1 ≤ szC (zs.take k) ∧ szC (zs.take k) ≤ 1000000000001 := by
  have a := (szL_bd zs k hk h).1
  unfold szC
  omega
set_option maxHeartbeats 1000000 in
theorem l01Size_any (b n cap : Nat) (zs : List Int) (w : World) (h : Stk w b zs) (hn : n ≤ zs.length) (hin : inB zs n) :
    Calls Tryz.prog 24 #[.slice (some ⟨b, 0, none⟩) n cap] w fun e w' => e = .returned (.int .i64 (szC (zs.take n))) ∧ w = w' := by
  have hC := hid h.2.1
  have hl := Nat.le_trans hn h.2.2.2
  have hI := hid hin
  clear h hin
  go_enter Tryz.func24, Tryz.ntmps24
  go_wp2
  go_loop [3, 4] (fun s i => ∃ k : Nat, k ≤ n ∧ i = .int .i64 k ∧ s = .int .i64 (szC (zs.take k))) (fun _ i => n - (intOf i).toNat)
  case atStart => exact ⟨0, Nat.zero_le _, rfl, by rw [szC_zero]⟩
  case round =>
    obtain ⟨k, hk, rfl, rfl⟩ := hrel
    by_cases hlt : k < n
    · have hx := hC.out k (by omega)
      have hzb := hI.out k hlt
      have hb := szC_bd zs k (by omega) (fun j hj => hI.out j (by omega))
      have HT := hid (szC_take zs k (by omega) (fun j hj => hI.out j (by omega)))
      obtain ⟨p, hp⟩ : ∃ p, p = szC (zs.take k) := ⟨_, rfl⟩
      obtain ⟨z, hz⟩ : ∃ z, z = zs[k]?.getD 0 := ⟨_, rfl⟩
      rw [← hz] at hx hzb HT
      rw [← hp] at hb HT
      rw [← hp]
      have hp' := hid hp; have hz' := hid hz
      clear hp hz
      have s1 : p * z ≤ 100000000000100 := by
        have : p * z ≤ 1000000000001 * 100 := Int.mul_le_mul hb.2 hzb.2 (by omega) (by omega)
        omega
      have s2 : 0 ≤ p * z := Int.mul_nonneg (by omega) (by omega)
      go_wp2_with (go_at_call 38; refine (min_any _ _ _).mono ?_; rintro e w' ⟨rfl, rfl⟩)
      go_round
      case rel => exact ⟨k + 1, by omega, by go_num, by rw [← HT.out]⟩
      case measure => simp [intOf]; omega
    · obtain rfl : k = n := by omega
      go_wp2
      go_ret
      exact ⟨rfl, rfl⟩
theorem szC_ok (zs : List Int) : decide (szC zs ≤ 1000000000000) = decide (szL zs ≤ 1000000000000) := by
  by_cases c : szL zs ≤ 1000000000000
  · simp [c, show szC zs ≤ 1000000000000 from by unfold szC; omega]
  · simp [c, show ¬ szC zs ≤ 1000000000000 from by unfold szC; omega]
set_option maxHeartbeats 1000000 in
theorem l01Ok_any (b n cap : Nat) (zs : List Int) (w : World) (h : Stk w b zs) (hn : n = zs.length) :
    Calls Tryz.prog 12 #[.slice (some ⟨b, 0, none⟩) n cap] w fun e w' => e = .returned (.bool (okL zs)) ∧ w = w' := by
  have hS := hid h
  have hC := hid h.2.1
  have hZ := hid h.2.2.1
  have hl := h.2.2.2
  rw [← hn] at hl
  have hN := hid hn
  clear h hn
  by_cases h1 : n < 1
  · have hf := hid (okL_len0 zs (by rw [← hN.out]; exact h1))
    go_enter Tryz.func12, Tryz.ntmps12
    go_wp2_with (go_at_call 23; refine (inr_no _ _ _ _ (by omega)).mono ?_; rintro e w' ⟨rfl, rfl⟩)
    go_ret
    exact ⟨by rw [hf.out]; rfl, rfl⟩
  by_cases h8 : 8 < n
  · have hf := hid (okL_len9 zs (by rw [← hN.out]; exact h8))
    go_enter Tryz.func12, Tryz.ntmps12
    go_wp2_with (go_at_call 23; refine (inr_no _ _ _ _ (by omega)).mono ?_; rintro e w' ⟨rfl, rfl⟩)
    go_ret
    exact ⟨by rw [hf.out]; rfl, rfl⟩
  go_enter Tryz.func12, Tryz.ntmps12
  go_wp2_with (go_at_call 23; refine (inr_yes _ _ _ _ (by omega)).mono ?_; rintro e w' ⟨rfl, rfl⟩)
  go_loop [3] (fun i => ∃ k : Nat, k ≤ n ∧ i = .int .i64 k ∧ inB zs k) (fun i => n - (intOf i).toNat)
  case atStart => exact ⟨0, Nat.zero_le _, rfl, inB_zero _⟩
  case round =>
    obtain ⟨k, hk, rfl, hin⟩ := hrel
    by_cases hlt : k < n
    · have hltz : k < zs.length := by rw [← hN.out]; exact hlt
      have hx := hC.out k hltz
      have hzb := hZ.out (zs[k]?.getD 0) (by simp [hltz])
      have hHL := hid (okL_low zs k hltz)
      have hHH := hid (okL_high zs k hltz)
      have hHI := hid (fun a b => inB_succ hin a b)
      obtain ⟨z, hz⟩ : ∃ z, z = zs[k]?.getD 0 := ⟨_, rfl⟩
      rw [← hz] at hx hzb hHL hHH hHI
      have hz' := hid hz
      clear hz hin
      by_cases h2 : z < 2
      · have hf := hid (hHL.out h2)
        go_wp2
        go_ret
        exact ⟨by rw [hf.out]; rfl, rfl⟩
      by_cases h3 : 100 < z
      · have hf := hid (hHH.out h3)
        go_wp2
        go_ret
        exact ⟨by rw [hf.out]; rfl, rfl⟩
      have hHi := hid (hHI.out (by omega) (by omega))
      go_wp2
      go_round
      case rel => exact ⟨k + 1, by omega, by go_num, hHi.out⟩
      case measure => simp [intOf]; omega
    · obtain rfl : k = n := by omega
      rw [hN.out] at hin
      have hf' := hid ((okL_end zs (by rw [← hN.out]; omega) (by rw [← hN.out]; omega) hin).trans (szC_ok zs).symm)
      have hi' := hid hin
      have hz := hid (show zs.take k = zs by rw [hN.out, List.take_length])
      clear hin
      go_wp2_with (go_at_call 24; refine (l01Size_any _ _ _ zs _ hS.out (Nat.le_of_eq hN.out) (by rw [hN.out]; exact hi'.out)).mono ?_; rw [hz.out]; rintro e w' ⟨rfl, rfl⟩)
      go_ret
      exact ⟨by rw [hf'.out]; rfl, rfl⟩
end Go.Proofs.YtcanfcpofihoeaaGreatDoor

namespace Go.Proofs.YtcanfcpofihoeaaGreatDoor
open Go
theorem wpAnyH_takeD {P : Program} {ops : Array Oper} {Q : Exit → Act → World → Prop} {md : Region.Mode} {S : World → Prop} {i : Nat} (d : Option Nat) {oi : Oper} {v : Value} {fuel : Nat} {listed : Array Bool} {a : Act} {w : World} (hi : ops[i]? = some oi) (hdst : oi.dst = d)
    (hs : Region.noSelect ops = true) (hf : Region.free md ops listed i = true) (hr : (Region.ready md ops listed).contains i = true)
    (hQ : ∀ c a w, Q (.panic c) (a.put d v) w → Q (.panic c) a w) (hy : YieldsIf P ops S oi v a) (hS : S w)
    (h : wpAnyH P md ops Q S fuel (listed.setIfInBounds i true) (a.put d v) w) : wpAnyH P md ops Q S (fuel + 1) listed a w := by
  subst hdst; exact wpAnyH_take hi hs hf hr hQ hy hS h
end Go.Proofs.YtcanfcpofihoeaaGreatDoor

namespace Go.Proofs.YtcanfcpofihoeaaGreatDoor
open Go.RowKit
set_option linter.unusedVariables false
set_option linter.unusedSimpArgs false
theorem app_mk (a b : List UInt8) : (⟨a.toArray⟩ : ByteArray) ++ ⟨b.toArray⟩ = ⟨(a ++ b).toArray⟩ := by
  apply ByteArray.ext
  simp
/-- a text with zeros ahead up to a width -/
def padZ (wd : Nat) (l : List UInt8) : List UInt8 := List.replicate (wd - l.length) 48 ++ l
theorem repeat_zero : ∀ c, Lib.repeatL [48] c = List.replicate c 48
  | 0 => rfl
  | c + 1 => by rw [Lib.repeatL, repeat_zero c, List.replicate_succ]; rfl
theorem itoa_nat (n : Nat) : Lib.itoa (n : Int) = Lib.decDigits n := by
  unfold Lib.itoa
  rw [if_neg (by omega)]
  simp
theorem fmt_small (n : Nat) (hn : n < 100) (w : World) : Calls Tryz.prog 51 #[.int .i64 (n : Int), .int .i64 10] w fun e w' => e = .returned (.string ⟨(Lib.itoa n).toArray⟩) ∧ Below w.heap.size w w' := by
  rw [itoa_nat]
  exact (Tryz.strconv_FormatInt_10_small n hn w).mono fun e w' ⟨h1, h2⟩ => ⟨h1, by rw [h2]; exact Below.refl _ _⟩
theorem fmt_tab (n : Int) (h0 : -9223372036854775808 ≤ n) (h1 : n ≤ 9223372036854775807) (w : World) (ht : Lib.TabIs Tryz.prog w "internal/strconv.uint64pow10" .u64 Lib.pow10Tab) : Calls Tryz.prog 51 #[.int .i64 n, .int .i64 10] w fun e w' => e = .returned (.string ⟨(Lib.itoa n).toArray⟩) ∧ Below w.heap.size w w' :=
  (Tryz.strconv_FormatInt_10 n h0 h1 w ht).mono fun e w' ⟨h, k, os, hw⟩ => ⟨h, by rw [hw]; exact Lib.below_grow _ _ (Nat.le_refl _) k os⟩
set_option maxHeartbeats 400000 in
theorem decimal8_any (n : Int) (hn : 0 ≤ n ∧ n ≤ 255) (wd : Nat) (hw : wd ≤ 100) (hl : (Lib.itoa n).length ≤ 40) (w : World) (hF : Calls Tryz.prog 51 #[.int .i64 n, .int .i64 10] w fun e w' => e = .returned (.string ⟨(Lib.itoa n).toArray⟩) ∧ Below w.heap.size w w') :
    Calls Tryz.prog 55 #[.int .u8 n, .int .i64 wd] w fun e w' => e = .returned (.string ⟨(padZ wd (Lib.itoa n)).toArray⟩) ∧ Below w.heap.size w w' := by
  have HF := hid hF
  have HR := hid (fun c (h : c ≤ 100) w => Tryz.strings_Repeat ⟨#[48]⟩ c w (by omega) (by simp [ByteArray.size]; omega))
  have hp : padZ wd (Lib.itoa n) = Lib.repeatL [48] (wd - (Lib.itoa n).length) ++ Lib.itoa n := by rw [repeat_zero]; rfl
  rw [hp]
  have h0 := hn.1
  have h9 := hn.2
  obtain ⟨s, hs⟩ : ∃ s, Lib.itoa n = s := ⟨_, rfl⟩
  rw [hs] at hl HF ⊢
  obtain ⟨L, hL⟩ : ∃ L, s.length = L := ⟨_, rfl⟩
  obtain ⟨c, hc⟩ : ∃ c, wd - L = c := ⟨_, rfl⟩
  rw [hL] at hl ⊢
  rw [hc]
  have HRc := hid (HR.out c (by omega))
  have hLe : (⟨s.toArray⟩ : ByteArray).size = L := by rw [← hL]; simp [ByteArray.size]
  have l0 : (0 : Int) ≤ (L : Int) := by omega
  have l9 : (L : Int) ≤ 40 := by omega
  have d0 : (0 : Int) ≤ (wd : Int) := by omega
  have d9 : (wd : Int) ≤ 100 := by omega
  have hmx : max (0 : Int) ((wd : Int) - (L : Int)) = (c : Int) := by omega
  obtain ⟨z, hz⟩ : ∃ z, Lib.repeatL [48] c = z := ⟨_, rfl⟩
  have hzl : z.length = c := by rw [← hz, repeat_zero]; simp
  have HRd : ∀ w, Calls Tryz.prog 52 #[.string ⟨#[48]⟩, .int .i64 c] w fun e w' => e = .returned (.string ⟨z.toArray⟩) ∧ Below w.heap.size w w' := fun w => by rw [← hz]; exact HRc.out w
  have HRc := hid HRd
  rw [hz]
  have HAP := hid (app_mk z s)
  have hsz : ¬ (9223372036854775807 < z.length + s.length) := by omega
  clear hF hn hs hc hp HR HRd hz hzl
  go_enter Tryz.func55, Tryz.ntmps55
  go_wp2_with fail
  refine HF.out.mono ?_
  rintro e w1 ⟨rfl, hB1⟩
  have B1 := hid hB1
  clear hB1
  go_wp2_with fail
  refine (HRc.out w1).mono ?_
  rintro e w2 ⟨rfl, hB2⟩
  have B2 := hid (B1.out.trans (hB2.mono B1.out.size))
  clear hB2
  go_wp2_with fail
  go_ret
  exact ⟨(show _ = Ending.returned (.string ((⟨z.toArray⟩ : ByteArray) ++ ⟨s.toArray⟩)) from rfl).trans (by rw [HAP.out]), B2.out⟩
theorem conv_one (x : Int) (W : World) (b : Nat) (hc : W.cell? ⟨b, 0, none⟩ = some (.int .u8 x)) :
    (convert 22 9 (.slice (some ⟨b, 0, none⟩) 1 1)).run Tryz.prog W = .ok (.string ⟨#[UInt8.ofNat x.toNat]⟩) W := by
  rw [run_convert_bytes_string W 22 9 5 (some ⟨b, 0, none⟩) 1 1 Tryz.underlying22 Tryz.underlying5 Tryz.underlying9]
  rw [run_bytesToString W ⟨b, 0, none⟩ 1 1 [x] (run_loadCells_list W ⟨b, 0, none⟩ [.int .u8 x] (by intro j v hj; match j, hj with | 0, hj => simp at hj; subst hj; simpa [Addr.add] using hc))]
  rfl
theorem ofNat48 (n : Nat) : UInt8.ofNat ((48 : Int) + (n : Int)).toNat = UInt8.ofNat (48 + n) := by
  congr 1
set_option maxRecDepth 20000 in
theorem dec_small (n : Nat) (hn : n < 10) (w : World) : Calls Tryz.prog 56 #[.int .i64 n] w fun e w' => e = .returned (.string ⟨(Lib.decDigits n).toArray⟩) ∧ Below w.heap.size w w' := by
  have h1 : (n : Int) < 10 := by omega
  have h0 : (0 : Int) ≤ n := by omega
  have hD : Lib.decDigits n = [UInt8.ofNat (48 + n)] := by rw [Lib.decDigits, dif_pos hn]
  rw [hD]
  obtain ⟨r, hr⟩ : ∃ r, (n : Int) % 10 = r := ⟨_, rfl⟩
  have r0 : 0 ≤ r := by omega
  have r9 : r ≤ 9 := by omega
  have hrn : r = (n : Int) := by omega
  have u1 : IntKind.u8.wrap (48 + r) = 48 + r := by unfold IntKind.wrap; simp [IntKind.bits, IntKind.signed]; omega
  have hcv := conv_one (48 + r) (w.alloc (.cells #[.int .u8 (48 + r)] 5)) w.heap.size ((Row.new w 5 [.int .u8 (48 + r)]).cell 0)
  have hE := hid (show UInt8.ofNat (48 + r).toNat = UInt8.ofNat (48 + n) from by rw [hrn]; exact ofNat48 n)
  have bA := hid (show Below w.heap.size w (w.alloc (.cells #[.int .u8 (48 + r)] 5)) from (Below.refl _ w).alloc (Nat.le_refl _) _)
  clear hrn hD
  go_enter Tryz.func56, Tryz.ntmps56
  go_wp2_with fail
  go_ret
  exact ⟨(show _ = Ending.returned (.string ⟨#[UInt8.ofNat (48 + r).toNat]⟩) from rfl).trans (by rw [hE.out]), bA.out⟩
/-- how long a number's text is -/
theorem dec_len : ∀ k n, n < 10 ^ k → (Lib.decDigits n).length ≤ k + 1
  | 0, n, h => by
    have : n = 0 := by simpa using h
    subst this
    simp [Lib.decDigits]
  | k + 1, n, h => by
    rw [Lib.decDigits]
    split
    · simp
    · have := dec_len k (n / 10) (by rw [Nat.pow_succ] at h; omega)
      simp; omega
set_option maxRecDepth 20000 in
set_option maxHeartbeats 1000000 in
theorem dec_any : ∀ (k : Nat), k ≤ 18 → ∀ n : Nat, n < 10 ^ k → ∀ w, Calls Tryz.prog 56 #[.int .i64 n] w fun e w' => e = .returned (.string ⟨(Lib.decDigits n).toArray⟩) ∧ Below w.heap.size w w'
  | 0, _, n, h, w => dec_small n (by have : n < 1 := by simpa using h
                                     omega) w
  | k + 1, hk, n, h, w => by
    by_cases hn : n < 10
    · exact dec_small n hn w
    have hlt : n / 10 < 10 ^ k := by rw [Nat.pow_succ] at h; omega
    have HI := hid (dec_any k (by omega) (n / 10) hlt)
    have hlen := dec_len k (n / 10) hlt
    have hbig : n < 1000000000000000000 := Nat.lt_of_lt_of_le h (Nat.le_trans (Nat.pow_le_pow_right (by omega) hk) (by decide))
    have hD : Lib.decDigits n = Lib.decDigits (n / 10) ++ [UInt8.ofNat (48 + n % 10)] := by
      rw [Lib.decDigits, dif_neg hn]
    rw [hD]
    have h1 : ¬ (n : Int) < 10 := by omega
    have h0 : (0 : Int) ≤ n := by omega
    have h9 : (n : Int) ≤ 1000000000000000000 := by omega
    obtain ⟨s, hs⟩ : ∃ s, Lib.decDigits (n / 10) = s := ⟨_, rfl⟩
    rw [hs] at HI hlen ⊢
    have hsz : ¬ (9223372036854775807 < s.length + 1) := by omega
    obtain ⟨r, hr⟩ : ∃ r, (n : Int) % 10 = r := ⟨_, rfl⟩
    obtain ⟨q, hq⟩ : ∃ q, (n : Int) / 10 = q := ⟨_, rfl⟩
    have r0 : 0 ≤ r := by omega
    have r9 : r ≤ 9 := by omega
    have tq : (n : Int).tdiv 10 = q := by rw [← hq]; exact Int.tdiv_eq_ediv_of_nonneg h0
    have tr : (n : Int).tmod 10 = r := by rw [← hr]; exact Int.tmod_eq_emod_of_nonneg h0
    have q0 : 0 ≤ q := by omega
    have q9 : q ≤ 1000000000000000000 := by omega
    have hqn : ((n / 10 : Nat) : Int) = q := by omega
    rw [hqn] at HI
    have w2 : IntKind.i64.wrap q = q := IntWalk.i64_in _ (by omega)
    have w3 : IntKind.i64.wrap (48 + r) = 48 + r := IntWalk.i64_in _ (by omega)
    have u1 : IntKind.u8.wrap (48 + r) = 48 + r := by unfold IntKind.wrap; simp [IntKind.bits, IntKind.signed]; omega
    have hE0 : UInt8.ofNat (48 + r).toNat = UInt8.ofNat (48 + n % 10) := by
      have : r = ((n % 10 : Nat) : Int) := by omega
      rw [this]; exact ofNat48 _
    obtain ⟨c8, hc8⟩ : ∃ c8, UInt8.ofNat (48 + n % 10) = c8 := ⟨_, rfl⟩
    rw [hc8] at hE0 ⊢
    have hE := hid hE0
    clear hE0 hc8
    have bW : Below w.heap.size w w := Below.refl _ _
    clear hD hs hbig hlt h hk hr hq hqn hlen
    go_enter Tryz.func56, Tryz.ntmps56
    go_wp2_with fail
    refine wp_region_held (S := fun _ : World => True) (by kernel_rfl) ?_
    change wpAnyH _ _ _ _ _ _ _ _ (World.drew _)
    obtain ⟨W0, hW0⟩ : ∃ X, X = World.drew (w) := ⟨_, rfl⟩
    have hD0 : Below (w).heap.size (w) W0 := by rw [hW0]; exact (Below.refl _ _).drew
    have bW0 := bW.trans (hD0.mono bW.size)
    have bR : Below W0.heap.size W0 W0 := Below.refl _ _
    rw [← hW0]
    clear hW0 hD0
    have hS0 : (fun _ : World => True) W0 := trivial
    refine wpAnyH_takeD (some 11) (i := 0) (v := ?_) rfl rfl (by kernel_rfl) (by kernel_rfl) (by kernel_rfl) (fun _ _ _ h => h) (.inl ⟨by kernel_rfl, ?_⟩) hS0 ?_
    rotate_left
    · intro w' hw'; go_simp; try with_reducible rfl
    try simp only [Act.put, List.setIfInBounds_toArray, List.set_cons_zero, List.set_cons_succ]
    refine wpAnyH_takeD (some 12) (i := 1) (v := ?_) rfl rfl (by kernel_rfl) (by kernel_rfl) (by kernel_rfl) (fun _ _ _ h => h) (.inl ⟨by kernel_rfl, ?_⟩) hS0 ?_
    rotate_left
    · intro w' hw'; go_simp; try with_reducible rfl
    try simp only [Act.put, List.setIfInBounds_toArray, List.set_cons_zero, List.set_cons_succ]
    refine wpAnyH_takeD (some 14) (i := 3) (v := ?_) rfl rfl (by kernel_rfl) (by kernel_rfl) (by kernel_rfl) (fun _ _ _ h => h) (.inl ⟨by kernel_rfl, ?_⟩) hS0 ?_
    rotate_left
    · intro w' hw'; go_simp; try with_reducible rfl
    try simp only [Act.put, List.setIfInBounds_toArray, List.set_cons_zero, List.set_cons_succ]
    refine wpAnyH_takeD (some 15) (i := 4) (v := ?_) rfl rfl (by kernel_rfl) (by kernel_rfl) (by kernel_rfl) (fun _ _ _ h => h) (.inl ⟨by kernel_rfl, ?_⟩) hS0 ?_
    rotate_left
    · intro w' hw'; go_simp; try with_reducible rfl
    try simp only [Act.put, List.setIfInBounds_toArray, List.set_cons_zero, List.set_cons_succ]
    refine wpAnyH_takeD (some 16) (i := 5) (v := ?_) rfl rfl (by kernel_rfl) (by kernel_rfl) (by kernel_rfl) (fun _ _ _ h => h) (.inl ⟨by kernel_rfl, ?_⟩) hS0 ?_
    rotate_left
    · intro w' hw'; go_simp; try with_reducible rfl
    try simp only [Act.put, List.setIfInBounds_toArray, List.set_cons_zero, List.set_cons_succ]
    refine wpAnyH_takeD (some 17) (i := 6) (v := ?_) rfl rfl (by kernel_rfl) (by kernel_rfl) (by kernel_rfl) (fun _ _ _ h => h) (.inl ⟨by kernel_rfl, ?_⟩) hS0 ?_
    rotate_left
    · intro w' hw'; go_simp; try with_reducible rfl
    try simp only [Act.put, List.setIfInBounds_toArray, List.set_cons_zero, List.set_cons_succ]
    refine wpAnyH_all (rs := [2, 7]) (by kernel_rfl) (by simp) ?_
    intro i hi; simp only [List.mem_cons, List.not_mem_nil, or_false] at hi
    rcases hi with rfl | rfl
    · refine wpOp_step rfl (fun K hK => ?_)
      go_simp
      with_reducible refine (HI.out W0).mono ?_
      rintro e v1 ⟨rfl, hB1⟩
      replace bR := bR.trans (hB1.mono bR.size)
      have hS1 : (fun _ : World => True) v1 := trivial
      refine hK _ _ ⟨hS1, ?_⟩
      try simp only [Act.put, List.setIfInBounds_toArray, List.set_cons_zero, List.set_cons_succ]
      clear hB1 hK K hS0
      refine wpAnyH_all (rs := [7]) (by kernel_rfl) (by simp) ?_
      intro i hi; simp only [List.mem_cons, List.not_mem_nil, or_false] at hi
      subst hi
      refine wpOp_step rfl (fun K hK => ?_)
      go_simp
      have rc := Row.new v1 5 [.int .u8 (48 + r)]
      have hA : Below v1.heap.size v1 (v1.alloc (.cells #[.int .u8 (48 + r)] 5)) := (Below.refl _ _).alloc (Nat.le_refl _) _
      have l_rc := bR.size
      replace bR := bR.trans (hA.mono bR.size)
      have hS2 : (fun _ : World => True) (v1.alloc (.cells #[.int .u8 (48 + r)] 5)) := trivial
      refine hK _ _ ⟨hS2, ?_⟩
      try simp only [Act.put, List.setIfInBounds_toArray, List.set_cons_zero, List.set_cons_succ]
      obtain ⟨X2, hX2⟩ : ∃ X, X = v1.alloc (.cells #[.int .u8 (48 + r)] 5) := ⟨_, rfl⟩
      rw [← hX2] at  rc bR hS2 ⊢
      clear hX2 hA hK K hS1
      refine wpAnyH_all (rs := [8]) (by kernel_rfl) (by simp) ?_
      intro i hi; simp only [List.mem_cons, List.not_mem_nil, or_false] at hi
      subst hi
      refine wpOp_step rfl (fun K hK => ?_)
      have hcv := conv_one (48 + r) X2 (v1.heap.size) (rc.cell 0)
      go_simp
      refine hK _ _ ⟨hS2, ?_⟩
      try simp only [Act.put, List.setIfInBounds_toArray, List.set_cons_zero, List.set_cons_succ]
      clear hK K
      refine wpAnyH_takeD (some 20) (i := 9) (v := ?_) rfl rfl (by kernel_rfl) (by kernel_rfl) (by kernel_rfl) (fun _ _ _ h => h) (.inl ⟨by kernel_rfl, ?_⟩) hS2 ?_
      rotate_left
      · intro w' hw'; go_simp; try with_reducible rfl
      try simp only [Act.put, List.setIfInBounds_toArray, List.set_cons_zero, List.set_cons_succ]
      refine wpAnyH_takeD (some 2) (i := 10) (v := ?_) rfl rfl (by kernel_rfl) (by kernel_rfl) (by kernel_rfl) (fun _ _ _ h => h) (.inl ⟨by kernel_rfl, ?_⟩) hS2 ?_
      rotate_left
      · intro w' hw'; go_simp; try with_reducible rfl
      try simp only [Act.put, List.setIfInBounds_toArray, List.set_cons_zero, List.set_cons_succ]
      refine wpAnyH_done (by kernel_rfl) ?_ _
      go_wp2_with fail
      go_ret
      exact ⟨(show _ = Ending.returned (.string ((⟨s.toArray⟩ : ByteArray) ++ ⟨#[UInt8.ofNat (48 + r).toNat]⟩)) from rfl).trans (by rw [hE.out]; exact congrArg _ (congrArg _ (app_mk s [c8]))), bW0.trans (bR.mono bW0.size)⟩
    · refine wpOp_step rfl (fun K hK => ?_)
      go_simp
      have rc := Row.new W0 5 [.int .u8 (48 + r)]
      have hA : Below W0.heap.size W0 (W0.alloc (.cells #[.int .u8 (48 + r)] 5)) := (Below.refl _ _).alloc (Nat.le_refl _) _
      have l_rc := bR.size
      replace bR := bR.trans (hA.mono bR.size)
      have hS4 : (fun _ : World => True) (W0.alloc (.cells #[.int .u8 (48 + r)] 5)) := trivial
      refine hK _ _ ⟨hS4, ?_⟩
      try simp only [Act.put, List.setIfInBounds_toArray, List.set_cons_zero, List.set_cons_succ]
      obtain ⟨X4, hX4⟩ : ∃ X, X = W0.alloc (.cells #[.int .u8 (48 + r)] 5) := ⟨_, rfl⟩
      rw [← hX4] at  rc bR hS4 ⊢
      clear hX4 hA hK K hS0
      refine wpAnyH_all (rs := [2, 8]) (by kernel_rfl) (by simp) ?_
      intro i hi; simp only [List.mem_cons, List.not_mem_nil, or_false] at hi
      rcases hi with rfl | rfl
      · refine wpOp_step rfl (fun K hK => ?_)
        go_simp
        with_reducible refine (HI.out X4).mono ?_
        rintro e v5 ⟨rfl, hB5⟩
        replace rc := rc.below hB5 rc.lt
        replace bR := bR.trans (hB5.mono bR.size)
        have hS5 : (fun _ : World => True) v5 := trivial
        refine hK _ _ ⟨hS5, ?_⟩
        try simp only [Act.put, List.setIfInBounds_toArray, List.set_cons_zero, List.set_cons_succ]
        clear hB5 hK K hS4
        refine wpAnyH_all (rs := [8]) (by kernel_rfl) (by simp) ?_
        intro i hi; simp only [List.mem_cons, List.not_mem_nil, or_false] at hi
        subst hi
        refine wpOp_step rfl (fun K hK => ?_)
        have hcv := conv_one (48 + r) v5 (W0.heap.size) (rc.cell 0)
        go_simp
        refine hK _ _ ⟨hS5, ?_⟩
        try simp only [Act.put, List.setIfInBounds_toArray, List.set_cons_zero, List.set_cons_succ]
        clear hK K
        refine wpAnyH_takeD (some 20) (i := 9) (v := ?_) rfl rfl (by kernel_rfl) (by kernel_rfl) (by kernel_rfl) (fun _ _ _ h => h) (.inl ⟨by kernel_rfl, ?_⟩) hS5 ?_
        rotate_left
        · intro w' hw'; go_simp; try with_reducible rfl
        try simp only [Act.put, List.setIfInBounds_toArray, List.set_cons_zero, List.set_cons_succ]
        refine wpAnyH_takeD (some 2) (i := 10) (v := ?_) rfl rfl (by kernel_rfl) (by kernel_rfl) (by kernel_rfl) (fun _ _ _ h => h) (.inl ⟨by kernel_rfl, ?_⟩) hS5 ?_
        rotate_left
        · intro w' hw'; go_simp; try with_reducible rfl
        try simp only [Act.put, List.setIfInBounds_toArray, List.set_cons_zero, List.set_cons_succ]
        refine wpAnyH_done (by kernel_rfl) ?_ _
        go_wp2_with fail
        go_ret
        exact ⟨(show _ = Ending.returned (.string ((⟨s.toArray⟩ : ByteArray) ++ ⟨#[UInt8.ofNat (48 + r).toNat]⟩)) from rfl).trans (by rw [hE.out]; exact congrArg _ (congrArg _ (app_mk s [c8]))), bW0.trans (bR.mono bW0.size)⟩
      · refine wpOp_step rfl (fun K hK => ?_)
        have hcv := conv_one (48 + r) X4 (W0.heap.size) (rc.cell 0)
        go_simp
        refine hK _ _ ⟨hS4, ?_⟩
        try simp only [Act.put, List.setIfInBounds_toArray, List.set_cons_zero, List.set_cons_succ]
        clear hK K
        refine wpAnyH_all (rs := [2]) (by kernel_rfl) (by simp) ?_
        intro i hi; simp only [List.mem_cons, List.not_mem_nil, or_false] at hi
        subst hi
        refine wpOp_step rfl (fun K hK => ?_)
        go_simp
        with_reducible refine (HI.out X4).mono ?_
        rintro e v8 ⟨rfl, hB8⟩
        replace rc := rc.below hB8 rc.lt
        replace bR := bR.trans (hB8.mono bR.size)
        have hS8 : (fun _ : World => True) v8 := trivial
        refine hK _ _ ⟨hS8, ?_⟩
        try simp only [Act.put, List.setIfInBounds_toArray, List.set_cons_zero, List.set_cons_succ]
        clear hB8 hK K hS4
        refine wpAnyH_takeD (some 20) (i := 9) (v := ?_) rfl rfl (by kernel_rfl) (by kernel_rfl) (by kernel_rfl) (fun _ _ _ h => h) (.inl ⟨by kernel_rfl, ?_⟩) hS8 ?_
        rotate_left
        · intro w' hw'; go_simp; try with_reducible rfl
        try simp only [Act.put, List.setIfInBounds_toArray, List.set_cons_zero, List.set_cons_succ]
        refine wpAnyH_takeD (some 2) (i := 10) (v := ?_) rfl rfl (by kernel_rfl) (by kernel_rfl) (by kernel_rfl) (fun _ _ _ h => h) (.inl ⟨by kernel_rfl, ?_⟩) hS8 ?_
        rotate_left
        · intro w' hw'; go_simp; try with_reducible rfl
        try simp only [Act.put, List.setIfInBounds_toArray, List.set_cons_zero, List.set_cons_succ]
        refine wpAnyH_done (by kernel_rfl) ?_ _
        go_wp2_with fail
        go_ret
        exact ⟨(show _ = Ending.returned (.string ((⟨s.toArray⟩ : ByteArray) ++ ⟨#[UInt8.ofNat (48 + r).toNat]⟩)) from rfl).trans (by rw [hE.out]; exact congrArg _ (congrArg _ (app_mk s [c8]))), bW0.trans (bR.mono bW0.size)⟩
end Go.Proofs.YtcanfcpofihoeaaGreatDoor

namespace Go.Proofs.YtcanfcpofihoeaaGreatDoor
open Go.RowKit
set_option linter.unusedVariables false
set_option linter.unusedSimpArgs false
set_option maxHeartbeats 400000 in
theorem decimal64_any (n : Int) (hn : 0 ≤ n ∧ n ≤ 1000000000000000) (wd : Nat) (hw : wd ≤ 100) (hl : (Lib.itoa n).length ≤ 40) (w : World) (hF : Calls Tryz.prog 51 #[.int .i64 n, .int .i64 10] w fun e w' => e = .returned (.string ⟨(Lib.itoa n).toArray⟩) ∧ Below w.heap.size w w') :
    Calls Tryz.prog 34 #[.int .i64 n, .int .i64 wd] w fun e w' => e = .returned (.string ⟨(padZ wd (Lib.itoa n)).toArray⟩) ∧ Below w.heap.size w w' := by
  have HF := hid hF
  have HR := hid (fun c (h : c ≤ 100) w => Tryz.strings_Repeat ⟨#[48]⟩ c w (by omega) (by simp [ByteArray.size]; omega))
  have hp : padZ wd (Lib.itoa n) = Lib.repeatL [48] (wd - (Lib.itoa n).length) ++ Lib.itoa n := by rw [repeat_zero]; rfl
  rw [hp]
  have h0 := hn.1
  have h9 := hn.2
  obtain ⟨s, hs⟩ : ∃ s, Lib.itoa n = s := ⟨_, rfl⟩
  rw [hs] at hl HF ⊢
  obtain ⟨L, hL⟩ : ∃ L, s.length = L := ⟨_, rfl⟩
  obtain ⟨c, hc⟩ : ∃ c, wd - L = c := ⟨_, rfl⟩
  rw [hL] at hl ⊢
  rw [hc]
  have HRc := hid (HR.out c (by omega))
  have hLe : (⟨s.toArray⟩ : ByteArray).size = L := by rw [← hL]; simp [ByteArray.size]
  have l0 : (0 : Int) ≤ (L : Int) := by omega
  have l9 : (L : Int) ≤ 40 := by omega
  have d0 : (0 : Int) ≤ (wd : Int) := by omega
  have d9 : (wd : Int) ≤ 100 := by omega
  have hmx : max (0 : Int) ((wd : Int) - (L : Int)) = (c : Int) := by omega
  obtain ⟨z, hz⟩ : ∃ z, Lib.repeatL [48] c = z := ⟨_, rfl⟩
  have hzl : z.length = c := by rw [← hz, repeat_zero]; simp
  have HRd : ∀ w, Calls Tryz.prog 52 #[.string ⟨#[48]⟩, .int .i64 c] w fun e w' => e = .returned (.string ⟨z.toArray⟩) ∧ Below w.heap.size w w' := fun w => by rw [← hz]; exact HRc.out w
  have HRc := hid HRd
  rw [hz]
  have HAP := hid (app_mk z s)
  have hsz : ¬ (9223372036854775807 < z.length + s.length) := by omega
  clear hF hn hs hc hp HR HRd hz hzl
  go_enter Tryz.func34, Tryz.ntmps34
  go_wp2_with fail
  refine HF.out.mono ?_
  rintro e w1 ⟨rfl, hB1⟩
  have B1 := hid hB1
  clear hB1
  go_wp2_with fail
  refine (HRc.out w1).mono ?_
  rintro e w2 ⟨rfl, hB2⟩
  have B2 := hid (B1.out.trans (hB2.mono B1.out.size))
  clear hB2
  go_wp2_with fail
  go_ret
  exact ⟨(show _ = Ending.returned (.string ((⟨z.toArray⟩ : ByteArray) ++ ⟨s.toArray⟩)) from rfl).trans (by rw [HAP.out]), B2.out⟩
end Go.Proofs.YtcanfcpofihoeaaGreatDoor

namespace Go.Proofs.YtcanfcpofihoeaaGreatDoor
open Go.RowKit Go.Shelf
set_option linter.unusedVariables false
set_option linter.unusedSimpArgs false
def renB : Go.Shelf.Ren := ⟨fun | 166 => 33 | 169 => 37 | 240 => 50 | 276 => 71 | n => n, fun | 0 => 0 | 3 => 3 | 4 => 4 | 5 => 5 | 9 => 9 | 20 => 20 | 37 => 22 | 70 => 65 | 72 => 67 | 75 => 61 | 80 => 73 | 127 => 94 | 164 => 112 | n => n, fun | n => n⟩
theorem laysW : Lays.n166 Tryz.prog renB := {
  mixed := by kernel_rfl
  f166 := by kernel_rfl
  f240 := by kernel_rfl
  f276 := by kernel_rfl
  t0 := by kernel_rfl
  a0 := fun _ => by kernel_rfl
  z0 := fun _ => by kernel_rfl
  v0 := fun _ => by kernel_rfl
  t3 := by kernel_rfl
  a3 := fun _ => by kernel_rfl
  z3 := fun _ => by kernel_rfl
  v3 := fun _ => by kernel_rfl
  t4 := by kernel_rfl
  a4 := fun _ => by kernel_rfl
  z4 := fun _ => by kernel_rfl
  v4 := fun _ => by kernel_rfl
  t9 := by kernel_rfl
  a9 := fun _ => by kernel_rfl
  z9 := fun _ => by kernel_rfl
  v9 := fun _ => by kernel_rfl
  t20 := by kernel_rfl
  a20 := fun _ => by kernel_rfl
  z20 := fun _ => by kernel_rfl
  v20 := fun _ => by kernel_rfl
  t37 := by kernel_rfl
  a37 := fun _ => by kernel_rfl
  z37 := fun _ => by kernel_rfl
  v37 := fun _ => by kernel_rfl
  t70 := by kernel_rfl
  a70 := fun _ => by kernel_rfl
  z70 := fun _ => by kernel_rfl
  v70 := fun _ => by kernel_rfl
  t72 := by kernel_rfl
  a72 := fun _ => by kernel_rfl
  z72 := fun _ => by kernel_rfl
  v72 := fun _ => by kernel_rfl
  t75 := by kernel_rfl
  a75 := fun _ => by kernel_rfl
  z75 := fun _ => by kernel_rfl
  v75 := fun _ => by kernel_rfl
  t164 := by kernel_rfl
  a164 := fun _ => by kernel_rfl
  z164 := fun _ => by kernel_rfl
  v164 := fun _ => by kernel_rfl }
theorem laysS : Lays.n169 Tryz.prog renB := {
  mixed := by kernel_rfl
  f169 := by kernel_rfl
  t0 := by kernel_rfl
  a0 := fun _ => by kernel_rfl
  z0 := fun _ => by kernel_rfl
  v0 := fun _ => by kernel_rfl
  t3 := by kernel_rfl
  a3 := fun _ => by kernel_rfl
  z3 := fun _ => by kernel_rfl
  v3 := fun _ => by kernel_rfl
  t9 := by kernel_rfl
  a9 := fun _ => by kernel_rfl
  z9 := fun _ => by kernel_rfl
  v9 := fun _ => by kernel_rfl
  t37 := by kernel_rfl
  a37 := fun _ => by kernel_rfl
  z37 := fun _ => by kernel_rfl
  v37 := fun _ => by kernel_rfl
  t70 := by kernel_rfl
  a70 := fun _ => by kernel_rfl
  z70 := fun _ => by kernel_rfl
  v70 := fun _ => by kernel_rfl
  t72 := by kernel_rfl
  a72 := fun _ => by kernel_rfl
  z72 := fun _ => by kernel_rfl
  v72 := fun _ => by kernel_rfl
  t127 := by kernel_rfl
  a127 := fun _ => by kernel_rfl
  z127 := fun _ => by kernel_rfl
  v127 := fun _ => by kernel_rfl }
theorem extraB : Builder.Extra Tryz.prog renB := {
  sizeBuilder := by kernel_rfl
  liesBuilder := by kernel_rfl
  t5 := by kernel_rfl
  a5 := fun _ => by kernel_rfl
  z5 := fun _ => by kernel_rfl
  v5 := fun _ => by kernel_rfl
  infoByte := by kernel_rfl
  cellsByte := by kernel_rfl
  sizeByte := by kernel_rfl
  neB5 := by decide }
theorem tab_belowO {W W' : World} {B : Nat} (h : Lib.TabIs Tryz.prog W "internal/strconv.uint64pow10" .u64 Lib.pow10Tab) (hb : Below B W W') (hB : 3 < B) : Lib.TabIs Tryz.prog W' "internal/strconv.uint64pow10" .u64 Lib.pow10Tab := var?_below hb (by kernel_rfl) hB h
theorem dec_bigO (z : Int) (h : 0 ≤ z ∧ z ≤ 1000000000000) (w : World) : Calls Tryz.prog 56 #[.int .i64 z] w fun e w' => e = .returned (.string ⟨(Lib.itoa z).toArray⟩) ∧ Below w.heap.size w w' := by
  obtain ⟨n, rfl⟩ : ∃ n : Nat, z = (n : Int) := ⟨z.toNat, by omega⟩
  rw [itoa_nat]
  exact dec_any 13 (by omega) n (by omega) w
theorem itoa_bigO (z : Int) (h : 0 ≤ z ∧ z ≤ 1000000000000) : (Lib.itoa z).length ≤ 14 := by
  obtain ⟨n, rfl⟩ : ∃ n : Nat, z = (n : Int) := ⟨z.toNat, by omega⟩
  rw [itoa_nat]
  exact dec_len 13 n (by omega)
theorem pad1O (z : Int) (h : 0 ≤ z) : padZ 1 (Lib.itoa z) = Lib.itoa z := by
  have e : ∀ l : List UInt8, 1 ≤ l.length → padZ 1 l = l := fun l hl => by rw [padZ, Nat.sub_eq_zero_of_le hl]; rfl
  apply e
  obtain ⟨m, rfl⟩ : ∃ m : Nat, z = (m : Int) := ⟨z.toNat, by omega⟩
  rw [itoa_nat, Lib.decDigits]
  split <;> simp
theorem dec_i64O (z : Int) (h : 0 ≤ z ∧ z ≤ 1000000000000) (w : World) (ht : Lib.TabIs Tryz.prog w "internal/strconv.uint64pow10" .u64 Lib.pow10Tab) : Calls Tryz.prog 34 #[.int .i64 z, .int .i64 1] w fun e w' => e = .returned (.string ⟨(Lib.itoa z).toArray⟩) ∧ Below w.heap.size w w' := by
  have := decimal64_any z (by omega) 1 (by omega) (by have := itoa_bigO z h; omega) w (fmt_tab z (by omega) (by omega) w ht)
  rw [pad1O z h.1] at this
  exact this
theorem app4 (A C : List UInt8) : (⟨A.toArray⟩ : ByteArray) ++ ⟨#[32]⟩ ++ ⟨C.toArray⟩ ++ ⟨#[10]⟩ = ⟨(A ++ [32] ++ C ++ [10]).toArray⟩ := by
  rw [show (⟨#[32]⟩ : ByteArray) = ⟨([32] : List UInt8).toArray⟩ from rfl, show (⟨#[10]⟩ : ByteArray) = ⟨([10] : List UInt8).toArray⟩ from rfl, app_mk, app_mk, app_mk]
theorem byte_app (a b : List UInt8) : Lib.byteCells a ++ Lib.strCells ⟨b.toArray⟩ = Lib.byteCells (a ++ b) := by simp [Lib.byteCells, Lib.strCells]
/-- a builder in memory of its own holds these bytes -/
def BuS (w : World) (b : Nat) (l : List UInt8) : Prop := b < w.heap.size ∧ Lib.IsBuilderF 67 5 b b (Lib.byteCells l) w
theorem BuS.below {w w' : World} {b : Nat} {l : List UInt8} (h : BuS w b l) (hb : Below w.heap.size w w') (_ : b < w.heap.size) : BuS w' b l := by
  refine ⟨Nat.lt_of_lt_of_le h.1 hb.size, ?_⟩
  have key : ∀ p, Lib.BuilderAtF 67 5 b b p (Lib.byteCells l) w → Lib.BuilderAtF 67 5 b b p (Lib.byteCells l) w' := fun p hp => by
    obtain ⟨hB, v, hbk, hown, hne⟩ := hp
    refine ⟨hB, v, (hb.block b h.1).trans hbk, ⟨hown.1, ?_⟩, hne⟩
    rcases hown.2 with h0 | ⟨g, cap, cur, fz, hv, h2, h3, h4⟩
    · exact .inl h0
    · exact .inr ⟨g, cap, cur, fz, hv, h2, (hb.block g (lt_of_block h3)).trans h3, h4⟩
  exact h.2.elim (fun x => .inl (key _ x)) (fun x => .inr (key _ x))
theorem BuS.new (w : World) : BuS (w.alloc (.cells #[.pointer none, .slice none 0 0] 67)) w.heap.size [] := by
  refine ⟨by simp, Lib.IsBuilderF.of (.inl ⟨Nat.le_refl _, .slice none 0 0, heap_alloc_new w _, ⟨rfl, .inl ⟨rfl, rfl⟩⟩, by simp [Value.ownBlock]⟩)⟩
theorem write_any (b : Nat) (l s : List UInt8) (w : World) (h : BuS w b l) (hl : l.length + s.length ≤ 100000) :
    Calls Tryz.prog 33 #[.pointer (some ⟨b, 0, none⟩), .string ⟨s.toArray⟩] w fun e w' => e = .returned (.tuple #[.int .i64 s.length, .nilIface]) ∧ BuS w' b (l ++ s) ∧ Below b w w' ∧ Lib.OthersKept 5 (some b) w w' := by
  have := Any.Builder_WriteString_k laysW extraB b b (Lib.byteCells l) ⟨s.toArray⟩ w h.2 (by simp [Lib.byteCells, ByteArray.size]; omega) (Nat.le_of_lt h.1)
  refine this.mono ?_
  rintro e w' ⟨rfl, h1, h2, h3⟩
  refine ⟨by simp [ByteArray.size], ⟨Nat.lt_of_lt_of_le h.1 h2.size, ?_⟩, h2, h3⟩
  rw [← byte_app]
  exact .inr h1
theorem bstring_any (b : Nat) (l : List UInt8) (w : World) (h : BuS w b l) :
    Calls Tryz.prog 37 #[.pointer (some ⟨b, 0, none⟩)] w fun e w' => e = .returned (.string ⟨l.toArray⟩) ∧ Below b w w' :=
  (Any.Builder_String_any_k laysS extraB b b l w h.2 (Nat.le_of_lt h.1)).mono fun e w' h => ⟨h.1, h.2.2.1⟩
theorem row_others {w w' : World} {g b : Nat} {e e' : TypeId} {xs : List Value} (h : Row w g e xs) (ho : Lib.OthersKept e' (some b) w w') (hg : g ≠ b) (he : e ≠ e') : Row w' g e xs :=
  ho g _ h (fun x => hg (Option.some.inj x)) (fun c fz x => he (by cases x; rfl))
end Go.Proofs.YtcanfcpofihoeaaGreatDoor

namespace Go.Proofs.YtcanfcpofihoeaaGreatDoor
open Go.ChangeShapes Go.WideShapes Go.ChangeAt Go.RowKit

/-- eight bytes -/
def Oct (d0 d1 d2 d3 d4 d5 d6 d7 : Int) : Prop :=
  (0 ≤ d0 ∧ d0 ≤ 255) ∧ (0 ≤ d1 ∧ d1 ≤ 255) ∧ (0 ≤ d2 ∧ d2 ≤ 255) ∧ (0 ≤ d3 ∧ d3 ≤ 255) ∧ (0 ≤ d4 ∧ d4 ≤ 255) ∧ (0 ≤ d5 ∧ d5 ≤ 255) ∧ (0 ≤ d6 ∧ d6 ≤ 255) ∧ (0 ≤ d7 ∧ d7 ≤ 255)

/-- what a law is told of a slice of bytes that came in -/
def InB (w : World) (a : Option Addr) (len : Nat) (zs : List Int) : Prop :=
  zs.length = len ∧ (∀ z ∈ zs, 0 ≤ z ∧ z ≤ 255) ∧ (len = 0 ∨ ∃ b off, a = some ⟨b, off, none⟩ ∧ b < w.heap.size ∧ ∀ j, j < len → w.cell? ⟨b, off + j, none⟩ = some (.int .u8 (zs[j]?.getD 0)))
theorem InB.below {w w' : World} {a : Option Addr} {len : Nat} {zs : List Int} {n : Nat} (h : InB w a len zs) (hb : Below n w w') (hn : w.heap.size ≤ n) : InB w' a len zs := by
  refine ⟨h.1, h.2.1, ?_⟩
  rcases h.2.2 with h0 | ⟨b, off, e, hl, hc⟩
  · exact .inl h0
  · exact .inr ⟨b, off, e, Nat.lt_of_lt_of_le hl hb.size, fun j hj => (hb.cell (p := ⟨b, off + j, none⟩) (Nat.lt_of_lt_of_le hl hn)).trans (hc j hj)⟩

section
variable {H : Type} {enc : TypeId × Value → H} {P : Program} {W : World}

theorem open_bytes {t e : TypeId} (ht : P.underlying t = some (.slice e)) (he : P.underlying e = some (.int .u8)) (hc : P.cellsOf e = 1) {a : Option Addr} {len cap : Nat} {d : DataW H} {p : List MemPlace}
    (h : DataW.Trod enc P W 0 (fun _ => true) true t (.slice a len cap) d p) : ∃ zs, InB W a len zs := by
  obtain ⟨fuel, hf⟩ := h
  rcases open_ints ht he hc hf with ⟨hcs, _⟩ | ⟨x, l, c, zs, hcs, _, hl, hm, hz, hx, hcell, hwz⟩
  · simp [Value.cells] at hcs
    obtain ⟨rfl, rfl, rfl⟩ := hcs
    exact ⟨[], rfl, by simp, .inl rfl⟩
  · simp [Value.cells] at hcs
    obtain ⟨rfl, rfl, rfl⟩ := hcs
    simp only [if_true] at hz
    refine ⟨zs.take len, by simp; omega, fun z hz' => by have := bounds_u8 (hwz z (List.mem_of_mem_take hz')); omega, ?_⟩
    by_cases h0 : len = 0
    · exact .inl h0
    · right
      have hc0 := hcell 0 (by omega)
      obtain ⟨b, off, spot⟩ := x
      have hspot : spot = none := by simpa [Addr.add] using World.cell?_spot hc0
      subst hspot
      have hx' : p = MemPlace.row ⟨b, off, none⟩ zs.length := (Prod.mk.inj hx).2
      have hb : b < W.heap.size := by
        by_cases hb : b < W.heap.size
        · exact hb
        · simp [World.cell?, Addr.add, Array.getElem?_eq_none (Nat.le_of_not_lt hb)] at hc0
      refine ⟨b, off, rfl, hb, fun j hj => ?_⟩
      have := hcell j (by omega)
      rw [show (⟨b, off, none⟩ : Addr).add j = ⟨b, off + j, none⟩ from by
        by_cases h : j = 0
        · subst h; simp [Addr.add]
        · simp [Addr.add, h]] at this
      rw [this]
      simp [hj]

theorem array8 {α : Type} {cs : Array α} (h : cs.size = 8) : ∃ c0 c1 c2 c3 c4 c5 c6 c7, cs = #[c0, c1, c2, c3, c4, c5, c6, c7] := by
  obtain ⟨l⟩ := cs
  simp at h
  match l, h with
  | [a, b, c, d, e, f, g, i], _ => exact ⟨a, b, c, d, e, f, g, i, rfl⟩

theorem okWide_array {r : Reach} {b0 : Nat} {t e : TypeId} {n : Nat} {v : Value} (ht : P.underlying t = some (.array n e)) (h : Value.okWide P W r b0 t v) : ∃ cs, v = .agg cs ∧ cs.size = P.cellsOf t := by
  simp only [Value.okWide, ht] at h
  obtain ⟨cs, h1, h2, _⟩ := h
  exact ⟨cs, h1, h2⟩

theorem open_oct {r : Reach} {b0 : Nat} {t e : TypeId} {v : Value} {d : DataW H} {p : List MemPlace} (ht : P.underlying t = some (.array 8 e)) (he : P.underlying e = some (.int .u8)) (hc : P.cellsOf e = 1) (hC : P.cellsOf t = 8)
    (hval : Value.okWide P W r b0 t v) (h : DataW.Trod enc P W 0 (fun _ => true) true t v d p) :
    ∃ d0 d1 d2 d3 d4 d5 d6 d7 : Int, v = .agg #[.int .u8 d0, .int .u8 d1, .int .u8 d2, .int .u8 d3, .int .u8 d4, .int .u8 d5, .int .u8 d6, .int .u8 d7] ∧ Oct d0 d1 d2 d3 d4 d5 d6 d7 := by
  obtain ⟨cs, rfl, hsz⟩ := okWide_array ht hval
  obtain ⟨c0, c1, c2, c3, c4, c5, c6, c7, rfl⟩ := array8 (hsz.trans hC)
  obtain ⟨fuel, hf⟩ := h
  obtain ⟨xs, m, _, _, _, hl, hall⟩ := DataW.trod_array ht hf
  have key : ∀ (i : Nat) (c : Value), i < 8 → ([c0, c1, c2, c3, c4, c5, c6, c7] : List Value)[i]? = some c → ∃ n, c = .int .u8 n ∧ 0 ≤ n ∧ n ≤ 255 := by
    intro i c hi hcc
    have hi' := hall i hi
    rw [hc] at hi'
    have hx : (((Value.agg #[c0, c1, c2, c3, c4, c5, c6, c7]).cells.toList.drop (i * 1)).take 1) = [c] := by
      have : (Value.agg #[c0, c1, c2, c3, c4, c5, c6, c7]).cells.toList = [c0, c1, c2, c3, c4, c5, c6, c7] := rfl
      rw [this, Nat.mul_one]
      match i, hi, hcc with
      | 0, _, h | 1, _, h | 2, _, h | 3, _, h | 4, _, h | 5, _, h | 6, _, h | 7, _, h => simp at h; subst h; rfl
    rw [hx] at hi'
    obtain ⟨y, hy⟩ : ∃ y, xs[i]? = some y := ⟨_, List.getElem?_eq_getElem (by omega)⟩
    rw [hy] at hi'
    obtain ⟨n, e0, _, wn⟩ := DataW.trod_int he hi'
    simp only [List.cons.injEq, and_true] at e0
    have := bounds_u8 wn
    exact ⟨n, e0, by omega, by omega⟩
  obtain ⟨d0, rfl, b0⟩ := key 0 c0 (by omega) rfl
  obtain ⟨d1, rfl, b1⟩ := key 1 c1 (by omega) rfl
  obtain ⟨d2, rfl, b2⟩ := key 2 c2 (by omega) rfl
  obtain ⟨d3, rfl, b3⟩ := key 3 c3 (by omega) rfl
  obtain ⟨d4, rfl, b4⟩ := key 4 c4 (by omega) rfl
  obtain ⟨d5, rfl, b5⟩ := key 5 c5 (by omega) rfl
  obtain ⟨d6, rfl, b6⟩ := key 6 c6 (by omega) rfl
  obtain ⟨d7, rfl, b7⟩ := key 7 c7 (by omega) rfl
  exact ⟨d0, d1, d2, d3, d4, d5, d6, d7, rfl, b0, b1, b2, b3, b4, b5, b6, b7⟩
end

/-- laws.toStack at whatever argument. -/
theorem toStack_any (a : Option Addr) (len cap : Nat) (zs : List Int) (w : World) (h : InB w a len zs) (hl : len ≤ 1048576) :
    Calls Tryz.prog 5 #[.slice a len cap] w fun e w' => e = .returned (.slice (some ⟨w.heap.size, 0, none⟩) len len) ∧ Below w.heap.size w w' ∧ Stk w' w.heap.size zs ∧ w.heap.size < w'.heap.size := by
  by_cases h0 : len = 0
  · have hz := h.1
    subst h0
    obtain rfl : zs = [] := List.length_eq_zero_iff.1 hz
    exact toStack_none a cap w
  · rcases h.2.2 with h0' | ⟨b, off, rfl, hb, hc⟩
    · exact absurd h0' h0
    · have := toStack_some b off len cap zs hl (by rw [h.1]; exact Nat.le_refl _) h.2.1 w hb hc
      rwa [List.take_of_length_le (by rw [h.1]; exact Nat.le_refl _)] at this

theorem tt2 {a b : Bool} (h : a = true) (k : b = true) : (a && b) = true := by rw [h, k]; rfl
end Go.Proofs.YtcanfcpofihoeaaGreatDoor

namespace Go.Proofs.YtcanfcpofihoeaaGreatDoor
open Go.RowKit Go.ChangeShapes Go.WideShapes Go.ChangeAt

def rd (js : List (Int × Int)) (j : Nat) : Int := (js[j]?.getD (0, 0)).1
def rv (js : List (Int × Int)) (j : Nat) : Int := (js[j]?.getD (0, 0)).2
/-- A slice of readings holds js from the head of block b on. -/
def Rst (w : World) (b : Nat) (js : List (Int × Int)) : Prop :=
  b < w.heap.size ∧ (∀ j, j < js.length → w.cell? ⟨b, j * 2, none⟩ = some (.int .i64 (rd js j)) ∧ w.cell? ⟨b, j * 2 + 1, none⟩ = some (.int .i64 (rv js j))) ∧ js.length ≤ 1048576
theorem Rst.below {w w' : World} {b n : Nat} {js : List (Int × Int)} (h : Rst w b js) (hb : Below n w w') (hn : b < n) : Rst w' b js :=
  ⟨Nat.lt_of_lt_of_le h.1 hb.size, fun j hj => ⟨(hb.cell (p := ⟨b, j * 2, none⟩) hn).trans (h.2.1 j hj).1, (hb.cell (p := ⟨b, j * 2 + 1, none⟩) hn).trans (h.2.1 j hj).2⟩, h.2.2⟩
/-- what a law is told of a slice of readings that came in -/
def InR (w : World) (a : Option Addr) (len : Nat) (js : List (Int × Int)) : Prop :=
  js.length = len ∧ (∀ j, j < len → (-9223372036854775808 ≤ rd js j ∧ rd js j ≤ 9223372036854775807) ∧ (-9223372036854775808 ≤ rv js j ∧ rv js j ≤ 9223372036854775807)) ∧ (len = 0 ∨ ∃ b off, a = some ⟨b, off, none⟩ ∧ b < w.heap.size ∧ ∀ j, j < len → w.cell? ⟨b, off + j * 2, none⟩ = some (.int .i64 (rd js j)) ∧ w.cell? ⟨b, off + j * 2 + 1, none⟩ = some (.int .i64 (rv js j)))
theorem InR.below {w w' : World} {a : Option Addr} {len : Nat} {js : List (Int × Int)} {n : Nat} (h : InR w a len js) (hb : Below n w w') (hn : w.heap.size ≤ n) : InR w' a len js := by
  refine ⟨h.1, h.2.1, ?_⟩
  rcases h.2.2 with h0 | ⟨b, off, e, hl, hc⟩
  · exact .inl h0
  · exact .inr ⟨b, off, e, Nat.lt_of_lt_of_le hl hb.size, fun j hj => ⟨(hb.cell (p := ⟨b, off + j * 2, none⟩) (Nat.lt_of_lt_of_le hl hn)).trans (hc j hj).1, (hb.cell (p := ⟨b, off + j * 2 + 1, none⟩) (Nat.lt_of_lt_of_le hl hn)).trans (hc j hj).2⟩⟩

theorem eqReading_same (k f : Int) (w : World) :
    Calls Tryz.prog 22 #[.agg #[.int .i64 k, .int .i64 f], .agg #[.int .i64 k, .int .i64 f]] w fun e w' => e = .returned (.bool true) ∧ Below w.heap.size w w' := by
  have h1 : (k != k) = false := by simp
  have h2 : (f != f) = false := by simp
  go_enter Tryz.func22, Tryz.ntmps22
  go_wp2
  go_ret
  exact ⟨rfl, ((Below.refl _ _).alloc (Nat.le_refl _) _).alloc (by simp) _⟩

theorem Tryz.infoReading : (Tryz.prog.info? 44).map (fun i => (i.zero, i.size, i.bytes)) = some (some (.agg #[.int .i64 0, .int .i64 0]), 2, 16) := by kernel_rfl

def rcell (js : List (Int × Int)) (i : Nat) : Value := if i % 2 = 0 then .int .i64 (rd js (i / 2)) else .int .i64 (rv js (i / 2))
def rzero (i : Nat) : Value := if i % 2 = 0 then .int .i64 0 else .int .i64 0
/-- what k rounds of a copy have made of n zero pairs -/
def rcp (js : List (Int × Int)) (n k : Nat) : List Value := (List.range (n * 2)).map fun i => if i < k * 2 then rcell js i else rzero i
theorem rcp_len (js : List (Int × Int)) (n k : Nat) : (rcp js n k).length = n * 2 := by simp [rcp]
theorem rcp_zero (js : List (Int × Int)) (n : Nat) : (madeCells (Value.agg #[.int .i64 0, .int .i64 0]).cells (n * 2)).toList = rcp js n 0 := by
  apply List.ext_getElem?
  intro i
  simp only [madeCells, rcp, rzero, Value.cells, Array.toList_map, Array.toList_range, List.getElem?_map]
  by_cases hi : i < n * 2
  · simp only [List.getElem?_range hi, Option.map_some]
    have h2 : i % 2 = 0 ∨ i % 2 = 1 := by omega
    rcases h2 with h2 | h2 <;> simp [h2]
  · simp [List.getElem?_eq_none (show (List.range (n * 2)).length ≤ i by simp; omega)]
theorem rcp_set (js : List (Int × Int)) (n k : Nat) (hk : k < n) : ((rcp js n k).set (k * 2) (.int .i64 (rd js k))).set (k * 2 + 1) (.int .i64 (rv js k)) = rcp js n (k + 1) := by
  apply List.ext_getElem?
  intro i
  simp only [rcp, List.getElem?_set, List.getElem?_map, List.length_map, List.length_range, List.length_set]
  by_cases h1 : k * 2 + 1 = i
  · subst h1
    have : (k * 2 + 1) % 2 = 1 := by omega
    have h3 : (k * 2 + 1) / 2 = k := by omega
    have h4 : k * 2 + 1 < n * 2 := by omega
    have h5 : k * 2 + 1 < (k + 1) * 2 := by omega
    simp [h4, h5, rcell, this, h3]
  · rw [if_neg h1]
    by_cases h2 : k * 2 = i
    · subst h2
      have : (k * 2) % 2 = 0 := by omega
      have h3 : (k * 2) / 2 = k := by omega
      have h4 : k * 2 < n * 2 := by omega
      have h5 : k * 2 < (k + 1) * 2 := by omega
      simp [h4, h5, rcell, this, h3]
    · rw [if_neg h2]
      by_cases hi : i < n * 2
      · simp only [List.getElem?_range hi, Option.map_some]
        by_cases h3 : i < k * 2
        · rw [if_pos h3, if_pos (by omega)]
        · rw [if_neg h3, if_neg (by omega)]
      · simp [List.getElem?_eq_none (show (List.range (n * 2)).length ≤ i by simp; omega)]
theorem rcp_get (js : List (Int × Int)) (n : Nat) (j : Nat) (hj : j < n) : (rcp js n n)[j * 2]? = some (.int .i64 (rd js j)) ∧ (rcp js n n)[j * 2 + 1]? = some (.int .i64 (rv js j)) := by
  have h0 : (j * 2) % 2 = 0 := by omega
  have h1 : (j * 2 + 1) % 2 = 1 := by omega
  have h2 : (j * 2) / 2 = j := by omega
  have h3 : (j * 2 + 1) / 2 = j := by omega
  have h4 : j * 2 < n * 2 := by omega
  have h5 : j * 2 + 1 < n * 2 := by omega
  exact ⟨by simp [rcp, rcell, h0, h2, h4], by simp [rcp, rcell, h1, h3, h5]⟩
theorem Row.of_ownsN {w : World} {base g n cap sz : Nat} {e : TypeId} {xs : List Value} (h : w.ownsRow base e sz (.slice (some ⟨g, 0, none⟩) n cap) n xs) (hn : n = cap) : Row w g e xs := by
  subst hn
  rcases h.2 with ⟨h', _⟩ | ⟨g', cap', cur, h', hb, hg, hnc, hcm, hcs, htake⟩
  · simp at h'
  · simp only [Value.slice.injEq, Option.some.injEq, Addr.mk.injEq, and_true, true_and] at h'
    obtain ⟨rfl, rfl⟩ := h'
    unfold Row
    rw [hg, ← htake, List.take_of_length_le (by simp [hcs])]
theorem rd_take (js : List (Int × Int)) (n j : Nat) (h : j < n) : rd (js.take n) j = rd js j := by simp [rd, h]
theorem rv_take (js : List (Int × Int)) (n j : Nat) (h : j < n) : rv (js.take n) j = rv js j := by simp [rv, h]

set_option maxHeartbeats 1000000 in
theorem eqReads_same (b1 b2 n c1 c2 : Nat) (js : List (Int × Int)) (w : World) (h1 : Rst w b1 js) (h2 : Rst w b2 js) (hn : n = js.length) :
    Calls Tryz.prog 7 #[.slice (some ⟨b1, 0, none⟩) n c1, .slice (some ⟨b2, 0, none⟩) n c2] w fun e w' => e = .returned (.bool true) ∧ Below w.heap.size w w' := by
  have hl := h1.2.2
  have hC1 := hid h1.2.1
  have hC2 := hid h2.2.1
  have hb1 := h1.1
  have hb2 := h2.1
  have hN := hid hn
  rw [← hn] at hl
  clear h1 h2 hn
  have hne : ((n : Int) != (n : Int)) = false := by simp
  go_enter Tryz.func7, Tryz.ntmps7
  go_wp2
  go_loopw [5] (fun i wr => ∃ k : Nat, k ≤ n ∧ i = .int .i64 k ∧ Below w.heap.size w wr) (fun i _ => n - (intOf i).toNat)
  case atStart => exact ⟨0, Nat.zero_le _, rfl, Below.refl _ _⟩
  case round =>
    obtain ⟨k, hk, rfl, hB⟩ := hrel
    by_cases hlt : k < n
    · have x1 := (hB.cell (p := ⟨b1, k * 2, none⟩) hb1).trans (hC1.out k (by rw [← hN.out]; exact hlt)).1
      have x2 := (hB.cell (p := ⟨b1, k * 2 + 1, none⟩) hb1).trans (hC1.out k (by rw [← hN.out]; exact hlt)).2
      have y1 := (hB.cell (p := ⟨b2, k * 2, none⟩) hb2).trans (hC2.out k (by rw [← hN.out]; exact hlt)).1
      have y2 := (hB.cell (p := ⟨b2, k * 2 + 1, none⟩) hb2).trans (hC2.out k (by rw [← hN.out]; exact hlt)).2
      have hlt' : (k : Int) < (n : Int) := by omega
      have hk0 : (0 : Int) ≤ (k : Int) := by omega
      have hzr := hB.size
      obtain ⟨x, hx⟩ : ∃ x, x = rd js k := ⟨_, rfl⟩
      obtain ⟨y, hy⟩ : ∃ y, y = rv js k := ⟨_, rfl⟩
      rw [← hx] at x1 y1
      rw [← hy] at x2 y2
      clear hx hy
      go_wp2_with fail
      go_region_held3 (fun w' => w'.cell? ⟨b1, k * 2, none⟩ = some (.int .i64 x) ∧ w'.cell? ⟨b1, k * 2 + 1, none⟩ = some (.int .i64 y) ∧ w'.cell? ⟨b2, k * 2, none⟩ = some (.int .i64 x) ∧ w'.cell? ⟨b2, k * 2 + 1, none⟩ = some (.int .i64 y)) (first | exact hq | exact ⟨x1, x2, y1, y2⟩) ((go_at_call 22; have hX := eqReading_same x y wr.drew; refine hX.mono ?_; clear hX; rintro e w1 ⟨rfl, hB1⟩; have hq := And.intro ((hB1.cell (p := ⟨b1, k * 2, none⟩) (Nat.lt_of_lt_of_le hb1 hzr)).trans x1) (And.intro ((hB1.cell (p := ⟨b1, k * 2 + 1, none⟩) (Nat.lt_of_lt_of_le hb1 hzr)).trans x2) (And.intro ((hB1.cell (p := ⟨b2, k * 2, none⟩) (Nat.lt_of_lt_of_le hb2 hzr)).trans y1) ((hB1.cell (p := ⟨b2, k * 2 + 1, none⟩) (Nat.lt_of_lt_of_le hb2 hzr)).trans y2)))))
      go_wp2_with fail
      all_goals go_roundw
      case rel => exact ⟨k + 1, by omega, by go_num, hB.trans ((Below.refl wr.heap.size wr).drew.mono hzr |>.trans (hB1.mono hzr))⟩
      case measure => simp [intOf]; omega
    · obtain rfl : k = n := by omega
      go_wp2_with fail
      go_ret
      exact ⟨rfl, hB⟩

theorem cell_apart {W : World} {a p : Addr} {u : Value} (h : p.block ≠ a.block) : (W.setCell a u).cell? p = W.cell? p := World.cell?_of_block (Below.heap_setCell W a u p.block h)
section
variable {H : Type} {enc : TypeId × Value → H} {P : Program} {W : World}
theorem list_of {α : Type} (d : α) (Q : Nat → α → Prop) : ∀ (n : Nat), (∀ i, i < n → ∃ x, Q i x) → ∃ l : List α, l.length = n ∧ ∀ i, i < n → Q i (l[i]?.getD d)
  | 0, _ => ⟨[], rfl, fun i h => by omega⟩
  | n + 1, h => by
    obtain ⟨l, hl, hq⟩ := list_of d Q n (fun i hi => h i (by omega))
    obtain ⟨x, hx⟩ := h n (by omega)
    refine ⟨l ++ [x], by simp [hl], fun i hi => ?_⟩
    by_cases e : i = n
    · subst e
      simpa [← hl] using hx
    · have := hq i (by omega)
      rwa [List.getElem?_append_left (by omega)]
theorem open_readsV {t e : TypeId} {f0 f1 : Field} (ht : P.underlying t = some (.slice e)) (he : P.underlying e = some (.struct #[f0, f1])) (h0 : P.underlying f0.type = some (.int .i64)) (h1 : P.underlying f1.type = some (.int .i64))
    (hone : Go.Deep.oneCellFields P #[f0, f1] = true) (hC : P.cellsOf e = 2) {n : Nat} {v : Value} {y : DataW H × List MemPlace}
    (h : DataW.trod enc P W 0 (fun _ => true) true n t [v] = some y) : ∃ a len cap js, v = .slice a len cap ∧ len ≤ 9223372036854775807 ∧ InR W a len js := by
  rcases Go.Deep.open_slice ht h with ⟨hcs, _⟩ | ⟨x, l, c, m, n', D, Pl, hcs, _, hl, hm, hmm, _, hi⟩
  · obtain rfl : v = .slice none 0 0 := by simpa using hcs
    exact ⟨_, _, _, [], rfl, by omega, rfl, fun j hj => by omega, .inl rfl⟩
  · obtain rfl : v = .slice (some x) l c := by simpa using hcs
    have each : ∀ i, i < l → ∃ p : Int × Int, ((-9223372036854775808 ≤ p.1 ∧ p.1 ≤ 9223372036854775807) ∧ (-9223372036854775808 ≤ p.2 ∧ p.2 ≤ 9223372036854775807)) ∧ W.cell? (x.add (i * 2)) = some (.int .i64 p.1) ∧ W.cell? (x.add (i * 2 + 1)) = some (.int .i64 p.2) := fun i hil => by
      obtain ⟨cs', hc, ht'⟩ := hi i (by rw [hmm]; split <;> omega)
      rw [hC] at hc
      obtain ⟨_, hcl, hat⟩ := World.cells?_some hc
      obtain ⟨xs, n2, _, _, _, hxl, hf⟩ := DataW.trod_struct he ht'
      obtain ⟨o0, k0⟩ := Go.Deep.hone_of hone 0 f0 rfl
      obtain ⟨o1, k1⟩ := Go.Deep.hone_of hone 1 f1 rfl
      match cs', hcl with
      | [u0, u1], _ =>
        have g0 := hf 0 f0 rfl
        have g1 := hf 1 f1 rfl
        rw [o0, k0] at g0
        rw [o1, k1] at g1
        have x0 : xs[0]? = some (xs[0]'(by rw [hxl]; show _ < 2; omega)) := List.getElem?_eq_getElem _
        have x1 : xs[1]? = some (xs[1]'(by rw [hxl]; show _ < 2; omega)) := List.getElem?_eq_getElem _
        rw [x0] at g0
        rw [x1] at g1
        obtain ⟨z0, e0, _, w0⟩ := DataW.trod_int h0 g0
        obtain ⟨z1, e1, _, w1⟩ := DataW.trod_int h1 g1
        simp at e0 e1
        have a0 := hat 0 (by omega)
        have a1 := hat 1 (by omega)
        have b0 := bounds_i64 w0
        have b1 := bounds_i64 w1
        refine ⟨(z0, z1), ⟨b0, b1⟩, ?_, ?_⟩
        · have : x.add (i * 2) = (x.add (i * 2)).add 0 := by simp [Addr.add]
          rw [this, a0]; simp [e0]
        · have : x.add (i * 2 + 1) = (x.add (i * 2)).add 1 := by rw [Go.Deep.add_add]
          rw [this, a1]; simp [e1]
    obtain ⟨js, hjl, hj⟩ := list_of ((0 : Int), (0 : Int)) _ l each
    refine ⟨_, _, _, js, rfl, by unfold maxLen at hm; omega, hjl, fun j hjl' => (hj j hjl').1, ?_⟩
    by_cases hl0 : l = 0
    · exact .inl hl0
    · right
      have c0 := (hj 0 (by omega)).2.1
      obtain ⟨b, off, spot⟩ := x
      have hspot : spot = none := by simpa [Addr.add] using World.cell?_spot c0
      subst hspot
      have hb : b < W.heap.size := by
        by_cases hb : b < W.heap.size
        · exact hb
        · simp [World.cell?, Addr.add, Array.getElem?_eq_none (Nat.le_of_not_lt hb)] at c0
      have ad : ∀ k, (⟨b, off, none⟩ : Addr).add k = ⟨b, off + k, none⟩ := fun k => by
        by_cases h : k = 0
        · subst h; simp [Addr.add]
        · simp [Addr.add, h]
      refine ⟨b, off, rfl, hb, fun j hjl' => ?_⟩
      have := (hj j hjl').2
      rw [ad, ad] at this
      exact ⟨this.1, by rw [← Nat.add_assoc] at this; exact this.2⟩
theorem open_reads {t e : TypeId} {f0 f1 : Field} (ht : P.underlying t = some (.slice e)) (he : P.underlying e = some (.struct #[f0, f1])) (h0 : P.underlying f0.type = some (.int .i64)) (h1 : P.underlying f1.type = some (.int .i64))
    (hone : Go.Deep.oneCellFields P #[f0, f1] = true) (hC : P.cellsOf e = 2) {a : Option Addr} {len cap : Nat} {d : DataW H} {p : List MemPlace}
    (h : DataW.Trod enc P W 0 (fun _ => true) true t (.slice a len cap) d p) : ∃ js, len ≤ 9223372036854775807 ∧ InR W a len js := by
  obtain ⟨fuel, hf⟩ := h
  obtain ⟨a', len', cap', js, e1, hl, hj⟩ := open_readsV (v := .slice a len cap) ht he h0 h1 hone hC hf
  simp only [Value.slice.injEq] at e1
  obtain ⟨rfl, rfl, rfl⟩ := e1
  exact ⟨js, hl, hj⟩
end
end Go.Proofs.YtcanfcpofihoeaaGreatDoor

namespace Go.Proofs.YtcanfcpofihoeaaGreatDoor
open Go

section
variable {F : Fence} {n : Nat} {P : Program} {ops : Array Oper} {Q : Exit → Act → World → Prop} {md : Region.Mode} {S : World → Prop}

/-- no operation of the region is a defer statement -/
def NoDefer (ops : Array Oper) : Prop := ∀ (j : Nat) (o : Oper), ops[j]? = some o → ∀ c, o.op ≠ .defer c

/-- in every world that meets S the operation yields v, changes nothing, and is about to make no call -/
structure Gives (P : Program) (ops : Array Oper) (S : World → Prop) (o : Oper) (v : Value) (a : Act) : Prop where
  wanted : Region.wanted o (yielded ops a.tmps) = true
  run : ∀ w, S w → (execOp a.eval o).run P w = .ok (.value v) w
  calm : ∀ w, o.about P w a.eval = none

theorem Gives.now {i : Nat} {o : Oper} {v : Value} {a : Act} {K : Act → World → Prop} {w : World} (hd : NoDefer ops) (hi : ops[i]? = some o) (hy : Gives P ops S o v a) (hS : S w) (h : K (a.put o.dst v) w) :
    wpOpIn F n P ops Q i K a w := by
  unfold wpOpIn
  simp only [hi, hy.wanted, if_true]
  unfold Oper.wpIn
  refine ⟨fun f hf => (by rw [hy.calm w] at hf; cases hf), ?_⟩
  rw [Oper.semAt_eq _ _ _ (hd i o hi), hy.run w hS]
  exact h

theorem Gives.same {o : Oper} {v : Value} {a a' : Act} (hy : Gives P ops S o v a) (he : execOp a'.eval o = execOp a.eval o)
    (hw : Region.wanted o (yielded ops a'.tmps) = Region.wanted o (yielded ops a.tmps)) (hb : ∀ w, o.about P w a'.eval = o.about P w a.eval) : Gives P ops S o v a' :=
  ⟨hw.trans hy.wanted, fun w hw' => by rw [he]; exact hy.run w hw', fun w => (hb w).trans (hy.calm w)⟩

/-- an operation that does not touch what the first one reads and writes does the same behind it -/
theorem Gives.past {j : Nat} {oi oj : Oper} {v : Value} (hd : NoDefer ops) (hj : ops[j]? = some oj) (hap : oi.apart ops oj = true)
    (hsi : ∀ cs b, oi.op ≠ .select cs b) (hsj : ∀ cs b, oj.op ≠ .select cs b) (hQ : ∀ c a w, Q (.panic c) (a.put oi.dst v) w → Q (.panic c) a w)
    {K : Act → World → Prop} {a : Act} {w : World} (hy : Gives P ops S oi v a) (h : wpOpIn F n P ops Q j K (a.put oi.dst v) w) :
    wpOpIn F n P ops Q j (fun a' w' => Gives P ops S oi v a' ∧ K (a'.put oi.dst v) w') a w := by
  obtain ⟨h1, h2, h3⟩ := Oper.apart_spec hap
  have keep : ∀ (a : Act), Gives P ops S oi v a → ∀ u, Gives P ops S oi v (a.put oj.dst u) := fun a hy u =>
    hy.same (execOp_put oi hsi a oj.dst u h3) (wanted_put oi a oj.dst u h3) (fun w => about_put oi w a oj.dst u h3)
  have keepD : ∀ d, Gives P ops S oi v { a with defers := d :: a.defers } := fun d => hy.same rfl rfl (fun _ => rfl)
  have hdj := hd j oj hj
  unfold wpOpIn at *
  simp only [hj] at *
  rw [wanted_put oj a oi.dst v h1, about_put oj w a oi.dst v h1] at h
  by_cases hw : Region.wanted oj (yielded ops a.tmps) = true
  · simp only [hw, if_true] at h ⊢
    unfold Oper.wpIn at *
    rw [about_put oj w a oi.dst v h1] at h
    refine ⟨h.1, ?_⟩
    have h := h.2
    rw [Oper.semAt_eq _ _ _ hdj, execOp_put oj hsj a oi.dst v h1] at h
    rw [Oper.semAt_eq _ _ _ hdj]
    revert h
    cases (execOp a.eval oj).run P w with
    | ok x w' =>
      intro h
      cases x with
      | value u => exact ⟨keep a hy u, by rw [← Act.put_comm a v u h2]; exact h⟩
      | skip => exact ⟨keep a hy _, by rw [← Act.put_comm a v undef h2]; exact h⟩
      | defer d =>
        refine ⟨keep _ (keepD d) _, ?_⟩
        rw [← Act.put_comm _ v undef h2, ← Act.put_defers]
        exact h
      | enter f args =>
        refine ⟨h.1, CallsIn.mono h.2 fun e w'' he => ?_⟩
        cases e with
        | returned u => exact ⟨keep a hy u, by rw [← Act.put_comm a v u h2]; exact he⟩
        | panicked c => exact hQ _ _ _ he
        | outgrown => exact he
      | row row args => exact ⟨h.1, RowsIn.mono h.2 fun u w'' he => ⟨keep a hy u, by rw [← Act.put_comm a v u h2]; exact he⟩⟩
      | round l f tmps assign body =>
        refine ⟨h.1, RoundIn.mono h.2 fun e w'' he => ?_⟩
        cases e with
        | returned u => exact ⟨keep a hy u, by rw [← Act.put_comm a v u h2]; exact he⟩
        | panicked c => exact hQ _ _ _ he
        | outgrown => exact he
      | _ => exact h
    | halt x w' =>
      intro h
      cases x with
      | panic u => exact hQ _ _ _ h
      | _ => exact h
  · simp only [hw] at h ⊢
    exact ⟨h.1, keep a hy _, by rw [← Act.put_comm a v undef h2]; exact h.2⟩

/-- whichever order is picked, S holding behind every operation that is carried out -/
def anyS (F : Fence) (n : Nat) (P : Program) (md : Region.Mode) (ops : Array Oper) (Q : Exit → Act → World → Prop) (S : World → Prop) : Nat → Array Bool → Act → World → Prop
  | 0, listed, a, w => Region.ready md ops listed = [] ∧ Q .normal a w
  | fuel + 1, listed, a, w => (Region.ready md ops listed = [] → Q .normal a w) ∧
    ∀ i ∈ Region.ready md ops listed, wpOpIn F n P ops Q i (fun a' w' => S w' ∧ anyS F n P md ops Q S fuel (listed.setIfInBounds i true) a' w') a w
theorem anyS_any : ∀ (fuel : Nat) (listed : Array Bool) (a : Act) (w : World), anyS F n P md ops Q S fuel listed a w → wpAnyIn F n P md ops Q fuel listed a w
  | 0, _, _, _, h => h
  | fuel + 1, _, _, _, h => ⟨h.1, fun i hi => wpOpIn_mono (fun a' w' h' => anyS_any fuel _ a' w' h'.2) (h.2 i hi)⟩

theorem anyS_first {i : Nat} {oi : Oper} {v : Value} (hd : NoDefer ops) (hi : ops[i]? = some oi) (hsel : ∀ (j : Nat) (o : Oper) cs b, ops[j]? = some o → o.op ≠ .select cs b)
    (hQ : ∀ c a w, Q (.panic c) (a.put oi.dst v) w → Q (.panic c) a w) : ∀ (fuel : Nat) (listed : Array Bool) (a : Act) (w : World),
      (∀ j oj, ops[j]? = some oj → j ≠ i → listed.getD j true = false → (∀ e ∈ oj.after, Region.binds md e = true → e.on ≠ i) → oi.apart ops oj = true) →
      i ∈ Region.ready md ops listed → Gives P ops S oi v a → S w → anyS F n P md ops Q S fuel (listed.setIfInBounds i true) (a.put oi.dst v) w → anyS F n P md ops Q S (fuel + 1) listed a w
  | 0, listed, a, w, _, hr, hy, hS, H => by
    refine ⟨fun h => (by rw [h] at hr; cases hr), fun j hj => ?_⟩
    by_cases hji : j = i
    · subst hji; exact hy.now hd hi hS ⟨hS, H⟩
    · have := ready_mono hj hji
      rw [H.1] at this
      cases this
  | fuel + 1, listed, a, w, hfree, hr, hy, hS, H => by
    refine ⟨fun h => (by rw [h] at hr; cases hr), fun j hj => ?_⟩
    by_cases hji : j = i
    · subst hji; exact hy.now hd hi hS ⟨hS, H⟩
    · obtain ⟨hjun, oj, hoj, hall⟩ := mem_ready.1 hj
      have hnot : ∀ e ∈ oj.after, Region.binds md e = true → e.on ≠ i := fun e he hb heq => by
        have q1 := hall e he hb
        have q0 := (mem_ready.1 hr).1
        rw [heq] at q1
        rcases Nat.lt_or_ge i listed.size with h' | h'
        · simp [h'] at q0 q1; rw [q0] at q1; cases q1
        · simp [Array.getElem?_eq_none h'] at q1
      have h2 := hy.past hd hoj (hfree j oj hoj hji hjun hnot) (fun cs b => hsel i oi cs b hi) (fun cs b => hsel j oj cs b hoj) hQ (H.2 j (ready_mono hj hji))
      refine wpOpIn_mono (fun a' w' h3 => ⟨h3.2.1, anyS_first hd hi hsel hQ fuel (listed.setIfInBounds j true) a' w' (fun k ok hk hki hun hno => ?_) (ready_mono hr (Ne.symm hji)) h3.1 h3.2.1 ?_⟩) h2
      · refine hfree k ok hk hki ?_ hno
        by_cases hjk : j = k
        · subst hjk; exact hjun
        · rw [getD_set_ne true hjk] at hun; exact hun
      · rw [Array.setIfInBounds_comm _ _ hji]
        exact h3.2.2

theorem anyS_take {i : Nat} {oi : Oper} {v : Value} {fuel : Nat} {listed : Array Bool} {a : Act} {w : World} (hd : NoDefer ops) (hi : ops[i]? = some oi)
    (hs : Region.noSelect ops = true) (hf : Region.free md ops listed i = true) (hr : (Region.ready md ops listed).contains i = true) (hQ : ∀ c a w, Q (.panic c) (a.put oi.dst v) w → Q (.panic c) a w)
    (hy : Gives P ops S oi v a) (hS : S w) (h : anyS F n P md ops Q S fuel (listed.setIfInBounds i true) (a.put oi.dst v) w) : anyS F n P md ops Q S (fuel + 1) listed a w :=
  anyS_first hd hi (Region.noSelect_spec hs) hQ fuel listed a w (Region.free_spec hi hf) (by simpa using hr) hy hS h
theorem anyS_takeD {i : Nat} (d : Option Nat) {oi : Oper} {v : Value} {fuel : Nat} {listed : Array Bool} {a : Act} {w : World} (hd : NoDefer ops) (hi : ops[i]? = some oi) (hdst : oi.dst = d)
    (hs : Region.noSelect ops = true) (hf : Region.free md ops listed i = true) (hr : (Region.ready md ops listed).contains i = true) (hQ : ∀ c a w, Q (.panic c) (a.put d v) w → Q (.panic c) a w)
    (hy : Gives P ops S oi v a) (hS : S w) (h : anyS F n P md ops Q S fuel (listed.setIfInBounds i true) (a.put d v) w) : anyS F n P md ops Q S (fuel + 1) listed a w := by
  subst hdst; exact anyS_take hd hi hs hf hr hQ hy hS h
/-- one operation alone may come up: a store, say -/
theorem anyS_one {i : Nat} {o : Oper} {fuel : Nat} {listed : Array Bool} {a : Act} {w w' : World} (hd : NoDefer ops) (hr : Region.ready md ops listed = [i]) (hi : ops[i]? = some o)
    (hw : Region.wanted o (yielded ops a.tmps) = true) (hc : o.about P w a.eval = none) (hrun : (execOp a.eval o).run P w = .ok .skip w') (hS : S w')
    (h : anyS F n P md ops Q S fuel (listed.setIfInBounds i true) (a.put o.dst undef) w') : anyS F n P md ops Q S (fuel + 1) listed a w :=
  ⟨fun h0 => (by rw [hr] at h0; cases h0), fun j hj => by
    rw [hr] at hj
    obtain rfl : j = i := by simpa using hj
    unfold wpOpIn
    simp only [hi, hw, if_true]
    unfold Oper.wpIn
    refine ⟨fun f hf => (by rw [hc] at hf; cases hf), ?_⟩
    rw [Oper.semAt_eq _ _ _ (hd j o hi), hrun]
    exact ⟨hS, h⟩⟩
theorem anyS_oneD {i : Nat} (d : Option Nat) {o : Oper} {fuel : Nat} {listed : Array Bool} {a : Act} {w w' : World} (hd : NoDefer ops) (hr : Region.ready md ops listed = [i]) (hi : ops[i]? = some o) (hdst : o.dst = d)
    (hw : Region.wanted o (yielded ops a.tmps) = true) (hc : o.about P w a.eval = none) (hrun : (execOp a.eval o).run P w = .ok .skip w') (hS : S w')
    (h : anyS F n P md ops Q S fuel (listed.setIfInBounds i true) (a.put d undef) w') : anyS F n P md ops Q S (fuel + 1) listed a w := by
  subst hdst; exact anyS_one hd hr hi hw hc hrun hS h
theorem anyS_done {listed : Array Bool} {a : Act} {w : World} (hr : Region.ready md ops listed = []) (h : Q .normal a w) : ∀ fuel, anyS F n P md ops Q S fuel listed a w
  | 0 => ⟨hr, h⟩
  | _ + 1 => ⟨fun _ => h, by rw [hr]; simp⟩
def noDeferB (ops : Array Oper) : Bool := ops.toList.all fun o => match o.op with | .defer _ => false | _ => true
theorem noDefer_of (h : noDeferB ops = true) : NoDefer ops := fun j o hj c he => by
  have := (List.all_eq_true.1 h) o (List.mem_of_getElem? (i := j) (by simpa using hj))
  rw [he] at this
  cases this
theorem region_held {id : Nat} {a : Act} {w : World} (hm : P.follows .mixedOrders = true) (hd : noDeferB ops = true) (h : NoDefer ops → anyS F n P .any ops Q S ops.size (Array.replicate ops.size false) a w.drew) : (Code.region id ops true).wpIn F n P Q a w :=
  wpIn_region_any hm (anyS_any _ _ _ _ (h (noDefer_of hd)))
end
end Go.Proofs.YtcanfcpofihoeaaGreatDoor

namespace Go.Proofs.YtcanfcpofihoeaaGreatDoor
open Go

section
variable {F : Fence} {n : Nat} {P : Program} {ops : Array Oper} {Q : Exit → Act → World → Prop} {md : Region.Mode} {S : World → Prop} {c : Nat}

/-- whichever order is picked, S holding behind every operation but the call -/
def anyC (F : Fence) (n : Nat) (P : Program) (md : Region.Mode) (ops : Array Oper) (Q : Exit → Act → World → Prop) (S : World → Prop) (c : Nat) : Nat → Array Bool → Act → World → Prop
  | 0, listed, a, w => Region.ready md ops listed = [] ∧ Q .normal a w
  | fuel + 1, listed, a, w => (Region.ready md ops listed = [] → Q .normal a w) ∧
    ∀ j ∈ Region.ready md ops listed, wpOpIn F n P ops Q j (fun a' w' => (j ≠ c → S w' ∧ anyC F n P md ops Q S c fuel (listed.setIfInBounds j true) a' w') ∧ (j = c → wpAnyIn F n P md ops Q fuel (listed.setIfInBounds j true) a' w')) a w
theorem anyC_any : ∀ (fuel : Nat) (listed : Array Bool) (a : Act) (w : World), anyC F n P md ops Q S c fuel listed a w → wpAnyIn F n P md ops Q fuel listed a w
  | 0, _, _, _, h => h
  | fuel + 1, _, _, _, h => ⟨h.1, fun i hi => wpOpIn_mono (fun a' w' h' => by
      by_cases e : i = c
      · exact h'.2 e
      · exact anyC_any fuel _ a' w' (h'.1 e).2) (h.2 i hi)⟩
/-- q waits for p -/
def waits (md : Region.Mode) (ops : Array Oper) (p q : Nat) : Bool := match ops[q]? with | some o => o.after.any (fun e => Region.binds md e && e.on == p) | none => false
def chain (md : Region.Mode) (ops : Array Oper) : Nat → List Nat → Bool
  | _, [] => true
  | p, q :: L => waits md ops p q && chain md ops q L
theorem waits_no {p q : Nat} {listed : Array Bool} (h : waits md ops p q = true) (hu : listed.getD p true = false) : q ∉ Region.ready md ops listed := fun hq => by
  obtain ⟨_, o, ho, hall⟩ := mem_ready.1 hq
  unfold waits at h
  rw [ho] at h
  dsimp only at h
  rw [← Array.any_toList, List.any_eq_true] at h
  obtain ⟨e, he', hb⟩ := h
  have he : e ∈ o.after := by simpa using he'
  simp only [Bool.and_eq_true, beq_iff_eq] at hb
  have q1 := hall e he hb.1
  rw [hb.2] at q1
  rcases Nat.lt_or_ge p listed.size with h' | h'
  · simp [h'] at hu q1; rw [hu] at q1; cases q1
  · simp [Array.getElem?_eq_none h'] at q1
theorem chain_no {listed : Array Bool} : ∀ (L : List Nat) (p : Nat), chain md ops p L = true → listed.getD p true = false → (∀ q ∈ L, listed.getD q true = false) → ∀ q ∈ L, q ∉ Region.ready md ops listed
  | [], _, _, _, _, q, hq => by cases hq
  | r :: L, p, h, hp, hu, q, hq => by
    simp only [chain, Bool.and_eq_true] at h
    rcases List.mem_cons.1 hq with rfl | hq
    · exact waits_no h.1 hp
    · exact chain_no L r h.2 (hu r (by simp)) (fun x hx => hu x (List.mem_cons_of_mem _ hx)) q hq

theorem anyC_first {i : Nat} {oi : Oper} {v : Value} {L : List Nat} (hc : c ∈ L) (hch : chain md ops i L = true) (hic : i ≠ c) (hd : NoDefer ops) (hi : ops[i]? = some oi) (hsel : ∀ (j : Nat) (o : Oper) cs b, ops[j]? = some o → o.op ≠ .select cs b)
    (hQ : ∀ c a w, Q (.panic c) (a.put oi.dst v) w → Q (.panic c) a w) : ∀ (fuel : Nat) (listed : Array Bool) (a : Act) (w : World), (∀ q ∈ L, listed.getD q true = false) →
      (∀ j oj, ops[j]? = some oj → j ≠ i → listed.getD j true = false → (∀ e ∈ oj.after, Region.binds md e = true → e.on ≠ i) → oi.apart ops oj = true) →
      i ∈ Region.ready md ops listed → Gives P ops S oi v a → S w → anyC F n P md ops Q S c fuel (listed.setIfInBounds i true) (a.put oi.dst v) w → anyC F n P md ops Q S c (fuel + 1) listed a w
  | 0, listed, a, w, _, _, hr, hy, hS, H => by
    refine ⟨fun h => (by rw [h] at hr; cases hr), fun j hj => ?_⟩
    by_cases hji : j = i
    · subst hji; exact hy.now hd hi hS ⟨fun _ => ⟨hS, H⟩, fun e => absurd e hic⟩
    · have := ready_mono hj hji
      rw [H.1] at this
      cases this
  | fuel + 1, listed, a, w, hun0, hfree, hr, hy, hS, H => by
    refine ⟨fun h => (by rw [h] at hr; cases hr), fun j hj => ?_⟩
    by_cases hji : j = i
    · subst hji; exact hy.now hd hi hS ⟨fun _ => ⟨hS, H⟩, fun e => absurd e hic⟩
    · have hnL : ∀ q ∈ L, q ≠ j := fun q hq e => chain_no L i hch (mem_ready.1 hr).1 hun0 q hq (by rw [e]; exact hj)
      have hjc : j ≠ c := fun e => hnL c hc e.symm
      obtain ⟨hjun, oj, hoj, hall⟩ := mem_ready.1 hj
      have hnot : ∀ e ∈ oj.after, Region.binds md e = true → e.on ≠ i := fun e he hb heq => by
        have q1 := hall e he hb
        have q0 := (mem_ready.1 hr).1
        rw [heq] at q1
        rcases Nat.lt_or_ge i listed.size with h' | h'
        · simp [h'] at q0 q1; rw [q0] at q1; cases q1
        · simp [Array.getElem?_eq_none h'] at q1
      have h2 := hy.past hd hoj (hfree j oj hoj hji hjun hnot) (fun cs b => hsel i oi cs b hi) (fun cs b => hsel j oj cs b hoj) hQ (H.2 j (ready_mono hj hji))
      refine wpOpIn_mono (fun a' w' h3 => ⟨fun _ => ⟨(h3.2.1 hjc).1, anyC_first hc hch hic hd hi hsel hQ fuel (listed.setIfInBounds j true) a' w' (fun q hq => ?_) (fun k ok hk hki hun hno => ?_) (ready_mono hr (Ne.symm hji)) h3.1 (h3.2.1 hjc).1 ?_⟩, fun e => absurd e hjc⟩) h2
      · rw [getD_set_ne true (fun e => hnL q hq e.symm)]; exact hun0 q hq
      · refine hfree k ok hk hki ?_ hno
        by_cases hjk : j = k
        · subst hjk; exact hjun
        · rw [getD_set_ne true hjk] at hun; exact hun
      · rw [Array.setIfInBounds_comm _ _ hji]
        exact (h3.2.1 hjc).2
def unlB (listed : Array Bool) (L : List Nat) : Bool := L.all fun q => listed.getD q true == false
theorem unl_of {listed : Array Bool} {L : List Nat} (h : unlB listed L = true) : ∀ q ∈ L, listed.getD q true = false := fun q hq => by
  have := (List.all_eq_true.1 h) q hq
  simpa using this
/-- operation i, which leads to the call by the chain L, is taken first -/
theorem anyC_takeD {i : Nat} (L : List Nat) (d : Option Nat) {oi : Oper} {v : Value} {fuel : Nat} {listed : Array Bool} {a : Act} {w : World} (hc : (L.contains c && chain md ops i L && !(i == c) && unlB listed L) = true) (hd : NoDefer ops) (hi : ops[i]? = some oi) (hdst : oi.dst = d)
    (hs : Region.noSelect ops = true) (hf : Region.free md ops listed i = true) (hr : (Region.ready md ops listed).contains i = true) (hQ : ∀ c a w, Q (.panic c) (a.put d v) w → Q (.panic c) a w)
    (hy : Gives P ops S oi v a) (hS : S w) (h : anyC F n P md ops Q S c fuel (listed.setIfInBounds i true) (a.put d v) w) : anyC F n P md ops Q S c (fuel + 1) listed a w := by
  subst hdst
  simp only [Bool.and_eq_true, Bool.not_eq_true', beq_eq_false_iff_ne, ne_eq] at hc
  exact anyC_first (by simpa using hc.1.1.1) hc.1.1.2 hc.1.2 hd hi (Region.noSelect_spec hs) hQ fuel listed a w (unl_of hc.2) (Region.free_spec hi hf) (by simpa using hr) hy hS h
/-- the call, when it alone may come up -/
theorem anyC_call {o : Oper} {fuel : Nat} {listed : Array Bool} {a : Act} {w : World} (hr : Region.ready md ops listed = [c]) (ho : ops[c]? = some o) (hw : Region.wanted o (yielded ops a.tmps) = true)
    (h : ∀ K : Act → World → Prop, (∀ a w, wpAnyIn F n P md ops Q fuel (listed.setIfInBounds c true) a w → K a w) → Oper.wpIn F n P o a w K Q) : anyC F n P md ops Q S c (fuel + 1) listed a w :=
  ⟨fun h0 => (by rw [hr] at h0; cases h0), fun j hj => by
    rw [hr] at hj
    obtain rfl : j = c := by simpa using hj
    unfold wpOpIn
    simp only [ho, hw, if_true]
    exact h _ (fun a w hk => ⟨fun e => absurd rfl e, fun _ => hk⟩)⟩
theorem region_call (c : Nat) {id : Nat} {a : Act} {w : World} (hm : P.follows .mixedOrders = true) (hd : noDeferB ops = true) (h : NoDefer ops → anyC F n P .any ops Q S c ops.size (Array.replicate ops.size false) a w.drew) : (Code.region id ops true).wpIn F n P Q a w :=
  wpIn_region_any hm (anyC_any _ _ _ _ (h (noDefer_of hd)))
end
end Go.Proofs.YtcanfcpofihoeaaGreatDoor

namespace Go.Proofs.YtcanfcpofihoeaaGreatDoor
open Go.RowKit Go.Shelf
set_option linter.unusedSimpArgs false
set_option linter.unusedVariables false
/-- the blocks of a set stay as they are -/
def KeepB (S : Nat → Prop) (A B : World) : Prop := ∀ g, S g → B.heap[g]? = A.heap[g]?
theorem KeepB.refl (S : Nat → Prop) (A : World) : KeepB S A A := fun _ _ => rfl
theorem KeepB.trans {S : Nat → Prop} {A B C : World} (h : KeepB S A B) (k : KeepB S B C) : KeepB S A C := fun g hg => (k g hg).trans (h g hg)
theorem KeepB.cell {S : Nat → Prop} {A B : World} (h : KeepB S A B) {g : Nat} (hg : S g) (j : Nat) : B.cell? ⟨g, j, none⟩ = A.cell? ⟨g, j, none⟩ := World.cell?_of_block (h g hg)
theorem KeepB.of_below {S : Nat → Prop} {A B : World} {n : Nat} (h : Below n A B) (hS : ∀ g, S g → g < n) : KeepB S A B := fun g hg => h.block g (hS g hg)
theorem keepB_b {S : Nat → Prop} {w : World} (hS : ∀ g, S g → g < w.heap.size) (W : World) (l : Nat) (o o' : Obj) (hl : w.heap.size ≤ l) (_ : W.heap[l]? = some o) (_ : o.isCells = false) (_ : o.isWalk = false) : KeepB S W (W.putObj l o') :=
  fun g hg => World.putObj_heap_other (fun e => by have := hS g hg; omega)
theorem row_kept {W W' : World} {row : Option Nat} {g : Nat} {e : TypeId} {xs : List Value} (h : Row W g e xs) (hg : W.grownBy W' row) (hr : ∀ r, row = some r → ∃ o : Obj, W.heap[r]? = some o ∧ o.isCells = false) : Row W' g e xs := by
  have hne : row ≠ some g := fun e' => by
    obtain ⟨o, ho, hc⟩ := hr g e'
    rw [h] at ho
    cases ho
    simp [Obj.isCells] at hc
  exact (hg.5 g h.lt (fun e => hne e.symm)).trans h
theorem owns_kept {W W' : World} {row : Option Nat} {base size n : Nat} {e : TypeId} {v : Value} {xs : List Value} (h : W.ownsRow base e size v n xs) (hg : W.grownBy W' row) (hr : ∀ r, row = some r → ∃ o : Obj, W.heap[r]? = some o ∧ o.isCells = false) : W'.ownsRow base e size v n xs := by
  refine ⟨h.1, ?_⟩
  rcases h.2 with h0 | ⟨g, cap, cur, h1, h2, h3, h4⟩
  · exact .inl h0
  · refine .inr ⟨g, cap, cur, h1, h2, ?_, h4⟩
    have hne : some g ≠ row := fun e' => by
      obtain ⟨o, ho, hc⟩ := hr g e'.symm
      rw [h3] at ho
      cases ho
      simp [Obj.isCells] at hc
    exact (hg.5 g (lt_of_block h3) hne).trans h3
theorem owns_set {w : World} {base size n : Nat} {e : TypeId} {v : Value} {xs : List Value} (h : w.ownsRow base e size v n xs) {a : Addr} (ha : a.block < base) (u : Value) : (w.setCell a u).ownsRow base e size v n xs := by
  refine ⟨h.1, ?_⟩
  rcases h.2 with h0 | ⟨g, cap, cur, h1, h2, h3, h4⟩
  · exact .inl h0
  · exact .inr ⟨g, cap, cur, h1, h2, (Below.heap_setCell w a u g (fun e => by omega)).trans h3, h4⟩
theorem owns_lt {w : World} {base size n g : Nat} {e : TypeId} {v : Value} {xs : List Value} (h : w.ownsRow base e size v n xs) (hg : g < base) : some g ≠ v.ownBlock := fun he => by
  rcases h.2 with ⟨rfl, _⟩ | ⟨g', cap, cur, rfl, h2, h3, _⟩
  · cases he
  · have : g = g' := Option.some.inj he
    omega
theorem Row.grown' {w w' : World} {g : Nat} {e : TypeId} {xs : List Value} {o : Option Nat} (h : Row w g e xs) (hg : w.grownBy w' o) (hne : some g ≠ o) : Row w' g e xs := (hg.5 g h.lt hne).trans h
theorem keepsOthers_of {W W' : World} (h : Below W.heap.size W W') : KeepsOthers W W' :=
  ⟨h.size, fun k o hk _ => by
    have hlt : k < W.heap.size := by
      by_cases hlt : k < W.heap.size
      · exact hlt
      · rw [Array.getElem?_eq_none (Nat.le_of_not_lt hlt)] at hk; cases hk
    exact (h.block k hlt).trans hk⟩
theorem keepB_of {S : Nat → Prop} {W W' : World} (h : Below W.heap.size W W') (hS : ∀ g, S g → g < W.heap.size) : KeepB S W W' := KeepB.of_below h hS
theorem owns_belowP {w w' : World} {base size n : Nat} {e : TypeId} {v : Value} {xs : List Value} (h : w.ownsRow base e size v n xs) (hb : Below w.heap.size w w') : w'.ownsRow base e size v n xs := by
  refine ⟨h.1, ?_⟩
  rcases h.2 with h0 | ⟨g, cap, cur, h1, h2, h3, h4⟩
  · exact .inl h0
  · exact .inr ⟨g, cap, cur, h1, h2, (hb.block g (lt_of_block h3)).trans h3, h4⟩
attribute [local go_sem] Oper.semAt_some
theorem yield_two {e : Ending} {A B : Prop} (h : (e = .returned (.bool true) ∧ A) ∨ (e = .returned (.bool false) ∧ B)) : ∃ bv : Bool, e = .returned (.bool bv) ∧ (bv = true → A) ∧ (bv = false → B) := by
  rcases h with ⟨h, a⟩ | ⟨h, b⟩
  · exact ⟨true, h, fun _ => a, fun h => by cases h⟩
  · exact ⟨false, h, fun h => by (cases h), fun _ => b⟩
end Go.Proofs.YtcanfcpofihoeaaGreatDoor

namespace Go.Proofs.YtcanfcpofihoeaaGreatDoor
open Go.RowKit Go.Shelf
/-- the interval that ends behind so many readings -/
def itvA (js : List (Int × Int)) (k : Nat) : Array Value := #[.int .i64 ((k : Int) + 1), .agg #[.int .i64 (rd js k), .int .i64 (rv js k), .int .i64 (rd js (k + 1)), .int .i64 (rv js (k + 1))]]

set_option linter.unusedSimpArgs false
set_option maxRecDepth 100000 in
set_option maxHeartbeats 4000000 in
theorem itv1_in (F : Fence) (m : Nat) (hf : F.fn 70) (hro : F.round = none) (hm : 1 ≤ m) (l Bs b n cap : Nat) (js : List (Int × Int)) (hn : n = js.length) (hl : n ≤ 1048576) (J Jx : List (Fin (n - 1)) → World → Prop)
    (hY : ∀ pre (x : Fin (n - 1)) W, J pre W → pre.length < n - 1 → YieldAt F (m - 1) Tryz.prog l (itvA js x.1) W fun e W' =>
      (e = .returned (.bool true) ∧ J (pre ++ [x]) W' ∧ KeepB (fun g => g = b ∨ g = Bs) W W') ∨ (e = .returned (.bool false) ∧ Jx (pre ++ [x]) W'))
    (hd : ∀ pre A B, J pre A → A.grownBy B none → J pre B)
    (W : World) (hBs : W.cell? ⟨Bs, 0, none⟩ = some (.slice (some ⟨b, 0, none⟩) n cap)) (hc : ∀ j, j < n → W.cell? ⟨b, j * 2, none⟩ = some (.int .i64 (rd js j)) ∧ W.cell? ⟨b, j * 2 + 1, none⟩ = some (.int .i64 (rv js j))) (h0 : J [] W) :
    CallsIn F m Tryz.prog 70 #[.func (.yield l) #[] #[], .pointer (some ⟨Bs, 0, none⟩)] W fun e W' => (∃ v, e = .returned v) ∧
      ((∃ ys, ys = List.finRange (n - 1) ∧ J ys W') ∨ (∃ pre, (∃ k, k ≤ n - 1 ∧ pre = (List.finRange (n - 1)).take k) ∧ Jx pre W')) := by
  have HD := hid hd
  have hC := hid hc
  have hBB := hid hBs
  clear hn hc hd hBs
  refine callsIn_of_wp Tryz.func70 rfl hf ?_ hro
  simp only [Tryz.ntmps70, List.size_toArray, List.length_cons, List.length_nil, Nat.reduceAdd, Nat.reduceSub, Array.replicate_succ, Array.replicate_zero, List.push_toArray, List.append_toArray, List.nil_append, List.cons_append]
  gi_wp2
  gi_loopw [3] (fun i wr => ∃ k c : Nat, c = k + 1 ∧ k ≤ n - 1 ∧ i = .int .i64 (c : Int) ∧ J ((List.finRange (n - 1)).take k) wr ∧ KeepB (fun g => g = b ∨ g = Bs) W wr)
    (fun i _ => n - (intOf i).toNat)
  case atStart => exact ⟨0, 1, rfl, Nat.zero_le _, rfl, h0, KeepB.refl _ _⟩
  case round =>
    obtain ⟨k, c, hck, hk, rfl, hJs, hK⟩ := hrel
    have hbx := (hK.cell (g := Bs) (.inr rfl) 0).trans hBB.out
    have HCK := hid hck
    have hc0 : (0 : Int) ≤ (c : Int) := by omega
    by_cases hlt : k < n - 1
    · have x0 := (hK.cell (g := b) (.inl rfl) (k * 2)).trans (hC.out k (by omega)).1
      have x1 := (hK.cell (g := b) (.inl rfl) (k * 2 + 1)).trans (hC.out k (by omega)).2
      have x2 := (hK.cell (g := b) (.inl rfl) (c * 2)).trans (hC.out c (by omega)).1
      have x3 := (hK.cell (g := b) (.inl rfl) (c * 2 + 1)).trans (hC.out c (by omega)).2
      obtain ⟨fn, tmps, assign, body, hy, hR⟩ := hY _ ⟨k, hlt⟩ wr.drew (HD.out _ _ _ hJs ⟨rfl, rfl, rfl, Nat.le_refl _, fun _ _ _ => rfl⟩) (by rw [finTake_length (n - 1) k hk]; exact hlt)
      have hlen := hid (finTake_succ (n - 1) k hlt)
      unfold itvA at hy
      dsimp only at hy
      rw [← hck, show ((k : Int) + 1) = (c : Int) by omega] at hy
      obtain ⟨p, hp⟩ : ∃ p, rd js k = p := ⟨_, rfl⟩
      obtain ⟨q, hq⟩ : ∃ p, rv js k = p := ⟨_, rfl⟩
      obtain ⟨u, hu⟩ : ∃ p, rd js c = p := ⟨_, rfl⟩
      obtain ⟨v, hv⟩ : ∃ p, rv js c = p := ⟨_, rfl⟩
      rw [hp] at x0 hy
      rw [hq] at x1 hy
      rw [hu] at x2 hy
      rw [hv] at x3 hy
      have hlt' : (c : Int) < (n : Int) := by omega
      have hcn : c < n := by omega
      have hkn : k < n := by omega
      have hk0 : (0 : Int) ≤ (k : Int) := by omega
      have e1 : (c : Int) - 1 = (k : Int) := by omega
      have tk : IntKind.i64.wrap (k : Int) = (k : Int) := IntWalk.i64_in _ (by omega)
      clear hp hq hu hv hck
      gi_wp2
      refine region_call (S := fun W' : World => W'.cell? ⟨Bs, 0, none⟩ = some (.slice (some ⟨b, 0, none⟩) n cap) ∧ W'.cell? ⟨b, k * 2, none⟩ = some (.int .i64 p) ∧ W'.cell? ⟨b, k * 2 + 1, none⟩ = some (.int .i64 q) ∧ W'.cell? ⟨b, c * 2, none⟩ = some (.int .i64 u) ∧ W'.cell? ⟨b, c * 2 + 1, none⟩ = some (.int .i64 v)) 12 (by kernel_rfl) (by kernel_rfl) (fun hnd => ?_)
      have hS : (fun W' : World => W'.cell? ⟨Bs, 0, none⟩ = some (.slice (some ⟨b, 0, none⟩) n cap) ∧ W'.cell? ⟨b, k * 2, none⟩ = some (.int .i64 p) ∧ W'.cell? ⟨b, k * 2 + 1, none⟩ = some (.int .i64 q) ∧ W'.cell? ⟨b, c * 2, none⟩ = some (.int .i64 u) ∧ W'.cell? ⟨b, c * 2 + 1, none⟩ = some (.int .i64 v)) wr.drew := ⟨hbx, x0, x1, x2, x3⟩
      refine anyC_takeD [12] (some 10) (i := 0) (v := ?_) (by kernel_rfl) hnd rfl rfl (by kernel_rfl) (by kernel_rfl) (by kernel_rfl) (fun _ _ _ h => h) ⟨by rfl, ?_, fun _ => rfl⟩ hS ?_
      rotate_left
      · intro w' hw'
        obtain ⟨hw1, hw2, hw3, hw4, hw5⟩ := hw'
        go_simp
        try with_reducible rfl
      simp only [Act.put, List.setIfInBounds_toArray, List.set_cons_zero, List.set_cons_succ]
      refine anyC_takeD [12] (some 11) (i := 1) (v := ?_) (by kernel_rfl) hnd rfl rfl (by kernel_rfl) (by kernel_rfl) (by kernel_rfl) (fun _ _ _ h => h) ⟨by rfl, ?_, fun _ => rfl⟩ hS ?_
      rotate_left
      · intro w' hw'
        obtain ⟨hw1, hw2, hw3, hw4, hw5⟩ := hw'
        go_simp
        try with_reducible rfl
      simp only [Act.put, List.setIfInBounds_toArray, List.set_cons_zero, List.set_cons_succ]
      refine anyC_takeD [5, 6, 11, 12] (some 12) (i := 2) (v := ?_) (by kernel_rfl) hnd rfl rfl (by kernel_rfl) (by kernel_rfl) (by kernel_rfl) (fun _ _ _ h => h) ⟨by rfl, ?_, fun _ => rfl⟩ hS ?_
      rotate_left
      · intro w' hw'
        obtain ⟨hw1, hw2, hw3, hw4, hw5⟩ := hw'
        go_simp
        try with_reducible rfl
      simp only [Act.put, List.setIfInBounds_toArray, List.set_cons_zero, List.set_cons_succ]
      refine anyC_takeD [4, 5, 6, 11, 12] (some 13) (i := 3) (v := ?_) (by kernel_rfl) hnd rfl rfl (by kernel_rfl) (by kernel_rfl) (by kernel_rfl) (fun _ _ _ h => h) ⟨by rfl, ?_, fun _ => rfl⟩ hS ?_
      rotate_left
      · intro w' hw'
        obtain ⟨hw1, hw2, hw3, hw4, hw5⟩ := hw'
        go_simp
        try with_reducible rfl
      simp only [Act.put, List.setIfInBounds_toArray, List.set_cons_zero, List.set_cons_succ]
      refine anyC_takeD [5, 6, 11, 12] (some 14) (i := 4) (v := ?_) (by kernel_rfl) hnd rfl rfl (by kernel_rfl) (by kernel_rfl) (by kernel_rfl) (fun _ _ _ h => h) ⟨by rfl, ?_, fun _ => rfl⟩ hS ?_
      rotate_left
      · intro w' hw'
        obtain ⟨hw1, hw2, hw3, hw4, hw5⟩ := hw'
        go_simp
        try with_reducible rfl
      simp only [Act.put, List.setIfInBounds_toArray, List.set_cons_zero, List.set_cons_succ]
      refine anyC_takeD [6, 11, 12] (some 15) (i := 5) (v := ?_) (by kernel_rfl) hnd rfl rfl (by kernel_rfl) (by kernel_rfl) (by kernel_rfl) (fun _ _ _ h => h) ⟨by rfl, ?_, fun _ => rfl⟩ hS ?_
      rotate_left
      · intro w' hw'
        obtain ⟨hw1, hw2, hw3, hw4, hw5⟩ := hw'
        go_simp
        try with_reducible rfl
      simp only [Act.put, List.setIfInBounds_toArray, List.set_cons_zero, List.set_cons_succ]
      refine anyC_takeD [11, 12] (some 16) (i := 6) (v := ?_) (by kernel_rfl) hnd rfl rfl (by kernel_rfl) (by kernel_rfl) (by kernel_rfl) (fun _ _ _ h => h) ⟨by rfl, ?_, fun _ => rfl⟩ hS ?_
      rotate_left
      · intro w' hw'
        obtain ⟨hw1, hw2, hw3, hw4, hw5⟩ := hw'
        go_simp
        try with_reducible rfl
      simp only [Act.put, List.setIfInBounds_toArray, List.set_cons_zero, List.set_cons_succ]
      refine anyC_takeD [9, 10, 11, 12] (some 17) (i := 7) (v := ?_) (by kernel_rfl) hnd rfl rfl (by kernel_rfl) (by kernel_rfl) (by kernel_rfl) (fun _ _ _ h => h) ⟨by rfl, ?_, fun _ => rfl⟩ hS ?_
      rotate_left
      · intro w' hw'
        obtain ⟨hw1, hw2, hw3, hw4, hw5⟩ := hw'
        go_simp
        try with_reducible rfl
      simp only [Act.put, List.setIfInBounds_toArray, List.set_cons_zero, List.set_cons_succ]
      refine anyC_takeD [9, 10, 11, 12] (some 18) (i := 8) (v := ?_) (by kernel_rfl) hnd rfl rfl (by kernel_rfl) (by kernel_rfl) (by kernel_rfl) (fun _ _ _ h => h) ⟨by rfl, ?_, fun _ => rfl⟩ hS ?_
      rotate_left
      · intro w' hw'
        obtain ⟨hw1, hw2, hw3, hw4, hw5⟩ := hw'
        go_simp
        try with_reducible rfl
      simp only [Act.put, List.setIfInBounds_toArray, List.set_cons_zero, List.set_cons_succ]
      refine anyC_takeD [10, 11, 12] (some 19) (i := 9) (v := ?_) (by kernel_rfl) hnd rfl rfl (by kernel_rfl) (by kernel_rfl) (by kernel_rfl) (fun _ _ _ h => h) ⟨by rfl, ?_, fun _ => rfl⟩ hS ?_
      rotate_left
      · intro w' hw'
        obtain ⟨hw1, hw2, hw3, hw4, hw5⟩ := hw'
        go_simp
        try with_reducible rfl
      simp only [Act.put, List.setIfInBounds_toArray, List.set_cons_zero, List.set_cons_succ]
      refine anyC_takeD [11, 12] (some 20) (i := 10) (v := ?_) (by kernel_rfl) hnd rfl rfl (by kernel_rfl) (by kernel_rfl) (by kernel_rfl) (fun _ _ _ h => h) ⟨by rfl, ?_, fun _ => rfl⟩ hS ?_
      rotate_left
      · intro w' hw'
        obtain ⟨hw1, hw2, hw3, hw4, hw5⟩ := hw'
        go_simp
        try with_reducible rfl
      simp only [Act.put, List.setIfInBounds_toArray, List.set_cons_zero, List.set_cons_succ]
      refine anyC_takeD [12] (some 21) (i := 11) (v := ?_) (by kernel_rfl) hnd rfl rfl (by kernel_rfl) (by kernel_rfl) (by kernel_rfl) (fun _ _ _ h => h) ⟨by rfl, ?_, fun _ => rfl⟩ hS ?_
      rotate_left
      · intro w' hw'
        obtain ⟨hw1, hw2, hw3, hw4, hw5⟩ := hw'
        go_simp
        try with_reducible rfl
      simp only [Act.put, List.setIfInBounds_toArray, List.set_cons_zero, List.set_cons_succ]
      refine anyC_call (by kernel_rfl) rfl (by rfl) (fun K hKK => ?_)
      go_simp
      refine hR.mono ?_
      rintro e W3 h3
      obtain ⟨bv, rfl, h3a, h3b⟩ := yield_two h3
      dsimp only
      refine hKK _ _ ?_
      refine wpAnyIn_take (i := 13) (v := ?_) hro rfl (by kernel_rfl) (by kernel_rfl) (by kernel_rfl) (fun _ _ _ h => h) ⟨Or.inl ⟨by rfl, ?_⟩, fun _ => rfl⟩ ?_
      rotate_left
      · intro w'
        go_simp
        try with_reducible rfl
      simp only [Act.put, List.setIfInBounds_toArray, List.set_cons_zero, List.set_cons_succ]
      refine wpAnyIn_done (by kernel_rfl) ?_ _
      cases bv
      · have h5 := hid (h3b rfl)
        gi_wp2
        refine bodyPost_ret (results_none rfl _ _ _) rfl ?_
        exact ⟨⟨_, rfl⟩, .inr ⟨_, ⟨k + 1, by omega, hlen.out.symm⟩, h5.out⟩⟩
      · have h5 := hid (h3a rfl)
        gi_wp2
        go_roundw
        case rel => exact ⟨k + 1, c + 1, by have := HCK.out; omega, by omega, by go_num, by rw [hlen.out]; exact h5.out.1, hK.trans h5.out.2⟩
        case measure => simp [intOf]; omega
    · obtain rfl : k = n - 1 := by omega
      have hlt' : ¬ (c : Int) < (n : Int) := by omega
      have hge : (n : Int) ≤ (c : Int) := by omega
      gi_wp2
      go_end0
      rw [finTake_all (n - 1)] at hJs
      exact ⟨⟨_, rfl⟩, .inl hJs⟩
end Go.Proofs.YtcanfcpofihoeaaGreatDoor

namespace Go.Proofs.YtcanfcpofihoeaaGreatDoor
open Go.RowKit Go.Shelf
theorem itv_in (F : Fence) (m : Nat) (hf : F.fn 48) (hro : F.round = none) (a : Option Addr) (len cap : Nat) (w : World) :
    CallsIn F m Tryz.prog 48 #[.slice a len cap] w fun e w' => e = .returned (.func (.func 70) #[] #[.pointer (some ⟨w.heap.size, 0, none⟩)]) ∧ w' = w.alloc (.cells #[.slice a len cap] 23) := by
  refine callsIn_of_wp Tryz.func48 rfl hf ?_ hro
  simp only [Tryz.ntmps48, List.size_toArray, List.length_cons, List.length_nil, Nat.reduceAdd, Nat.reduceSub, Array.replicate_succ, Array.replicate_zero, List.push_toArray, List.append_toArray, List.nil_append, List.cons_append]
  gi_wp2
  go_ret
  exact ⟨rfl, rfl⟩
theorem itv_stops (F : Fence) (m : Nat) (hf : F.fn 70) (hro : F.round = none) (hm : 1 ≤ m) (Bs b n cap : Nat) (js : List (Int × Int)) (hn : n = js.length) (hl : n ≤ 1048576) (w : World) (hBs : Bs < w.heap.size) (hb : b < w.heap.size)
    (hc : w.cell? ⟨Bs, 0, none⟩ = some (.slice (some ⟨b, 0, none⟩) n cap)) (hI : ∀ j, j < n → w.cell? ⟨b, j * 2, none⟩ = some (.int .i64 (rd js j)) ∧ w.cell? ⟨b, j * 2 + 1, none⟩ = some (.int .i64 (rv js j))) :
    SeqStopsK F m Tryz.prog 70 #[.pointer (some ⟨Bs, 0, none⟩)] (fun x : Fin (n - 1) => itvA js x.1) (KeepB (fun g => g = b ∨ g = Bs)) (fun ys => ys = List.finRange (n - 1))
      (fun pre => ∃ k, k ≤ n - 1 ∧ pre = (List.finRange (n - 1)).take k) (n - 1) w := fun l J Jx W hW hA _ hY h0 => by
  exact itv1_in F m hf hro hm l Bs b n cap js hn hl J Jx hY (fun pre A B hj hg => hA pre A B none hj hg (fun r e => by cases e)) W ((hW.cell (p := ⟨Bs, 0, none⟩) hBs).trans hc)
    (fun j hj => ⟨(hW.cell (p := ⟨b, j * 2, none⟩) hb).trans (hI j hj).1, (hW.cell (p := ⟨b, j * 2 + 1, none⟩) hb).trans (hI j hj).2⟩) h0
end Go.Proofs.YtcanfcpofihoeaaGreatDoor

namespace Go.Proofs.YtcanfcpofihoeaaGreatDoor

/-- a reading of a stack with so many values -/
def okRd (z d v : Int) : Bool := decide (0 ≤ d ∧ d ≤ 100000 ∧ 0 ≤ v ∧ v < z)
def okF (lo hi : Int) : Bool := decide (0 ≤ lo ∧ lo ≤ hi ∧ hi ≤ 1000000)
/-- the least count, of low and more, and the greatest one, of high and less -/
def lstI (z way low : Int) : Int := low + (way - low) % z
def gstI (z way high : Int) : Int := high - (high - way) % z
/-- a count is possible -/
def posI (z way low high : Int) : Bool := decide (lstI z way low ≤ gstI z way high)
theorem gst_ge (z way low high : Int) (hz : 1 ≤ z) (h : lstI z way low ≤ high) : lstI z way low ≤ gstI z way high := by
  unfold lstI gstI at *
  have e : (high - way) % z = (high - (low + (way - low) % z)) % z := by
    apply (Int.emod_emod_of_dvd _ (Int.dvd_refl z)).symm.trans
    rw [Int.emod_emod_of_dvd _ (Int.dvd_refl z)]
    apply Int.emod_eq_emod_iff_emod_sub_eq_zero.2
    have : high - way - (high - (low + (way - low) % z)) = (way - low) % z - (way - low) := by omega
    rw [this]
    have := Int.emod_add_mul_ediv (way - low) z
    rw [show (way - low) % z - (way - low) = z * (-((way - low) / z)) by rw [Int.mul_neg]; omega]
    exact Int.mul_emod_right _ _
  rw [e]
  have : (high - (low + (way - low) % z)) % z ≤ high - (low + (way - low) % z) := by
    have h0 : 0 ≤ high - (low + (way - low) % z) := by omega
    have := Int.emod_add_mul_ediv (high - (low + (way - low) % z)) z
    have q := Int.ediv_nonneg h0 (show 0 ≤ z by omega)
    have := Int.mul_nonneg (show 0 ≤ z by omega) q
    omega
  omega
theorem gst_le (z way high : Int) (hz : 1 ≤ z) : gstI z way high ≤ high := by
  unfold gstI
  have := Int.emod_nonneg (high - way) (show z ≠ 0 by omega)
  omega
theorem pos_iff (z way low high : Int) (hz : 1 ≤ z) : posI z way low high = decide (lstI z way low ≤ high) := by
  unfold posI
  by_cases h : lstI z way low ≤ high
  · rw [decide_eq_true h, decide_eq_true (gst_ge z way low high hz h)]
  · have := gst_le z way high hz
    rw [decide_eq_false h, decide_eq_false (by omega)]
theorem mod_gap (z way low : Int) : (way % z - low) % z = (way - low) % z := by
  rw [Int.emod_sub_emod]
theorem mod_gap' (z way high : Int) : (high - way % z) % z = (high - way) % z := by
  rw [Int.sub_emod_emod]
/-- by how much it has been set back at least -/
def backI (z way low high : Int) : Int := if posI z way low high then 0 else (low - way) % z
theorem back_eq (z way low high : Int) (hz : 1 ≤ z) : (if z ≤ (low - way) % z + (high - low) then 0 else (low - way) % z) = backI z way low high := by
  unfold backI
  rw [pos_iff z way low high hz]
  unfold lstI
  have h1 := Int.emod_nonneg (way - low) (show z ≠ 0 by omega)
  have h2 := Int.emod_lt_of_pos (way - low) (show 0 < z by omega)
  have h3 := Int.emod_nonneg (low - way) (show z ≠ 0 by omega)
  have h4 := Int.emod_lt_of_pos (low - way) (show 0 < z by omega)
  have h5 : ((low - way) % z + (way - low) % z) % z = 0 := by
    rw [← Int.add_emod, show low - way + (way - low) = 0 by omega]; exact Int.zero_emod _
  have h6 : (low - way) % z + (way - low) % z = 0 ∨ (low - way) % z + (way - low) % z = z := by
    have := Int.emod_add_mul_ediv ((low - way) % z + (way - low) % z) z
    rw [h5] at this
    generalize ((low - way) % z + (way - low) % z) / z = q at this
    have q0 : 0 ≤ q := by
      by_cases hq : 0 ≤ q
      · exact hq
      · have := Int.mul_le_mul_of_nonneg_left (show q ≤ -1 by omega) (show 0 ≤ z by omega)
        omega
    have q1 : q ≤ 1 := by
      by_cases hq : q ≤ 1
      · exact hq
      · have := Int.mul_le_mul_of_nonneg_left (show 2 ≤ q by omega) (show 0 ≤ z by omega)
        omega
    have : q = 0 ∨ q = 1 := by omega
    rcases this with rfl | rfl <;> omega
  by_cases hp : low + (way - low) % z ≤ high
  · rw [decide_eq_true hp]
    simp only [if_true]
    split <;> omega
  · rw [decide_eq_false hp, if_neg (by omega)]
    simp
end Go.Proofs.YtcanfcpofihoeaaGreatDoor

namespace Go.Proofs.YtcanfcpofihoeaaGreatDoor
open Go.RowKit Go.Shelf

attribute [local go_sem] Oper.semAt_some

set_option maxRecDepth 100000 in
set_option maxHeartbeats 2000000 in
/-- the closure: each wheel with its place, one after the other, for every body that keeps what lay below n₀ -/
theorem places1_in (F : Fence) (m : Nat) (hf : F.fn 68) (hro : F.round = none) (hm : 1 ≤ m) (l Bs n₀ b n cap : Nat) (zs : List Int) (hn : n = zs.length) (h8 : n ≤ 8) (hin : inB zs n) (hb : b < n₀) (J Jx : List (Fin n) → World → Prop)
    (hY : ∀ pre (x : Fin n) W, J pre W → pre.length < n → YieldAt F (m - 1) Tryz.prog l #[.int .i64 (x.1 : Int), .int .i64 (szL (zs.take x.1))] W fun e W' =>
      (e = .returned (.bool true) ∧ J (pre ++ [x]) W' ∧ Below n₀ W W') ∨ (e = .returned (.bool false) ∧ Jx (pre ++ [x]) W'))
    (W : World) (hBs : W.cell? ⟨Bs, 0, none⟩ = some (.slice (some ⟨b, 0, none⟩) n cap)) (hc : ∀ j, j < n → W.cell? ⟨b, j, none⟩ = some (.int .u8 (zs[j]?.getD 0))) (h0 : J [] W) :
    CallsIn F m Tryz.prog 68 #[.func (.yield l) #[] #[], .pointer (some ⟨Bs, 0, none⟩)] W fun e W' => (∃ v, e = .returned v) ∧
      ((∃ ys, ys = List.finRange n ∧ J ys W') ∨ (∃ pre, (∃ k, k ≤ n ∧ pre = (List.finRange n).take k) ∧ Jx pre W')) := by
  have hN := hid hn
  have hI := hid hin
  have hC := hid hc
  clear hn hin hc
  refine callsIn_of_wp Tryz.func68 rfl hf ?_ hro
  simp only [Tryz.ntmps68, List.size_toArray, List.length_cons, List.length_nil, Nat.reduceAdd, Nat.reduceSub, Array.replicate_succ, Array.replicate_zero, List.push_toArray, List.append_toArray, List.nil_append, List.cons_append]
  gi_wp2
  gi_loopw [3, 8] (fun p i wr => ∃ k : Nat, k ≤ n ∧ i = .int .i64 k ∧ p = .int .i64 (szL (zs.take k)) ∧ J ((List.finRange n).take k) wr ∧ Below n₀ W wr)
    (fun _ i _ => n - (intOf i).toNat)
  case atStart => exact ⟨0, Nat.zero_le _, rfl, rfl, h0, Below.refl _ _⟩
  case round =>
    obtain ⟨k, hk, rfl, rfl, hJs, hnx⟩ := hrel
    by_cases hlt : k < n
    · have hcx := (hnx.cell (p := ⟨b, k, none⟩) hb).trans (hC.out k hlt)
      have hzb := hI.out k hlt
      obtain ⟨s1, s2, s3, s4⟩ := szL_step zs k (by rw [← hN.out]; exact hlt) (by rw [← hN.out]; exact h8) (fun j hj => hI.out j (by omega))
      have HT := hid (szL_take zs k (by rw [← hN.out]; exact hlt))
      obtain ⟨fn, tmps, assign, body, hy, hR⟩ := hY _ ⟨k, hlt⟩ wr hJs (by rw [finTake_length n k hk]; exact hlt)
      have hlen := hid (finTake_succ n k hlt)
      dsimp only at hy
      obtain ⟨p, hp⟩ : ∃ p, p = szL (zs.take k) := ⟨_, rfl⟩
      obtain ⟨z, hz⟩ : ∃ z, z = zs[k]?.getD 0 := ⟨_, rfl⟩
      rw [← hp, ← hz] at HT s3 s4
      rw [← hp] at s1 s2 hy ⊢
      rw [← hz] at hcx hzb
      have hp' := hid hp; have hz' := hid hz
      clear hp hz
      gi_wp2
      refine hR.mono ?_
      rintro e W3 (⟨rfl, hJ3, hk3⟩ | ⟨rfl, hJx3⟩)
      · gi_wp2
        go_roundw
        case rel => exact ⟨k + 1, by omega, by simp, by rw [HT.out], by rw [hlen.out]; exact hJ3, hnx.trans hk3⟩
        case measure => simp [intOf]; omega
      · gi_wp2
        refine bodyPost_ret (results_none rfl _ _ _) rfl ?_
        exact ⟨⟨_, rfl⟩, .inr ⟨_, ⟨k + 1, by omega, hlen.out.symm⟩, hJx3⟩⟩
    · obtain rfl : k = n := by omega
      gi_wp2
      go_end0
      exact ⟨⟨_, rfl⟩, .inl ⟨_, (finTake_all k), hJs⟩⟩

set_option maxHeartbeats 1000000 in
theorem places_in (F : Fence) (m : Nat) (hf : F.fn 46) (hro : F.round = none) (a : Option Addr) (len cap : Nat) (w : World) :
    CallsIn F m Tryz.prog 46 #[.slice a len cap] w fun e w' => e = .returned (.func (.func 68) #[] #[.pointer (some ⟨w.heap.size, 0, none⟩)]) ∧ w' = w.alloc (.cells #[.slice a len cap] 26) := by
  refine callsIn_of_wp Tryz.func46 rfl hf ?_ hro
  simp only [Tryz.ntmps46, List.size_toArray, List.length_cons, List.length_nil, Nat.reduceAdd, Nat.reduceSub, Array.replicate_succ, Array.replicate_zero, List.push_toArray, List.append_toArray, List.nil_append, List.cons_append]
  gi_wp2
  go_ret
  exact ⟨rfl, rfl⟩

theorem places_stops (F : Fence) (m : Nat) (hf : F.fn 68) (hro : F.round = none) (hm : 1 ≤ m) (Bs n₀ b n cap : Nat) (zs : List Int) (hn : n = zs.length) (h8 : n ≤ 8) (hin : inB zs n) (w : World) (hBs : Bs < w.heap.size) (hn₀ : n₀ ≤ w.heap.size) (hb : b < n₀)
    (hc : w.cell? ⟨Bs, 0, none⟩ = some (.slice (some ⟨b, 0, none⟩) n cap)) (hI : ∀ j, j < n → w.cell? ⟨b, j, none⟩ = some (.int .u8 (zs[j]?.getD 0))) :
    SeqStopsK F m Tryz.prog 68 #[.pointer (some ⟨Bs, 0, none⟩)] (fun x : Fin n => #[Value.int .i64 (x.1 : Int), Value.int .i64 (szL (zs.take x.1))]) (Below n₀) (fun ys => ys = List.finRange n)
      (fun pre => ∃ k, k ≤ n ∧ pre = (List.finRange n).take k) n w := fun l J Jx W hW _ _ hY h0 => by
  have hc' := (hW.cell (p := ⟨Bs, 0, none⟩) hBs).trans hc
  exact places1_in F m hf hro hm l Bs n₀ b n cap zs hn h8 hin hb J Jx hY W hc' (fun j hj => (hW.cell (p := ⟨b, j, none⟩) (by show b < _; omega)).trans (hI j hj)) h0

set_option maxRecDepth 100000 in
set_option maxHeartbeats 4000000 in
/-- impl.place of a wheel that is there: the product of the bases before it -/
theorem place_in (F : Fence) (m : Nat) (hf1 : F.fn 113) (hf2 : F.fn 46) (hf3 : F.fn 68) (hro : F.round = none) (hm : 3 ≤ m)
    (b n cap k : Nat) (zs : List Int) (hn : n = zs.length) (h8 : n ≤ 8) (hin : inB zs n) (hk : k < n) (w : World) (hS : Stk w b zs) :
    CallsIn F m Tryz.prog 113 #[.slice (some ⟨b, 0, none⟩) n cap, .int .i64 (k : Int)] w fun e W' => e = .returned (.int .i64 (szL (zs.take k))) ∧ Below w.heap.size w W' := by
  have h1 : 1 ≤ m := by omega
  have hlt := hS.1
  have hC := hid hS.2.1
  have hI := hid hin
  have hN := hid hn
  clear hS hin hn
  refine callsIn_of_wp_marks Tryz.func113 rfl hf1 ?_ hro
  simp only [Tryz.ntmps113, List.size_toArray, List.length_cons, List.length_nil, Nat.reduceAdd, Nat.reduceSub, Array.replicate_succ, Array.replicate_zero, List.push_toArray, List.append_toArray, List.nil_append, List.cons_append]
  gi_wp2_with (gi_at_call 46; refine (places_in F (m - 1) hf2 hro _ _ _ _).mono ?_; rintro e w' ⟨rfl, rfl⟩)
  have bK := Boxed.new w 2 (.int .i64 (k : Int))
  have bR := Boxed.new (w.alloc (.cells #[.int .i64 (k : Int)] 2)) 2 (.int .i64 0)
  have bN := Boxed.new ((w.alloc (.cells #[.int .i64 (k : Int)] 2)).alloc (.cells #[.int .i64 0] 2)) 26 (.slice (some ⟨b, 0, none⟩) n cap)
  rw [World.size_alloc] at bR
  rw [World.size_alloc, World.size_alloc] at bN
  have hB0 : Below w.heap.size w (((w.alloc (.cells #[.int .i64 (k : Int)] 2)).alloc (.cells #[.int .i64 0] 2)).alloc (.cells #[.slice (some ⟨b, 0, none⟩) n cap] 26)) := (((Below.refl _ w).alloc (Nat.le_refl _) _).alloc (by simp) _).alloc (by simp; omega) _
  refine wpIn_rangeFunc_ownG hro h1 (gf := 68) (lb := #[.pointer (some ⟨w.heap.size + 1 + 1, 0, none⟩)]) rfl hf3 (enters_of Tryz.func68 (by kernel_rfl) rfl)
    (places_stops F (m - 1) hf3 hro (by omega) (w.heap.size + 1 + 1) w.heap.size b n cap zs hN.out h8 hI.out _ (by simp) (by simp; omega) hlt bN.cell (fun j hj => (hB0.cell (p := ⟨b, j, none⟩) hlt).trans (hC.out j (by rw [← hN.out]; exact hj)))) belowK_t (belowK_b (by simp; omega)) (Below.refl _ _) (fun _ => rfl)
    (fun pre W => ((∀ x ∈ pre, x.1 ≠ k) ∧ (W.cell? ⟨w.heap.size + 1, 0, none⟩ = some (.int .i64 0) ∧ W.frozen? ⟨w.heap.size + 1, 0, none⟩ = false) ∧ W.cell? ⟨w.heap.size, 0, none⟩ = some (.int .i64 (k : Int))) ∧ Below w.heap.size w W)
    (fun c pre W => (c = .ret ∧ W.cell? ⟨w.heap.size + 1, 0, none⟩ = some (.int .i64 (szL (zs.take k)))) ∧ Below w.heap.size w W)
    (OwnFrom.and (Own.from (fun s A B row hs hg hr => ⟨hs.1, ⟨cell_kept hs.2.1.1 hg hr, (frozen_kept hs.2.1.1 hg hr).trans hs.2.1.2⟩, cell_kept hs.2.2 hg hr⟩) _) (ownFrom_below (Nat.le_refl _) (by simp; omega)))
    (fun c => OwnFrom.and (Own.from (fun s A B row hs hg hr => ⟨hs.1, cell_kept hs.2 hg hr⟩) _) (ownFrom_below (Nat.le_refl _) (by simp; omega)))
    ⟨⟨by simp, ⟨(bR.alloc _).cell, (bR.alloc _).frozen⟩, ((bK.alloc _).alloc _).cell⟩, hB0⟩
    (fun x => { tmps := #[.slice (some ⟨b, 0, none⟩) n cap, .int .i64 (k : Int), undef, .pointer (some ⟨w.heap.size, 0, none⟩), .pointer (some ⟨w.heap.size + 1, 0, none⟩), .int .i64 (x.1 : Int), .int .i64 (szL (zs.take x.1)), .slice (some ⟨b, 0, none⟩) n cap, .func (.func 68) #[] #[.pointer (some ⟨w.heap.size + 1 + 1, 0, none⟩)], .int .i64 (x.1 : Int), .int .i64 (szL (zs.take x.1)), undef, undef, undef, undef], defers := [] }) ?assign ?body ?done ?stop
  case assign =>
    intro l x W K hK
    gi_wp2
    exact hK
  case body =>
    rintro l pre x W ⟨⟨hp, ⟨hcr, hfr⟩, hck⟩, hB⟩ _
    by_cases hx : x.1 = k
    · have he : ((x.1 : Int) == (k : Int)) = true := by simp [hx]
      have hX := hid hx
      clear hx
      gi_wp2
      exact ⟨(KeepsOthers.setCell _ _ _).from _, ⟨rfl, by rw [World.cell?_setCell_same' _ _ _ (by rw [hcr]; rfl), hX.out]⟩, hB.setCell (p := ⟨w.heap.size + 1, 0, none⟩) (by show _ ≤ w.heap.size + 1; omega) _⟩
    · have he : ((x.1 : Int) == (k : Int)) = false := by simp; omega
      have hX := hid hx
      clear hx
      gi_wp2
      exact ⟨KeepsFrom.refl _ _, Below.refl _ _, ⟨fun p hp' => (List.mem_append.1 hp').elim (hp p) (fun e => by simp at e; subst e; exact hX.out), ⟨hcr, hfr⟩, hck⟩, hB⟩
  case done =>
    rintro D ys W hD rfl ⟨⟨hne, _⟩, hB⟩ hK
    exact absurd rfl (hne ⟨k, hk⟩ (by simp))
  case stop =>
    rintro D c pre W hD ⟨j, hj, rfl⟩ ⟨⟨rfl, hcr⟩, hB⟩ hK
    gi_wp2
    refine ⟨by simp, .inl ⟨_, _, rfl, run_takeDeferred hK, ?_⟩⟩
    have hc5 := cell_kept hcr (grownBy_putObj' _ D (.deferred none)) (fun r e => by cases e; exact ⟨_, hK, rfl⟩)
    refine ⟨.int .i64 (szL (zs.take k)), ?_, rfl, hB.trans (belowK_b (w := w) (Nat.le_refl _) W D _ _ (by simp at hD; omega) hK rfl rfl)⟩
    simp [results, Tryz.f113, go_sem, hc5]
end Go.Proofs.YtcanfcpofihoeaaGreatDoor

namespace Go.Proofs.YtcanfcpofihoeaaGreatDoor
open Go.RowKit

/-- an array of eight bytes is read at a place -/
theorem index_oct (d0 d1 d2 d3 d4 d5 d6 d7 : Int) (k : Nat) (hk : k < 8) (w : World) :
    (Instr.index 39 (.agg #[.int .u8 d0, .int .u8 d1, .int .u8 d2, .int .u8 d3, .int .u8 d4, .int .u8 d5, .int .u8 d6, .int .u8 d7]) (.int .i64 (k : Int))).run Tryz.prog w
      = .ok (.int .u8 (([d0, d1, d2, d3, d4, d5, d6, d7] : List Int)[k]?.getD 0)) w := by
  have i0 : (Instr.index 39 (.agg #[.int .u8 d0, .int .u8 d1, .int .u8 d2, .int .u8 d3, .int .u8 d4, .int .u8 d5, .int .u8 d6, .int .u8 d7]) (.int .i64 ((0 : Nat) : Int))).run Tryz.prog w = .ok (.int .u8 d0) w := by kernel_rfl
  have i1 : (Instr.index 39 (.agg #[.int .u8 d0, .int .u8 d1, .int .u8 d2, .int .u8 d3, .int .u8 d4, .int .u8 d5, .int .u8 d6, .int .u8 d7]) (.int .i64 ((1 : Nat) : Int))).run Tryz.prog w = .ok (.int .u8 d1) w := by kernel_rfl
  have i2 : (Instr.index 39 (.agg #[.int .u8 d0, .int .u8 d1, .int .u8 d2, .int .u8 d3, .int .u8 d4, .int .u8 d5, .int .u8 d6, .int .u8 d7]) (.int .i64 ((2 : Nat) : Int))).run Tryz.prog w = .ok (.int .u8 d2) w := by kernel_rfl
  have i3 : (Instr.index 39 (.agg #[.int .u8 d0, .int .u8 d1, .int .u8 d2, .int .u8 d3, .int .u8 d4, .int .u8 d5, .int .u8 d6, .int .u8 d7]) (.int .i64 ((3 : Nat) : Int))).run Tryz.prog w = .ok (.int .u8 d3) w := by kernel_rfl
  have i4 : (Instr.index 39 (.agg #[.int .u8 d0, .int .u8 d1, .int .u8 d2, .int .u8 d3, .int .u8 d4, .int .u8 d5, .int .u8 d6, .int .u8 d7]) (.int .i64 ((4 : Nat) : Int))).run Tryz.prog w = .ok (.int .u8 d4) w := by kernel_rfl
  have i5 : (Instr.index 39 (.agg #[.int .u8 d0, .int .u8 d1, .int .u8 d2, .int .u8 d3, .int .u8 d4, .int .u8 d5, .int .u8 d6, .int .u8 d7]) (.int .i64 ((5 : Nat) : Int))).run Tryz.prog w = .ok (.int .u8 d5) w := by kernel_rfl
  have i6 : (Instr.index 39 (.agg #[.int .u8 d0, .int .u8 d1, .int .u8 d2, .int .u8 d3, .int .u8 d4, .int .u8 d5, .int .u8 d6, .int .u8 d7]) (.int .i64 ((6 : Nat) : Int))).run Tryz.prog w = .ok (.int .u8 d6) w := by kernel_rfl
  have i7 : (Instr.index 39 (.agg #[.int .u8 d0, .int .u8 d1, .int .u8 d2, .int .u8 d3, .int .u8 d4, .int .u8 d5, .int .u8 d6, .int .u8 d7]) (.int .i64 ((7 : Nat) : Int))).run Tryz.prog w = .ok (.int .u8 d7) w := by kernel_rfl
  have h : k = 0 ∨ k = 1 ∨ k = 2 ∨ k = 3 ∨ k = 4 ∨ k = 5 ∨ k = 6 ∨ k = 7 := by omega
  clear hk
  rcases h with rfl | rfl | rfl | rfl | rfl | rfl | rfl | rfl
  · exact i0
  · exact i1
  · exact i2
  · exact i3
  · exact i4
  · exact i5
  · exact i6
  · exact i7
theorem oct_bd {d0 d1 d2 d3 d4 d5 d6 d7 : Int} (h : Oct d0 d1 d2 d3 d4 d5 d6 d7) (k : Nat) (hk : k < 8) :
    0 ≤ ([d0, d1, d2, d3, d4, d5, d6, d7] : List Int)[k]?.getD 0 ∧ ([d0, d1, d2, d3, d4, d5, d6, d7] : List Int)[k]?.getD 0 ≤ 255 := by
  obtain ⟨h0, h1, h2, h3, h4, h5, h6, h7⟩ := h
  match k, hk with
  | 0, _ => exact h0
  | 1, _ => exact h1
  | 2, _ => exact h2
  | 3, _ => exact h3
  | 4, _ => exact h4
  | 5, _ => exact h5
  | 6, _ => exact h6
  | 7, _ => exact h7

set_option maxHeartbeats 2000000 in
theorem validDigits_any (b n cap : Nat) (zs : List Int) (d0 d1 d2 d3 d4 d5 d6 d7 : Int) (w : World) (h : Stk w b zs) (hn : n = zs.length) (ho : Oct d0 d1 d2 d3 d4 d5 d6 d7) :
    Calls Tryz.prog 45 #[.slice (some ⟨b, 0, none⟩) n cap, .agg #[.int .u8 d0, .int .u8 d1, .int .u8 d2, .int .u8 d3, .int .u8 d4, .int .u8 d5, .int .u8 d6, .int .u8 d7]] w
      fun e w' => e = .returned (.bool (okV zs [d0, d1, d2, d3, d4, d5, d6, d7])) ∧ Below w.heap.size w w' := by
  have hS := hid h
  have hZ := hid h.2.2.1
  have hl := h.2.2.2
  rw [← hn] at hl
  have hN := hid hn
  have hO := hid (fun k hk => oct_bd ho k hk)
  have hB0 := fun (o : Obj) => (Below.refl w.heap.size w).alloc (Nat.le_refl _) o
  have hS1 := hid (fun (o : Obj) => h.below (hB0 o) h.1)
  have hC := hid (fun (o : Obj) => (h.below (hB0 o) h.1).2.1)
  have hB := hid hB0
  clear h hn ho hB0
  cases hv : okL zs with
  | false =>
    have hf := hid (okV_no (ds := [d0, d1, d2, d3, d4, d5, d6, d7]) hv)
    have hv' := hid hv
    clear hv
    go_enter Tryz.func45, Tryz.ntmps45
    go_wp2_with (go_at_call 18; refine (validStack_any _ _ _ zs _ (hS1.out _) hN.out).mono ?_; rw [hv'.out]; rintro e w' ⟨rfl, rfl⟩)
    go_ret
    exact ⟨by rw [hf.out]; rfl, hB.out _⟩
  | true =>
    have hf := hid (okV_yes (ds := [d0, d1, d2, d3, d4, d5, d6, d7]) hv)
    have hv' := hid hv
    clear hv
    go_enter Tryz.func45, Tryz.ntmps45
    go_wp2_with (go_at_call 18; refine (validStack_any _ _ _ zs _ (hS1.out _) hN.out).mono ?_; rw [hv'.out]; rintro e w' ⟨rfl, rfl⟩)
    go_loop [11] (fun i => ∃ k : Nat, k ≤ 8 ∧ i = .int .i64 k ∧ okTo zs [d0, d1, d2, d3, d4, d5, d6, d7] k) (fun i => 8 - (intOf i).toNat)
    case atStart => exact ⟨0, Nat.zero_le _, rfl, okTo_zero _ _⟩
    case round =>
      obtain ⟨k, hk, rfl, hT⟩ := hrel
      by_cases hlt : k < 8
      · have hix := fun w => index_oct d0 d1 d2 d3 d4 d5 d6 d7 k hlt w
        have hdb := hO.out k hlt
        have hTL := hid (fun a b => okTo_low hT (k := k) a b)
        have hTH := hid (fun a b => okTo_high hT (k := k) a b)
        have hFL := hid (fun a b => okD_low (zs := zs) (ds := [d0, d1, d2, d3, d4, d5, d6, d7]) k hlt a b)
        have hFH := hid (fun a b => okD_high (zs := zs) (ds := [d0, d1, d2, d3, d4, d5, d6, d7]) k hlt a b)
        clear hT
        obtain ⟨d, hd⟩ : ∃ d, d = ([d0, d1, d2, d3, d4, d5, d6, d7] : List Int)[k]?.getD 0 := ⟨_, rfl⟩
        rw [← hd] at hdb hTL hTH hFL hFH
        simp only [← hd] at hix
        clear hd
        by_cases hw : k < n
        · have hx := hC.out (.cells #[.int .u8 d0, .int .u8 d1, .int .u8 d2, .int .u8 d3, .int .u8 d4, .int .u8 d5, .int .u8 d6, .int .u8 d7] 39) k (by rw [← hN.out]; exact hw)
          have hzb := hZ.out (zs[k]?.getD 0) (by simp [show k < zs.length from by rw [← hN.out]; exact hw])
          have hw' : k < zs.length := by rw [← hN.out]; exact hw
          have hTL' := hid (hTL.out hw')
          have hFL' := hid (hFL.out hw')
          clear hTL hTH hFL hFH hw'
          obtain ⟨z, hz⟩ : ∃ z, z = zs[k]?.getD 0 := ⟨_, rfl⟩
          rw [← hz] at hx hzb hTL' hFL'
          clear hz
          by_cases hdz : d < z
          · have hT' := hid (hTL'.out hdz)
            have hge : (decide (z ≤ d)) = false := by simp; omega
            go_wp2
            go_round
            case rel => exact ⟨k + 1, by omega, by go_num, hT'.out⟩
            case measure => simp [intOf]; omega
          · have hF' := hid (hf.out.trans (hFL'.out (by omega)))
            have hge : (decide (z ≤ d)) = true := by simp; omega
            go_wp2
            go_ret
            exact ⟨by rw [hF'.out]; rfl, hB.out _⟩
        · have hw' : zs.length ≤ k := by rw [← hN.out]; omega
          have hTH' := hid (hTH.out hw')
          have hFH' := hid (hFH.out hw')
          clear hTL hTH hFL hFH hw'
          by_cases hdz : d = 0
          · have hT' := hid (hTH'.out hdz)
            subst hdz
            go_wp2
            go_round
            case rel => exact ⟨k + 1, by omega, by go_num, hT'.out⟩
            case measure => simp [intOf]; omega
          · have hF' := hid (hf.out.trans (hFH'.out hdz))
            have hne : (d != 0) = true := by rw [bne_iff_ne]; exact hdz
            clear hdz
            go_wp2
            go_ret
            exact ⟨by rw [hF'.out]; rfl, hB.out _⟩
      · obtain rfl : k = 8 := by omega
        have hF' := hid (hf.out.trans (okD_of hT))
        clear hT
        go_wp2
        go_ret
        exact ⟨by rw [hF'.out]; rfl, hB.out _⟩

end Go.Proofs.YtcanfcpofihoeaaGreatDoor

namespace Go.Proofs.YtcanfcpofihoeaaGreatDoor
open Go.RowKit Go.Shelf

theorem place_any (b n cap k : Nat) (zs : List Int) (hn : n = zs.length) (h8 : n ≤ 8) (hin : inB zs n) (hk : k < n) (w : World) (hS : Stk w b zs) :
    Calls Tryz.prog 113 #[.slice (some ⟨b, 0, none⟩) n cap, .int .i64 (k : Int)] w fun e W' => e = .returned (.int .i64 (szL (zs.take k))) ∧ Below w.heap.size w W' :=
  callsIn_wide.1 (place_in Fence.wide 8 trivial trivial trivial rfl (by omega) b n cap k zs hn h8 hin hk w hS)

set_option maxHeartbeats 2000000 in
theorem cycle_any (b n cap k : Nat) (zs : List Int) (hn : n = zs.length) (h8 : n ≤ 8) (hin : inB zs n) (hk : k < n) (w : World) (hS : Stk w b zs) :
    Calls Tryz.prog 106 #[.slice (some ⟨b, 0, none⟩) n cap, .int .i64 (k : Int)] w fun e W' => e = .returned (.int .i64 (szL (zs.take (k + 1)))) ∧ Below w.heap.size w W' := by
  have hx : w.cell? ⟨b, k, none⟩ = some (.int .u8 (zs[k]?.getD 0)) := hS.2.1 k (by omega)
  have hlt := hS.1
  have hzb := hin k hk
  obtain ⟨s1, s2, s3, s4⟩ := szL_step zs k (by omega) (by omega) (fun j hj => hin j (by omega))
  have HT := hid (szL_take zs k (by omega))
  have HP := hid (fun w (hS : Stk w b zs) => place_any b n cap k zs hn h8 hin hk w hS)
  have HS := hid hS
  have HN := hid hn
  have HI := hid hin
  clear hn hin hS
  obtain ⟨p, hp⟩ : ∃ p, p = szL (zs.take k) := ⟨_, rfl⟩
  obtain ⟨z, hz⟩ : ∃ z, z = zs[k]?.getD 0 := ⟨_, rfl⟩
  rw [← hp, ← hz] at HT s3 s4
  rw [← hp] at s1 s2
  simp only [← hp] at HP
  rw [← hz] at hx hzb
  clear hp hz
  have hk1 : (0 : Int) ≤ (k : Int) := by omega
  have hk2 : (k : Int) < (n : Int) := by omega
  go_enter Tryz.func106, Tryz.ntmps106
  go_wp2_with fail
  go_region_held3 (fun w' => w'.cell? ⟨b, k, none⟩ = some (.int .u8 z)) (first | exact hx2 | exact hx)
    ((first | (go_at_call 113; have hX := HP.out w.drew (HS.out.below (Below.refl _ w).drew HS.out.1); refine hX.mono ?_; clear hX; rintro e w1 ⟨rfl, hB⟩; have hx2 := (hB.cell (p := ⟨b, k, none⟩) hlt).trans (show w.drew.cell? ⟨b, k, none⟩ = _ from hx))))
  go_wp2
  go_ret
  have hw1 : IntKind.i64.wrap z = z := IntWalk.i64_in _ (by omega)
  have hw2 : IntKind.i64.wrap (p * z) = p * z := IntWalk.i64_in _ (by omega)
  exact ⟨by show Ending.returned (.int .i64 (IntKind.i64.wrap (p * IntKind.i64.wrap z))) = _; rw [hw1, hw2, HT.out], (Below.refl _ w).drew.trans hB⟩

theorem size_any /- by Tryz.prog 106 -/ (b n cap : Nat) (zs : List Int) (hn : n = zs.length) (hv : okL zs = true) (w : World) (hS : Stk w b zs) :
    Calls Tryz.prog 92 #[.slice (some ⟨b, 0, none⟩) n cap] w fun e W' => e = .returned (.int .i64 (szL zs)) ∧ Below w.heap.size w W' := by
  obtain ⟨h1, h8, hin, _, _⟩ := okL_out hv
  obtain ⟨k, hk⟩ : ∃ k, n = k + 1 := ⟨n - 1, by omega⟩
  have hX := hid (cycle_any b n cap k zs hn (by omega) (by rw [hn]; exact hin) (by omega) w hS)
  have hT : zs.take (k + 1) = zs := by rw [← hk, hn, List.take_length]
  rw [hT] at hX
  have hk8 : k < 8 := by omega
  subst hk
  clear hn hv hS h1 hin hT h8
  go_enter Tryz.func92, Tryz.ntmps92
  go_wp2_with fail
  refine hX.out.mono ?_
  rintro e w1 ⟨rfl, hB⟩
  go_wp2_with fail
  go_ret
  exact ⟨rfl, hB⟩

attribute [local go_sem] Oper.semAt_some
theorem cell_far {W : World} {a p : Addr} {u : Value} (h : p.block ≠ a.block) : (W.setCell a u).cell? p = W.cell? p := World.cell?_of_block (Below.heap_setCell W a u p.block h)
theorem oct_get (d0 d1 d2 d3 d4 d5 d6 d7 : Int) (k : Nat) (hk : k < 8) : ([Value.int .u8 d0, .int .u8 d1, .int .u8 d2, .int .u8 d3, .int .u8 d4, .int .u8 d5, .int .u8 d6, .int .u8 d7] : List Value)[k]? = some (.int .u8 (([d0, d1, d2, d3, d4, d5, d6, d7] : List Int)[k]?.getD 0)) := by
  have h : k = 0 ∨ k = 1 ∨ k = 2 ∨ k = 3 ∨ k = 4 ∨ k = 5 ∨ k = 6 ∨ k = 7 := by omega
  rcases h with rfl | rfl | rfl | rfl | rfl | rfl | rfl | rfl <;> rfl

set_option maxRecDepth 100000 in
set_option maxHeartbeats 4000000 in
/-- impl.value: the sum of each digit times its place -/
theorem value_in (F : Fence) (m : Nat) (hf1 : F.fn 31) (hf2 : F.fn 46) (hf3 : F.fn 68) (hro : F.round = none) (hm : 3 ≤ m)
    (b n cap : Nat) (zs : List Int) (hn : n = zs.length) (h8 : n ≤ 8) (hin : inB zs n) (d0 d1 d2 d3 d4 d5 d6 d7 : Int) (ho : Oct d0 d1 d2 d3 d4 d5 d6 d7) (w : World) (hS : Stk w b zs) :
    CallsIn F m Tryz.prog 31 #[.slice (some ⟨b, 0, none⟩) n cap, .agg #[.int .u8 d0, .int .u8 d1, .int .u8 d2, .int .u8 d3, .int .u8 d4, .int .u8 d5, .int .u8 d6, .int .u8 d7]] w fun e W' => e = .returned (.int .i64 (vfold zs [d0, d1, d2, d3, d4, d5, d6, d7] (List.finRange n))) ∧ Below w.heap.size w W' := by
  have h1 : 1 ≤ m := by omega
  have hlt := hS.1
  have hC := hid hS.2.1
  have hI := hid hin
  have hN := hid hn
  have hO := hid (fun k hk => oct_bd ho k hk)
  clear hS hin hn ho
  refine callsIn_of_wp_marks Tryz.func31 rfl hf1 ?_ hro
  simp only [Tryz.ntmps31, List.size_toArray, List.length_cons, List.length_nil, Nat.reduceAdd, Nat.reduceSub, Array.replicate_succ, Array.replicate_zero, List.push_toArray, List.append_toArray, List.nil_append, List.cons_append]
  gi_wp2_with (gi_at_call 46; refine (places_in F (m - 1) hf2 hro _ _ _ _).mono ?_; rintro e w' ⟨rfl, rfl⟩)
  have rD := Row.new w 39 [.int .u8 d0, .int .u8 d1, .int .u8 d2, .int .u8 d3, .int .u8 d4, .int .u8 d5, .int .u8 d6, .int .u8 d7]
  have bR := Boxed.new (w.alloc (.cells #[.int .u8 d0, .int .u8 d1, .int .u8 d2, .int .u8 d3, .int .u8 d4, .int .u8 d5, .int .u8 d6, .int .u8 d7] 39)) 2 (.int .i64 0)
  have bN := Boxed.new ((w.alloc (.cells #[.int .u8 d0, .int .u8 d1, .int .u8 d2, .int .u8 d3, .int .u8 d4, .int .u8 d5, .int .u8 d6, .int .u8 d7] 39)).alloc (.cells #[.int .i64 0] 2)) 26 (.slice (some ⟨b, 0, none⟩) n cap)
  rw [World.size_alloc] at bR
  rw [World.size_alloc, World.size_alloc] at bN
  have hB0 : Below w.heap.size w (((w.alloc (.cells #[.int .u8 d0, .int .u8 d1, .int .u8 d2, .int .u8 d3, .int .u8 d4, .int .u8 d5, .int .u8 d6, .int .u8 d7] 39)).alloc (.cells #[.int .i64 0] 2)).alloc (.cells #[.slice (some ⟨b, 0, none⟩) n cap] 26)) := (((Below.refl _ w).alloc (Nat.le_refl _) _).alloc (by simp) _).alloc (by simp; omega) _
  refine wpIn_rangeFunc_ownG hro h1 (gf := 68) (lb := #[.pointer (some ⟨w.heap.size + 1 + 1, 0, none⟩)]) rfl hf3 (enters_of Tryz.func68 (by kernel_rfl) rfl)
    (places_stops F (m - 1) hf3 hro (by omega) (w.heap.size + 1 + 1) w.heap.size b n cap zs hN.out h8 hI.out _ (by simp) (by simp; omega) hlt bN.cell (fun j hj => (hB0.cell (p := ⟨b, j, none⟩) hlt).trans (hC.out j (by rw [← hN.out]; exact hj)))) belowK_t (belowK_b (by simp; omega)) (Below.refl _ _) (fun _ => rfl)
    (fun pre W => ((∀ j, j < 8 → W.cell? ⟨w.heap.size, j, none⟩ = some (.int .u8 (([d0, d1, d2, d3, d4, d5, d6, d7] : List Int)[j]?.getD 0))) ∧ (W.cell? ⟨w.heap.size + 1, 0, none⟩ = some (.int .i64 (vfold zs [d0, d1, d2, d3, d4, d5, d6, d7] pre)) ∧ W.frozen? ⟨w.heap.size + 1, 0, none⟩ = false)) ∧ Below w.heap.size w W)
    (fun _ _ _ => False)
    (OwnFrom.and (Own.from (fun s A B row hs hg hr => ⟨fun j hj => cell_kept (hs.1 j hj) hg hr, cell_kept hs.2.1 hg hr, (frozen_kept hs.2.1 hg hr).trans hs.2.2⟩) _) (ownFrom_below (Nat.le_refl _) (by simp; omega)))
    (fun _ _ _ _ _ hs _ _ => hs)
    ⟨⟨fun j hj => (((rD.alloc _).alloc _).cell j).trans (oct_get d0 d1 d2 d3 d4 d5 d6 d7 j hj), (bR.alloc _).cell, (bR.alloc _).frozen⟩, hB0⟩
    (fun x => { tmps := #[.slice (some ⟨b, 0, none⟩) n cap, .agg #[.int .u8 d0, .int .u8 d1, .int .u8 d2, .int .u8 d3, .int .u8 d4, .int .u8 d5, .int .u8 d6, .int .u8 d7], undef, .pointer (some ⟨w.heap.size, 0, none⟩), .int .i64 0, .pointer (some ⟨w.heap.size + 1, 0, none⟩), .int .i64 (x.1 : Int), .int .i64 (szL (zs.take x.1)), .slice (some ⟨b, 0, none⟩) n cap, .func (.func 68) #[] #[.pointer (some ⟨w.heap.size + 1 + 1, 0, none⟩)], .int .i64 (x.1 : Int), .int .i64 (szL (zs.take x.1)), undef, undef, undef, undef, undef, undef, undef, undef, undef], defers := [] }) ?assign ?body ?done ?stop
  case assign =>
    intro l x W K hK
    gi_wp2
    exact hK
  case body =>
    rintro l pre x W ⟨⟨hd, hcr, hfr⟩, hB⟩ _
    have hk := x.2
    have hdx := hd x.1 (by omega)
    have hdb := hO.out x.1 (by omega)
    obtain ⟨s1, s2, _, _⟩ := szL_step zs x.1 (by rw [← hN.out]; exact hk) (by rw [← hN.out]; exact h8) (fun j hj => hI.out j (by omega))
    have HV := hid (vfold_snoc zs [d0, d1, d2, d3, d4, d5, d6, d7] pre x)
    have hD := hid hd
    clear hd
    obtain ⟨d, hd⟩ : ∃ d, d = ([d0, d1, d2, d3, d4, d5, d6, d7] : List Int)[x.1]?.getD 0 := ⟨_, rfl⟩
    obtain ⟨p, hp⟩ : ∃ p, p = szL (zs.take x.1) := ⟨_, rfl⟩
    obtain ⟨s, hs⟩ : ∃ s, s = vfold zs [d0, d1, d2, d3, d4, d5, d6, d7] pre := ⟨_, rfl⟩
    rw [← hd, ← hp, ← hs] at HV
    rw [← hd] at hdx hdb
    rw [← hp] at s1 s2
    rw [← hs] at hcr
    rw [← hp]
    clear hd hp hs
    have q1 : 0 ≤ d * p := Int.mul_nonneg (by omega) (by omega)
    have q2 : d * p ≤ 255 * 10000000000000000 := Int.mul_le_mul hdb.2 s2 (by omega) (by omega)
    gi_wp2
    have e1 : IntKind.i64.wrap d = d := IntWalk.i64_in _ (by omega)
    have e2 : IntKind.i64.wrap (d * p) = d * p := IntWalk.i64_in _ (by omega)
    have HW : Hid (IntKind.i64.wrap (s + IntKind.i64.wrap (IntKind.i64.wrap d * p)) = vfold zs [d0, d1, d2, d3, d4, d5, d6, d7] (pre ++ [x])) := by
      rw [e1, e2, HV.out, IntKind.wrap_i64]; exact hid (by unfold wrap64; omega)
    clear e1 e2
    gi_region
    all_goals
      exact ⟨((KeepsOthers.setCell _ _ _).trans (KeepsOthers.drew _)).from _, ((Below.refl w.heap.size W).setCell (p := ⟨w.heap.size + 1, 0, none⟩) (by show _ ≤ w.heap.size + 1; omega) _).drew,
        ⟨fun j hj => (cell_far (by show w.heap.size ≠ w.heap.size + 1; omega)).trans (hD.out j hj), by rw [World.cell?_drew, World.cell?_setCell_same' _ _ _ (by rw [hcr]; rfl), HW.out], by rw [World.frozen?_drew, World.frozen?_setCell]; exact hfr⟩, (hB.setCell (p := ⟨w.heap.size + 1, 0, none⟩) (by show _ ≤ w.heap.size + 1; omega) _).drew⟩
  case done =>
    rintro D ys W hD rfl ⟨⟨_, hc, _⟩, hB⟩ hK
    gi_wp2
    refine ⟨by simp, .inl ⟨_, _, rfl, run_takeDeferred hK, ?_⟩⟩
    exact ⟨_, results_tmp rfl _ _ _, rfl, hB.trans (belowK_b (w := w) (Nat.le_refl _) W D _ _ (by simp at hD; omega) hK rfl rfl)⟩
  case stop =>
    rintro D c pre W _ _ h _
    exact h.elim
end Go.Proofs.YtcanfcpofihoeaaGreatDoor

namespace Go.Proofs.YtcanfcpofihoeaaGreatDoor
open Go.RowKit
theorem ediv_neg_of (m c : Int) (hc : 1 ≤ c) : (-m) / c = if m % c = 0 then -(m / c) else -(m / c) - 1 := by
  have hm := Int.emod_add_mul_ediv m c
  have h0 := Int.emod_nonneg m (show c ≠ 0 by omega)
  have h1 := Int.emod_lt_of_pos m (show 0 < c by omega)
  split
  · next h =>
    exact ((Int.ediv_emod_unique (r := 0) (show 0 < c by omega)).2 ⟨by rw [Int.mul_neg]; omega, Int.le_refl _, by omega⟩).1
  · next h =>
    exact ((Int.ediv_emod_unique (r := c - m % c) (show 0 < c by omega)).2 ⟨by rw [Int.mul_sub, Int.mul_neg]; omega, by omega, by omega⟩).1

end Go.Proofs.YtcanfcpofihoeaaGreatDoor

namespace Go.Proofs.YtcanfcpofihoeaaGreatDoor
open Go.RowKit

theorem gcdFlip (a b : Nat) : Nat.gcd b (a % b) = Nat.gcd a b := by rw [Nat.gcd_comm a b, Nat.gcd_rec b a]; exact Nat.gcd_comm _ _
/-- the greatest common divisor of two numbers of at least 0 -/
def gcdI (a b : Int) : Int := (Nat.gcd a.toNat b.toNat : Nat)
theorem gcdI_nat (m n : Nat) : gcdI (m : Int) (n : Int) = ((Nat.gcd m n : Nat) : Int) := rfl
theorem gcdI_flip (a b : Int) (ha : 0 ≤ a) (hb : 0 ≤ b) : gcdI b (a % b) = gcdI a b := by
  obtain ⟨m, rfl⟩ := Int.eq_ofNat_of_zero_le ha
  obtain ⟨n, rfl⟩ := Int.eq_ofNat_of_zero_le hb
  rw [show ((m : Int) % (n : Int)) = ((m % n : Nat) : Int) from rfl, gcdI_nat, gcdI_nat, gcdFlip]
theorem gcdI_zero (a : Int) (ha : 0 ≤ a) : gcdI a 0 = a := by
  obtain ⟨m, rfl⟩ := Int.eq_ofNat_of_zero_le ha
  have : gcdI (m : Int) ((0 : Nat) : Int) = (m : Int) := by rw [gcdI_nat, Nat.gcd_zero_right]
  exact this
def okR (p q : Int) : Bool := decide (1 ≤ p ∧ p ≤ 1000000000 ∧ 1 ≤ q ∧ q ≤ 1000000000 ∧ gcdI p q = 1)
theorem okR_out {p q : Int} (h : okR p q = true) : 1 ≤ p ∧ p ≤ 1000000000 ∧ 1 ≤ q ∧ q ≤ 1000000000 ∧ gcdI p q = 1 := by simpa [okR] using h
theorem okR_pl {p q : Int} (h : p < 1) : okR p q = false := by simp only [okR, decide_eq_false_iff_not]; omega
theorem okR_ql {p q : Int} (h : q < 1) : okR p q = false := by simp only [okR, decide_eq_false_iff_not]; omega
theorem okR_ph {p q : Int} (h : 1000000000 < p) : okR p q = false := by simp only [okR, decide_eq_false_iff_not]; omega
theorem okR_qh {p q : Int} (h : 1000000000 < q) : okR p q = false := by simp only [okR, decide_eq_false_iff_not]; omega
theorem okR_mid {p q : Int} (h1 : 1 ≤ p) (h2 : p ≤ 1000000000) (h3 : 1 ≤ q) (h4 : q ≤ 1000000000) : okR p q = decide (gcdI p q = 1) := by simp [okR, h1, h2, h3, h4]
def redP (p q : Int) : Int := p / gcdI p q
def redQ (p q : Int) : Int := q / gcdI p q

/-- the facts on a ratio without common divisors, in whole numbers of at least 0 -/
theorem nat_red (m n : Nat) (hm : 0 < m) : 0 < Nat.gcd m n ∧ Nat.gcd m n ≤ m ∧ m / Nat.gcd m n * Nat.gcd m n = m ∧ n / Nat.gcd m n * Nat.gcd m n = n ∧ 0 < m / Nat.gcd m n ∧ (m / Nat.gcd m n).gcd (n / Nat.gcd m n) = 1 := by
  have g0 : 0 < Nat.gcd m n := Nat.gcd_pos_of_pos_left n hm
  have h1 := Nat.div_mul_cancel (Nat.gcd_dvd_left m n)
  have h2 := Nat.div_mul_cancel (Nat.gcd_dvd_right m n)
  have h3 := Nat.coprime_div_gcd_div_gcd g0
  have h4 := Nat.gcd_le_left n hm
  refine ⟨g0, h4, h1, h2, ?_, h3⟩
  exact Nat.div_pos h4 g0
theorem toI (p : Int) (h : 1 ≤ p) : ∃ m : Nat, p = (m : Int) ∧ 0 < m := by
  obtain ⟨m, rfl⟩ := Int.eq_ofNat_of_zero_le (show 0 ≤ p by omega)
  exact ⟨m, rfl, by omega⟩
theorem redP_nat (m n : Nat) : redP (m : Int) (n : Int) = ((m / Nat.gcd m n : Nat) : Int) := rfl
theorem redQ_nat (m n : Nat) : redQ (m : Int) (n : Int) = ((n / Nat.gcd m n : Nat) : Int) := rfl
theorem red_bd {p q : Int} (hp : 1 ≤ p) (hq : 1 ≤ q) : 1 ≤ gcdI p q ∧ gcdI p q ≤ p ∧ gcdI p q ≤ q ∧ 1 ≤ redP p q ∧ redP p q ≤ p ∧ 1 ≤ redQ p q ∧ redQ p q ≤ q ∧ gcdI (redP p q) (redQ p q) = 1 ∧ redP p q * q = redQ p q * p := by
  obtain ⟨m, rfl, hm⟩ := toI p hp
  obtain ⟨n, rfl, hn⟩ := toI q hq
  rw [redP_nat, redQ_nat, gcdI_nat, gcdI_nat]
  obtain ⟨g0, g1, e1, e2, p1, c⟩ := nat_red m n hm
  have q1 : 0 < n / Nat.gcd m n := Nat.div_pos (Nat.le_of_dvd hn (Nat.gcd_dvd_right m n)) g0
  have g2 : Nat.gcd m n ≤ n := Nat.le_of_dvd hn (Nat.gcd_dvd_right m n)
  have d1 := Nat.div_le_self m (Nat.gcd m n)
  have d2 := Nat.div_le_self n (Nat.gcd m n)
  refine ⟨by omega, by omega, by omega, by omega, by omega, by omega, by omega, by rw [c]; rfl, ?_⟩
  have : m / Nat.gcd m n * n = n / Nat.gcd m n * m := by
    obtain ⟨G, hG⟩ : ∃ G, G = Nat.gcd m n := ⟨_, rfl⟩
    obtain ⟨X, hX⟩ : ∃ X, X = m / G := ⟨_, rfl⟩
    obtain ⟨Y, hY⟩ : ∃ Y, Y = n / G := ⟨_, rfl⟩
    rw [← hG, ← hX] at e1
    rw [← hG, ← hY] at e2
    rw [← hG, ← hX, ← hY, ← e1, ← e2]
    ac_rfl
  exact_mod_cast this
/-- a ratio has one form without common divisors -/
theorem red_one {x y P Q : Int} (hx : 1 ≤ x) (hy : 1 ≤ y) (hP : 1 ≤ P) (hQ : 1 ≤ Q) (c : gcdI x y = 1) (e : x * Q = y * P) : redP P Q = x ∧ redQ P Q = y := by
  obtain ⟨x, rfl, hx'⟩ := toI x hx
  obtain ⟨y, rfl, hy'⟩ := toI y hy
  obtain ⟨P, rfl, hP'⟩ := toI P hP
  obtain ⟨Q, rfl, hQ'⟩ := toI Q hQ
  rw [redP_nat, redQ_nat]
  rw [gcdI_nat] at c
  have c' : Nat.Coprime x y := by have : ((Nat.gcd x y : Nat) : Int) = ((1 : Nat) : Int) := c; exact Int.ofNat_inj.1 this
  have e' : x * Q = y * P := by exact_mod_cast e
  have dx : x ∣ P := by
    have : x ∣ P * y := ⟨Q, by rw [Nat.mul_comm P y]; exact e'.symm⟩
    exact Nat.Coprime.dvd_of_dvd_mul_right c' this
  obtain ⟨k, rfl⟩ := dx
  have : Q = y * k := by
    have : x * Q = x * (y * k) := by rw [e']; simp only [Nat.mul_left_comm]
    exact Nat.eq_of_mul_eq_mul_left hx' this
  subst this
  have hk : 0 < k := by
    cases k with
    | zero => simp at hP'
    | succ k => omega
  have g : Nat.gcd (x * k) (y * k) = k := by rw [Nat.gcd_mul_right, c'.gcd_eq_one, Nat.one_mul]
  rw [g, Nat.mul_div_cancel _ hk, Nat.mul_div_cancel _ hk]
  exact ⟨rfl, rfl⟩
theorem red_self {p q : Int} (hp : 1 ≤ p) (hq : 1 ≤ q) (c : gcdI p q = 1) : redP p q = p ∧ redQ p q = q := red_one hp hq hp hq c (Int.mul_comm p q)
/-- common divisors across two ratios without any are all that the product has -/
theorem cross_one {p q u v : Int} (hp : 1 ≤ p) (hq : 1 ≤ q) (hu : 1 ≤ u) (hv : 1 ≤ v) (c1 : gcdI p q = 1) (c2 : gcdI u v = 1) :
    gcdI (redP p v * redP u q) (redQ u q * redQ p v) = 1 := by
  obtain ⟨p, rfl, hp'⟩ := toI p hp
  obtain ⟨q, rfl, hq'⟩ := toI q hq
  obtain ⟨u, rfl, hu'⟩ := toI u hu
  obtain ⟨v, rfl, hv'⟩ := toI v hv
  rw [gcdI_nat] at c1 c2
  have k1 : Nat.Coprime p q := Int.ofNat_inj.1 (show ((Nat.gcd p q : Nat) : Int) = ((1 : Nat) : Int) from c1)
  have k2 : Nat.Coprime u v := Int.ofNat_inj.1 (show ((Nat.gcd u v : Nat) : Int) = ((1 : Nat) : Int) from c2)
  rw [redP_nat, redP_nat, redQ_nat, redQ_nat]
  have a1 := (nat_red p v hp').2.2.2.2.2
  have a2 := (nat_red u q hu').2.2.2.2.2
  have b1 : Nat.Coprime (p / Nat.gcd p v) (q / Nat.gcd u q) := (k1.coprime_dvd_left (Nat.div_dvd_of_dvd (Nat.gcd_dvd_left p v))).coprime_dvd_right (Nat.div_dvd_of_dvd (Nat.gcd_dvd_right u q))
  have b2 : Nat.Coprime (u / Nat.gcd u q) (v / Nat.gcd p v) := (k2.coprime_dvd_left (Nat.div_dvd_of_dvd (Nat.gcd_dvd_left u q))).coprime_dvd_right (Nat.div_dvd_of_dvd (Nat.gcd_dvd_right p v))
  have : Nat.Coprime (p / Nat.gcd p v * (u / Nat.gcd u q)) (q / Nat.gcd u q * (v / Nat.gcd p v)) :=
    Nat.Coprime.mul_left (Nat.Coprime.mul_right b1 a1) (Nat.Coprime.mul_right a2 b2)
  rw [← Int.natCast_mul, ← Int.natCast_mul, gcdI_nat, this.gcd_eq_one]
  rfl
theorem mul_bd {a b A B : Int} (h1 : 1 ≤ a) (h2 : a ≤ A) (h3 : 1 ≤ b) (h4 : b ≤ B) : 1 ≤ a * b ∧ a * b ≤ A * B := by
  have x := Int.mul_le_mul h1 h3 (by omega) (by omega)
  have y := Int.mul_le_mul h2 h4 (by omega) (by omega)
  omega
theorem cross_eq {p q a b x x' y y' s s' t t' : Int} (h1 : 1 ≤ x') (h2 : 1 ≤ y') (se : s * y' = s' * x) (te : t * x' = t' * y) (xe : x * q = x' * p) (ye : y * b = y' * a) : (s * t) * (q * b) = (t' * s') * (p * a) := by
  have hz : (0 : Int) < x' * y' := Int.mul_pos (by omega) (by omega)
  apply Int.eq_of_mul_eq_mul_left (Int.ne_of_gt hz)
  calc (x' * y') * ((s * t) * (q * b)) = (s * y') * (t * x') * (q * b) := by ac_rfl
    _ = (s' * x) * (t' * y) * (q * b) := by rw [se, te]
    _ = (s' * t') * (x * q) * (y * b) := by ac_rfl
    _ = (s' * t') * (x' * p) * (y' * a) := by rw [xe, ye]
    _ = (x' * y') * ((t' * s') * (p * a)) := by ac_rfl
/-- the product of a ratio without common divisors and one more, by their numbers -/
theorem times_red {p q a b : Int} (hp : 1 ≤ p) (hq : 1 ≤ q) (ha : 1 ≤ a) (hb : 1 ≤ b) :
    redP (redP p q) (redQ a b) * redP (redP a b) (redQ p q) = redP (p * a) (q * b) ∧ redQ (redP a b) (redQ p q) * redQ (redP p q) (redQ a b) = redQ (p * a) (q * b) := by
  obtain ⟨_, _, _, x1, _, x2, _, xc, xe⟩ := red_bd hp hq
  obtain ⟨_, _, _, y1, _, y2, _, yc, ye⟩ := red_bd ha hb
  have C := cross_one x1 x2 y1 y2 xc yc
  obtain ⟨_, _, _, s1, _, s2, _, _, se⟩ := red_bd x1 y2
  obtain ⟨_, _, _, t1, _, t2, _, _, te⟩ := red_bd y1 x2
  have b1 := mul_bd s1 (Int.le_refl _) t1 (Int.le_refl _)
  have b2 := mul_bd t2 (Int.le_refl _) s2 (Int.le_refl _)
  have b3 := mul_bd hp (Int.le_refl _) ha (Int.le_refl _)
  have b4 := mul_bd hq (Int.le_refl _) hb (Int.le_refl _)
  have R := red_one b1.1 b2.1 b3.1 b4.1 C (cross_eq x2 y2 se te xe ye)
  exact ⟨R.1.symm, R.2.symm⟩
end Go.Proofs.YtcanfcpofihoeaaGreatDoor

namespace Go.Proofs.YtcanfcpofihoeaaGreatDoor
open Go.RowKit

def QuietR (w : World) (v : Value) (e : Ending) (w' : World) : Prop := e = .returned v ∧ ∃ d, w' = w.drewN d
theorem gcd_step (m n : Int) (hm : 0 ≤ m) (hn : 1 ≤ n) : ∃ r, m.tmod n = r ∧ 0 ≤ r ∧ r < n ∧ r ≤ m ∧ gcdI n r = gcdI m n := by
  refine ⟨m % n, Int.tmod_eq_emod_of_nonneg hm, Int.emod_nonneg _ (by omega), Int.emod_lt_of_pos _ (by omega), ?_, gcdI_flip m n hm (by omega)⟩
  have e := Int.mul_ediv_add_emod m n
  have q := Int.ediv_nonneg hm (show 0 ≤ n by omega)
  have := Int.mul_nonneg (show 0 ≤ n by omega) q
  omega
/-- a value is returned, and what was there before is as it was -/
def GivesB (w : World) (v : Value) (e : Ending) (w' : World) : Prop := e = .returned v ∧ Below w.heap.size w w'
theorem Row.drewN {w : World} {g : Nat} {e : TypeId} {xs : List Value} (h : Row w g e xs) (d : Nat) : Row (w.drewN d) g e xs := h
/-- a fresh pair of numbers into which two have been stored -/
theorem pair_stored (w : World) (T : TypeId) (a b x y : Value) (d : Nat) : ∀ W, W = ((((w.alloc (.cells #[a, b] T)).drewN d).setCell ⟨w.heap.size, 0, none⟩ x).setCell ⟨w.heap.size, 1, none⟩ y) →
    Row W w.heap.size T [x, y] ∧ Below w.heap.size w W ∧ W.heap.size = w.heap.size + 1 := by
  rintro W rfl
  have bel : Below w.heap.size w (w.alloc (.cells #[a, b] T)) := (Below.refl _ w).alloc (Nat.le_refl _) _
  refine ⟨(((Row.new w T [a, b]).drewN d).set 0 x).set 1 y, ((below_drewN bel d).setCell (p := ⟨w.heap.size, 0, none⟩) (Nat.le_refl _) x).setCell (p := ⟨w.heap.size, 1, none⟩) (Nat.le_refl _) y, by simp⟩
def I64 (n : Int) : Prop := -9223372036854775808 ≤ n ∧ n ≤ 9223372036854775807
theorem box2_bel (w : World) (T : TypeId) (x y : Value) : Below w.heap.size w (w.alloc (.cells #[x, y] T)) := (Below.refl _ w).alloc (Nat.le_refl _) _
end Go.Proofs.YtcanfcpofihoeaaGreatDoor

namespace Go.Proofs.YtcanfcpofihoeaaGreatDoor
open Go.ChangeShapes Go.WideShapes Go.ChangeAt Go.RowKit
theorem wf64 {n : Int} (h : (Lit.int .i64 n).wf = true) : I64 n := by
  simp only [Lit.wf, Bool.and_eq_true, decide_eq_true_eq] at h
  exact ⟨h.1, h.2⟩
section
variable {H : Type} {enc : TypeId × Value → H} {P : Program} {W : World}
theorem open_ratio {r : Reach} {b0 : Nat} {t : TypeId} {f0 f1 : Field} {v : Value} {d : DataW H} {p : List MemPlace} (hs : P.underlying t = some (.struct #[f0, f1])) (hone : Go.Deep.oneCellFields P #[f0, f1] = true) (hC : P.cellsOf t = 2)
    (k0 : P.underlying f0.type = some (.int .i64)) (k1 : P.underlying f1.type = some (.int .i64))
    (hv : Value.okWide P W r b0 t v) (h : DataW.Trod enc P W 0 (fun _ => true) true t v d p) :
    ∃ x y : Int, v = .agg #[.int .i64 x, .int .i64 y] ∧ I64 x ∧ I64 y := by
  obtain ⟨v0, v1, y0, y1, n, rfl, _, _, g0, g1⟩ := Go.Joins.open_agg2 hs hone hC hv h
  obtain ⟨z0, e0, _, w0⟩ := DataW.trod_int k0 g0
  obtain ⟨z1, e1, _, w1⟩ := DataW.trod_int k1 g1
  simp only [List.cons.injEq, and_true] at e0 e1
  subst e0 e1
  exact ⟨z0, z1, rfl, wf64 w0, wf64 w1⟩
end
end Go.Proofs.YtcanfcpofihoeaaGreatDoor

namespace Go.Proofs.YtcanfcpofihoeaaGreatDoor
open Go.RowKit

/-- an interval: a reading and a later one -/
def ivV (a u b v : Int) : Value := .agg #[.int .i64 a, .int .i64 u, .int .i64 b, .int .i64 v]
theorem box4_bel (w : World) (T : TypeId) (x y z u : Value) : Below w.heap.size w (w.alloc (.cells #[x, y, z, u] T)) := (Below.refl _ w).alloc (Nat.le_refl _) _
theorem days_any (a u b v : Int) (h : -9000000000000000000 ≤ b - a ∧ b - a ≤ 9000000000000000000) (w : World) :
    Calls Tryz.prog 49 #[.agg #[.int .i64 a, .int .i64 u, .int .i64 b, .int .i64 v]] w (GivesB w (.int .i64 (b - a))) := by
  have bel := hid (box4_bel w 88 (.int .i64 a) (.int .i64 u) (.int .i64 b) (.int .i64 v))
  go_enter Tryz.func49, Tryz.ntmps49
  go_wp2
  go_ret
  exact ⟨rfl, bel.out⟩
end Go.Proofs.YtcanfcpofihoeaaGreatDoor

namespace Go.Proofs.YtcanfcpofihoeaaGreatDoor
open Go.RowKit
theorem bel_step {W w w' : World} (h : Below W.heap.size W w) (hB : Below w.heap.size w w') : Below W.heap.size W w' := h.trans (hB.mono h.size)
def tup2 (x y : Int) : Value := .tuple #[.int .i64 x, .int .i64 y]
/-- an interval's box and a flow's -/
theorem ivfl_boxes (w : World) (T T' : TypeId) (a b c d x y : Value) : ∀ W, W = ((w.alloc (.cells #[a, b, c, d] T)).alloc (.cells #[x, y] T')) →
    Row W w.heap.size T [a, b, c, d] ∧ Row W (w.heap.size + 1) T' [x, y] ∧ Below w.heap.size w W ∧ W.heap.size = w.heap.size + 1 + 1 := by
  rintro W rfl
  have h := Row.new (w.alloc (.cells #[a, b, c, d] T)) T' [x, y]
  simp only [World.size_alloc] at h
  exact ⟨(Row.new w T [a, b, c, d]).alloc _, h, (box4_bel w T a b c d).alloc (by simp) _, by simp⟩
theorem mul_small (x d : Int) (hx : 0 ≤ x ∧ x ≤ 1000000) (hd : 0 ≤ d ∧ d ≤ 100000) : 0 ≤ x * d ∧ x * d ≤ 100000000000 := by
  have := Int.mul_nonneg hx.1 hd.1
  have h1 := Int.mul_le_mul_of_nonneg_right hx.2 hd.1
  have h2 := Int.mul_le_mul_of_nonneg_left hd.2 (show (0 : Int) ≤ 1000000 by omega)
  omega
theorem okF_low {lo hi : Int} (h : lo < 0) : okF lo hi = false := by simp [okF]; omega
theorem okF_mid {lo hi : Int} (h : hi < lo) : okF lo hi = false := by simp [okF]; omega
theorem okF_high {lo hi : Int} (h : 1000000 < hi) : okF lo hi = false := by simp [okF]; omega
theorem okF_yes {lo hi : Int} (h1 : 0 ≤ lo) (h2 : lo ≤ hi) (h3 : hi ≤ 1000000) : okF lo hi = true := by simp [okF]; omega
theorem okF_out {lo hi : Int} (h : okF lo hi = true) : 0 ≤ lo ∧ lo ≤ hi ∧ hi ≤ 1000000 := by simpa [okF] using h
theorem hasValue_any (bS n cap : Nat) (zs : List Int) (hn : n = zs.length) (hv : okL zs = true) (x : Int) (w : World) (hS : Stk w bS zs) :
    Calls Tryz.prog 69 #[.slice (some ⟨bS, 0, none⟩) n cap, .int .i64 x] w (GivesB w (.bool (decide (0 ≤ x ∧ x < szL zs)))) := by
  have Z := hid (size_any bS n cap zs hn hv w hS)
  obtain ⟨_, _, _, z1, z2⟩ := okL_out hv
  obtain ⟨z, hz⟩ : ∃ z, szL zs = z := ⟨_, rfl⟩
  rw [hz] at Z z1 z2 ⊢
  clear hz hv hn hS
  by_cases h1 : x < 0
  · rw [decide_eq_false (by omega)]
    go_enter Tryz.func69, Tryz.ntmps69
    go_wp2_with fail
    go_ret
    exact ⟨rfl, Below.refl _ _⟩
  by_cases h2 : x < z
  · rw [decide_eq_true (by omega)]
    go_enter Tryz.func69, Tryz.ntmps69
    go_wp2_with fail
    refine Z.out.mono ?_
    rintro e w1 ⟨rfl, hB⟩
    go_wp2_with fail
    go_ret
    exact ⟨rfl, hB⟩
  · rw [decide_eq_false (by omega)]
    go_enter Tryz.func69, Tryz.ntmps69
    go_wp2_with fail
    refine Z.out.mono ?_
    rintro e w1 ⟨rfl, hB⟩
    go_wp2_with fail
    go_ret
    exact ⟨by show Ending.returned (.bool (decide (x < z))) = _; rw [decide_eq_false (by omega)], hB⟩
theorem okRd_low {z d v : Int} (h : d < 0) : okRd z d v = false := by simp [okRd]; omega
theorem okRd_high {z d v : Int} (h : 100000 < d) : okRd z d v = false := by simp [okRd]; omega
theorem okRd_val {z d v : Int} (h1 : 0 ≤ d) (h2 : d ≤ 100000) : okRd z d v = decide (0 ≤ v ∧ v < z) := by simp [okRd, h1, h2]
theorem okRd_out {z d v : Int} (h : okRd z d v = true) : 0 ≤ d ∧ d ≤ 100000 ∧ 0 ≤ v ∧ v < z := by simpa [okRd] using h
theorem hasReading_any (bS n cap : Nat) (zs : List Int) (hn : n = zs.length) (hv : okL zs = true) (d x : Int) (w : World) (hS : Stk w bS zs) :
    Calls Tryz.prog 47 #[.slice (some ⟨bS, 0, none⟩) n cap, .agg #[.int .i64 d, .int .i64 x]] w (GivesB w (.bool (okRd (szL zs) d x))) := by
  have bel := hid (box2_bel w 44 (.int .i64 d) (.int .i64 x))
  by_cases h1 : d < 0
  · rw [okRd_low h1]
    go_enter Tryz.func47, Tryz.ntmps47
    go_wp2_with fail
    go_ret
    exact ⟨rfl, bel.out⟩
  by_cases h2 : 100000 < d
  · rw [okRd_high h2]
    go_enter Tryz.func47, Tryz.ntmps47
    go_wp2_with fail
    go_ret
    exact ⟨rfl, bel.out⟩
  rw [okRd_val (by omega) (by omega)]
  have HV := hid (hasValue_any bS n cap zs hn hv x _ (hS.below bel.out hS.1))
  obtain ⟨r, hr⟩ : ∃ r, decide (0 ≤ x ∧ x < szL zs) = r := ⟨_, rfl⟩
  rw [hr] at HV ⊢
  clear hr hv hn hS
  go_enter Tryz.func47, Tryz.ntmps47
  go_wp2_with fail
  refine HV.out.mono ?_
  rintro e w1 ⟨rfl, hB⟩
  have b1 := hid (bel.out.trans (hB.mono (by simp)))
  clear hB
  go_wp2_with fail
  go_ret
  exact ⟨rfl, b1.out⟩
end Go.Proofs.YtcanfcpofihoeaaGreatDoor

namespace Go.Proofs.YtcanfcpofihoeaaGreatDoor
open Go.RowKit
def codeP (zs : List Int) (a u b v lo hi : Int) : Int := if okL zs && (okRd (szL zs) a u && (okRd (szL zs) b v && okF lo hi)) then (if b ≤ a then 2 else 0) else 1
theorem codeP_1 {zs : List Int} {a u b v lo hi : Int} (h : okL zs = false) : codeP zs a u b v lo hi = 1 := by simp [codeP, h]
theorem codeP_2 {zs : List Int} {a u b v lo hi : Int} (h : okRd (szL zs) a u = false) : codeP zs a u b v lo hi = 1 := by simp [codeP, h]
theorem codeP_3 {zs : List Int} {a u b v lo hi : Int} (h : okRd (szL zs) b v = false) : codeP zs a u b v lo hi = 1 := by simp [codeP, h]
theorem codeP_4 {zs : List Int} {a u b v lo hi : Int} (h : okF lo hi = false) : codeP zs a u b v lo hi = 1 := by simp [codeP, h]
theorem codeP_5 {zs : List Int} {a u b v lo hi : Int} (h1 : okL zs = true) (h2 : okRd (szL zs) a u = true) (h3 : okRd (szL zs) b v = true) (h4 : okF lo hi = true) (h : b ≤ a) : codeP zs a u b v lo hi = 2 := by simp [codeP, h1, h2, h3, h4, h]
theorem codeP_6 {zs : List Int} {a u b v lo hi : Int} (h1 : okL zs = true) (h2 : okRd (szL zs) a u = true) (h3 : okRd (szL zs) b v = true) (h4 : okF lo hi = true) (h : a < b) : codeP zs a u b v lo hi = 0 := by
  have : ¬ b ≤ a := by omega
  simp [codeP, h1, h2, h3, h4, this]
theorem codeP_out {zs : List Int} {a u b v lo hi : Int} (h : codeP zs a u b v lo hi = 0) : okL zs = true ∧ okRd (szL zs) a u = true ∧ okRd (szL zs) b v = true ∧ okF lo hi = true ∧ a < b := by
  unfold codeP at h
  split at h
  · rename_i k
    simp only [Bool.and_eq_true] at k
    split at h
    · simp at h
    · exact ⟨k.1, k.2.1, k.2.2.1, k.2.2.2, by omega⟩
  · simp at h
/-- the interval that is handed back with a code -/
def ivR (c a u b v : Int) : Value := if c = 0 then .agg #[.int .i64 a, .int .i64 u, .int .i64 b, .int .i64 v] else .agg #[.int .i64 0, .int .i64 0, .int .i64 0, .int .i64 0]
def tupI (c a u b v : Int) : Value := .tuple #[ivR c a u b v, .int .i64 c]
theorem tupI_0 (a u b v : Int) : tupI 0 a u b v = .tuple #[.agg #[.int .i64 a, .int .i64 u, .int .i64 b, .int .i64 v], .int .i64 0] := rfl
theorem tupI_1 (a u b v : Int) : tupI 1 a u b v = .tuple #[.agg #[.int .i64 0, .int .i64 0, .int .i64 0, .int .i64 0], .int .i64 1] := rfl
theorem tupI_2 (a u b v : Int) : tupI 2 a u b v = .tuple #[.agg #[.int .i64 0, .int .i64 0, .int .i64 0, .int .i64 0], .int .i64 2] := rfl
theorem iv_boxes (w : World) (T1 T2 T3 : TypeId) (a u b v x y c d e f : Value) : ∀ W, W = ((((w.alloc (.cells #[a, u] T1)).alloc (.cells #[b, v] T1)).alloc (.cells #[x, y] T2)).alloc (.cells #[c, d, e, f] T3)) →
    Row W w.heap.size T1 [a, u] ∧ Row W (w.heap.size + 1) T1 [b, v] ∧ Row W (w.heap.size + 1 + 1) T2 [x, y] ∧ Row W (w.heap.size + 1 + 1 + 1) T3 [c, d, e, f] ∧ Below w.heap.size w W ∧ W.heap.size = w.heap.size + 1 + 1 + 1 + 1 := by
  rintro W rfl
  have h1 := Row.new (w.alloc (.cells #[a, u] T1)) T1 [b, v]
  have h2 := Row.new ((w.alloc (.cells #[a, u] T1)).alloc (.cells #[b, v] T1)) T2 [x, y]
  have h3 := Row.new (((w.alloc (.cells #[a, u] T1)).alloc (.cells #[b, v] T1)).alloc (.cells #[x, y] T2)) T3 [c, d, e, f]
  simp only [World.size_alloc] at h1 h2 h3
  exact ⟨(((Row.new w T1 [a, u]).alloc _).alloc _).alloc _, (h1.alloc _).alloc _, h2.alloc _, h3, (((box2_bel w T1 a u).alloc (by simp) _).alloc (by simp; omega) _).alloc (by simp; omega) _, by simp⟩
theorem quad_again {w : World} {g : Nat} {T : TypeId} {a b c d : Value} (x y z u : Value) (h : Row w g T [a, b, c, d]) : ∀ W, W = (((w.setCell ⟨g, 0, none⟩ x).setCell ⟨g, 1, none⟩ y).setCell ⟨g, 2, none⟩ z).setCell ⟨g, 3, none⟩ u →
    Row W g T [x, y, z, u] ∧ (∀ k, k ≤ g → Below k w W) ∧ W.heap.size = w.heap.size := by
  rintro W rfl
  exact ⟨(((h.set 0 x).set 1 y).set 2 z).set 3 u, fun k hk => ((((Below.refl _ w).setCell (p := ⟨g, 0, none⟩) hk x).setCell (p := ⟨g, 1, none⟩) hk y).setCell (p := ⟨g, 2, none⟩) hk z).setCell (p := ⟨g, 3, none⟩) hk u, by simp⟩
end Go.Proofs.YtcanfcpofihoeaaGreatDoor

namespace Go.Proofs.YtcanfcpofihoeaaGreatDoor
open Go.RowKit
theorem tupI_ne {c : Int} (a u b v : Int) (h : c ≠ 0) : tupI c a u b v = .tuple #[.agg #[.int .i64 0, .int .i64 0, .int .i64 0, .int .i64 0], .int .i64 c] := by simp [tupI, ivR, h]
def cntR (zs : List Int) (a u b v lo hi : Int) : (Int × Int) × Int :=
  if codeP zs a u b v lo hi = 0 then (if posI (szL zs) (v - u) (lo * (b - a)) (hi * (b - a)) then ((lstI (szL zs) (v - u) (lo * (b - a)), gstI (szL zs) (v - u) (hi * (b - a))), 0) else ((0, 0), 6)) else ((0, 0), codeP zs a u b v lo hi)
theorem cntR_no {zs : List Int} {a u b v lo hi : Int} (h : codeP zs a u b v lo hi ≠ 0) : cntR zs a u b v lo hi = ((0, 0), codeP zs a u b v lo hi) := by simp [cntR, h]
theorem cntR_none {zs : List Int} {a u b v lo hi : Int} (h : codeP zs a u b v lo hi = 0) (k : posI (szL zs) (v - u) (lo * (b - a)) (hi * (b - a)) = false) : cntR zs a u b v lo hi = ((0, 0), 6) := by simp [cntR, h, k]
theorem cntR_yes {zs : List Int} {a u b v lo hi : Int} (h : codeP zs a u b v lo hi = 0) (k : posI (szL zs) (v - u) (lo * (b - a)) (hi * (b - a)) = true) : cntR zs a u b v lo hi = ((lstI (szL zs) (v - u) (lo * (b - a)), gstI (szL zs) (v - u) (hi * (b - a))), 0) := by simp [cntR, h, k]
def tup3 (r : (Int × Int) × Int) : Value := .tuple #[.int .i64 r.1.1, .int .i64 r.1.2, .int .i64 r.2]
theorem iv3_boxes (w : World) (T1 T2 : TypeId) (a u b v x y : Value) : ∀ W, W = (((w.alloc (.cells #[a, u] T1)).alloc (.cells #[b, v] T1)).alloc (.cells #[x, y] T2)) →
    Row W w.heap.size T1 [a, u] ∧ Row W (w.heap.size + 1) T1 [b, v] ∧ Row W (w.heap.size + 1 + 1) T2 [x, y] ∧ Below w.heap.size w W ∧ W.heap.size = w.heap.size + 1 + 1 + 1 := by
  rintro W rfl
  have h1 := Row.new (w.alloc (.cells #[a, u] T1)) T1 [b, v]
  have h2 := Row.new ((w.alloc (.cells #[a, u] T1)).alloc (.cells #[b, v] T1)) T2 [x, y]
  simp only [World.size_alloc] at h1 h2
  exact ⟨((Row.new w T1 [a, u]).alloc _).alloc _, h1.alloc _, h2, ((box2_bel w T1 a u).alloc (by simp) _).alloc (by simp; omega) _, by simp⟩
def rndR (zs : List Int) (a u b v lo hi : Int) : (Int × Int) × Int :=
  if (cntR zs a u b v lo hi).2 = 0 then (((u + (cntR zs a u b v lo hi).1.1) / szL zs, (u + (cntR zs a u b v lo hi).1.2) / szL zs), 0) else ((0, 0), (cntR zs a u b v lo hi).2)
theorem rndR_no {zs : List Int} {a u b v lo hi : Int} (h : (cntR zs a u b v lo hi).2 ≠ 0) : rndR zs a u b v lo hi = ((0, 0), (cntR zs a u b v lo hi).2) := by simp [rndR, h]
theorem rndR_yes {zs : List Int} {a u b v lo hi : Int} (h : (cntR zs a u b v lo hi).2 = 0) : rndR zs a u b v lo hi = (((u + (cntR zs a u b v lo hi).1.1) / szL zs, (u + (cntR zs a u b v lo hi).1.2) / szL zs), 0) := by simp [rndR, h]
/-- what is known of counts that are possible -/
theorem cntR_out {zs : List Int} {a u b v lo hi : Int} (h : (cntR zs a u b v lo hi).2 = 0) : codeP zs a u b v lo hi = 0 ∧ 0 ≤ (cntR zs a u b v lo hi).1.1 ∧ (cntR zs a u b v lo hi).1.1 ≤ 2000000000000 ∧ 0 ≤ (cntR zs a u b v lo hi).1.2 ∧ (cntR zs a u b v lo hi).1.2 ≤ 2000000000000 := by
  by_cases h0 : codeP zs a u b v lo hi = 0
  · obtain ⟨o1, o2, o3, o4, o5⟩ := codeP_out h0
    obtain ⟨a1, a2, a3, a4⟩ := okRd_out o2
    obtain ⟨a5, a6, a7, a8⟩ := okRd_out o3
    obtain ⟨f1, f2, f3⟩ := okF_out o4
    obtain ⟨_, _, _, z1, z2⟩ := okL_out o1
    cases hp : posI (szL zs) (v - u) (lo * (b - a)) (hi * (b - a)) with
    | false => rw [cntR_none h0 hp] at h; simp at h
    | true =>
      rw [cntR_yes h0 hp]
      have hp' := hp
      unfold posI at hp'
      have hp2 := of_decide_eq_true hp'
      have g := gst_le (szL zs) (v - u) (hi * (b - a)) (by omega)
      obtain ⟨m1, m2⟩ := mul_small lo (b - a) (by omega) (by omega)
      obtain ⟨m3, m4⟩ := mul_small hi (b - a) (by omega) (by omega)
      have e := Int.emod_nonneg (v - u - lo * (b - a)) (show szL zs ≠ 0 by omega)
      have hl : 0 ≤ lstI (szL zs) (v - u) (lo * (b - a)) := by unfold lstI; omega
      exact ⟨h0, hl, by show lstI (szL zs) (v - u) (lo * (b - a)) ≤ _; omega, by show 0 ≤ gstI (szL zs) (v - u) (hi * (b - a)); omega, by show gstI (szL zs) (v - u) (hi * (b - a)) ≤ _; omega⟩
  · rw [cntR_no h0] at h
    exact absurd h h0
theorem quo_small (m z : Int) (h : 0 ≤ m ∧ m ≤ 3000000000000) (hz : 1 ≤ z) : m.tdiv z = m / z ∧ 0 ≤ m / z ∧ m / z ≤ 3000000000000 := by
  refine ⟨Int.tdiv_eq_ediv_of_nonneg h.1, Int.ediv_nonneg h.1 (by omega), ?_⟩
  have := Int.ediv_le_self z h.1
  omega
end Go.Proofs.YtcanfcpofihoeaaGreatDoor

namespace Go.Proofs.YtcanfcpofihoeaaGreatDoor
open Go.RowKit
def backR (zs : List Int) (a u b v lo hi : Int) : Int × Int :=
  if codeP zs a u b v lo hi = 0 then (backI (szL zs) (v - u) (lo * (b - a)) (hi * (b - a)), 0) else (0, codeP zs a u b v lo hi)
theorem backR_no {zs : List Int} {a u b v lo hi : Int} (h : codeP zs a u b v lo hi ≠ 0) : backR zs a u b v lo hi = (0, codeP zs a u b v lo hi) := by simp [backR, h]
theorem backR_yes {zs : List Int} {a u b v lo hi : Int} (h : codeP zs a u b v lo hi = 0) : backR zs a u b v lo hi = (backI (szL zs) (v - u) (lo * (b - a)) (hi * (b - a)), 0) := by simp [backR, h]
end Go.Proofs.YtcanfcpofihoeaaGreatDoor

namespace Go.Proofs.YtcanfcpofihoeaaGreatDoor
open Go.RowKit
theorem quiet_sm {P : Program} {f : FuncId} {args : Array Value} {w : World} {n : Nat} {v : Value}
    (h : Calls P f args (w.drewN n) fun e w' => e = .returned v ∧ w.drewN n = w') : Calls P f args (w.drewN n) fun e w'' => e = .returned v ∧ ∃ m, w'' = w.drewN m :=
  h.mono fun _ _ ⟨he, hm⟩ => ⟨he, n, hm.symm⟩
theorem l01Size_is (b n cap : Nat) (zs : List Int) (hn : n = zs.length) (hv : okL zs = true) (w : World) (h : Stk w b zs) :
    Calls Tryz.prog 24 #[.slice (some ⟨b, 0, none⟩) n cap] w fun e w' => e = .returned (.int .i64 (szL zs)) ∧ w = w' := by
  obtain ⟨_, _, hin, _, hs⟩ := okL_out hv
  have := l01Size_any b n cap zs w h (by omega) (by rw [hn]; exact hin)
  rwa [hn, List.take_length, show szC zs = szL zs from by unfold szC; omega, ← hn] at this
theorem tmod_up (a b : Int) : (a.tmod b + b) % b = a % b := by
  rw [Int.tmod_def, show a - b * a.tdiv b + b = a + b * (1 - a.tdiv b) by rw [Int.mul_sub]; omega, Int.add_mul_emod_self_left]
set_option maxHeartbeats 1000000 in
theorem l04Reading_any (bS n cap : Nat) (zs : List Int) (hn : n = zs.length) (hv : okL zs = true) (d x : Int) (w : World) (hS : Stk w bS zs) :
    Calls Tryz.prog 26 #[.slice (some ⟨bS, 0, none⟩) n cap, .agg #[.int .i64 d, .int .i64 x]] w (GivesB w (.bool (okRd (szL zs) d x))) := by
  have bel := hid (box2_bel w 44 (.int .i64 d) (.int .i64 x))
  by_cases h1 : d < 0 ∨ 100000 < d
  · have e : okRd (szL zs) d x = false := by rcases h1 with h | h; exact okRd_low h; exact okRd_high h
    rw [e]
    have HI := hid (fun w => inr_no d 0 100000 w h1)
    clear h1 e
    go_enter Tryz.func26, Tryz.ntmps26
    go_wp2_with fail
    go_quiet ((go_at_call 23; exact quiet_sm (HI.out _)))
    go_wp2_with fail
    go_ret
    exact ⟨rfl, below_drewN bel.out _⟩
  have HI := hid (fun w => inr_yes d 0 100000 w (by omega))
  rw [okRd_val (by omega) (by omega)]
  have HS := hid (fun k => (hS.below (bel.out) hS.1).below (below_drewN (Below.refl _ _) k) (Nat.lt_of_lt_of_le hS.1 bel.out.size))
  have HZ := hid (fun k => l01Size_is bS n cap zs hn hv _ (HS.out k))
  have HJ := hid (show ∀ w, Calls Tryz.prog 23 #[.int .i64 x, .int .i64 0, .int .i64 (szL zs - 1)] w fun e w' => e = .returned (.bool (decide (0 ≤ x ∧ x < szL zs))) ∧ w = w' from fun w => by
    by_cases h : 0 ≤ x ∧ x < szL zs
    · rw [decide_eq_true h]; exact inr_yes _ _ _ w (by omega)
    · rw [decide_eq_false h]; exact inr_no _ _ _ w (by omega))
  obtain ⟨_, _, _, z1, z2⟩ := okL_out hv
  obtain ⟨r, hr⟩ : ∃ r, decide (0 ≤ x ∧ x < szL zs) = r := ⟨_, rfl⟩
  rw [hr] at HJ ⊢
  obtain ⟨z, hz⟩ : ∃ z, szL zs = z := ⟨_, rfl⟩
  rw [hz] at HJ HZ z1 z2
  have tz : IntKind.i64.wrap (z - 1) = z - 1 := IntWalk.i64_in _ (by omega)
  clear hr hz hv hn hS h1
  go_enter Tryz.func26, Tryz.ntmps26
  go_wp2_with fail
  go_quiet ((first | (go_at_call 24; exact quiet_sm (HZ.out _)) | (go_at_call 23; with_reducible exact quiet_sm (HI.out _)) | (go_at_call 23; with_reducible exact quiet_sm (HJ.out _))))
  go_wp2_with fail
  go_ret
  exact ⟨rfl, below_drewN bel.out _⟩
def cnt3 (z way low high : Int) : Value := if lstI z way low ≤ high then .tuple #[.int .i64 (lstI z way low), .int .i64 (gstI z way high), .bool true] else .tuple #[.int .i64 0, .int .i64 0, .bool false]
theorem mul_any (x d : Int) (hx : -1000000 ≤ x ∧ x ≤ 1000000) (hd : 0 ≤ d ∧ d ≤ 100000) : -100000000000 ≤ x * d ∧ x * d ≤ 100000000000 := by
  have h1 := Int.mul_le_mul_of_nonneg_right hx.2 hd.1
  have h2 := Int.mul_le_mul_of_nonneg_left hd.2 (show (0 : Int) ≤ 1000000 by omega)
  have h3 := Int.mul_le_mul_of_nonneg_right hx.1 hd.1
  omega
end Go.Proofs.YtcanfcpofihoeaaGreatDoor

namespace Go.Proofs.YtcanfcpofihoeaaGreatDoor
def rdTo (zs : List Int) (js : List (Int × Int)) (k : Nat) : Prop := ∀ j, j < k → okRd (szL zs) (rd js j) (rv js j) = true
def upTo (js : List (Int × Int)) (k : Nat) : Prop := ∀ j, j + 1 < k → rd js j < rd js (j + 1)
def okG (zs : List Int) (js : List (Int × Int)) : Bool :=
  okL zs && (decide (js.length ≤ 40) && ((List.range js.length).all (fun j => okRd (szL zs) (rd js j) (rv js j)) && (List.range (js.length - 1)).all (fun j => decide (rd js j < rd js (j + 1)))))
theorem okG_stack {zs : List Int} {js : List (Int × Int)} (h : okL zs = false) : okG zs js = false := by simp [okG, h]
theorem okG_long {zs : List Int} {js : List (Int × Int)} (h : 40 < js.length) : okG zs js = false := by
  rw [okG, decide_eq_false (show ¬ js.length ≤ 40 by omega)]; simp
theorem okG_out {zs : List Int} {js : List (Int × Int)} (h : okG zs js = true) : okL zs = true ∧ js.length ≤ 40 ∧ rdTo zs js js.length ∧ upTo js js.length := by
  simp only [okG, Bool.and_eq_true, decide_eq_true_eq, List.all_eq_true, List.mem_range] at h
  exact ⟨h.1, h.2.1, fun j hj => h.2.2.1 j hj, fun j hj => h.2.2.2 j (by omega)⟩
theorem okG_yes {zs : List Int} {js : List (Int × Int)} (h1 : okL zs = true) (h2 : js.length ≤ 40) (h3 : rdTo zs js js.length) (h4 : upTo js js.length) : okG zs js = true := by
  simp only [okG, Bool.and_eq_true, decide_eq_true_eq, List.all_eq_true, List.mem_range]
  exact ⟨h1, h2, fun j hj => h3 j hj, fun j hj => h4 j (by omega)⟩
theorem okG_rd {zs : List Int} {js : List (Int × Int)} (k : Nat) (hk : k < js.length) (h : okRd (szL zs) (rd js k) (rv js k) = false) : okG zs js = false := by
  cases e : okG zs js with
  | false => rfl
  | true => have := (okG_out e).2.2.1 k hk; rw [h] at this; simp at this
theorem okG_up {zs : List Int} {js : List (Int × Int)} (k : Nat) (hk : k + 1 < js.length) (h : rd js (k + 1) ≤ rd js k) : okG zs js = false := by
  cases e : okG zs js with
  | false => rfl
  | true => have := (okG_out e).2.2.2 k hk; omega
theorem rdTo_succ {zs : List Int} {js : List (Int × Int)} {k : Nat} (h : rdTo zs js k) (e : okRd (szL zs) (rd js k) (rv js k) = true) : rdTo zs js (k + 1) := fun j hj => by
  by_cases he : j = k
  · subst he; exact e
  · exact h j (by omega)
theorem upTo_one (js : List (Int × Int)) : upTo js 1 := fun j hj => by omega
theorem upTo_zero (js : List (Int × Int)) : upTo js 0 := fun j hj => by omega
theorem upTo_succ {js : List (Int × Int)} {k : Nat} (h : upTo js (k + 1)) (e : rd js k < rd js (k + 1)) : upTo js (k + 1 + 1) := fun j hj => by
  by_cases he : j = k
  · subst he; exact e
  · exact h j (by omega)
end Go.Proofs.YtcanfcpofihoeaaGreatDoor

namespace Go.Proofs.YtcanfcpofihoeaaGreatDoor
open Go.RowKit Go.Shelf
attribute [local go_sem] Oper.semAt_some
set_option maxRecDepth 100000 in
set_option maxHeartbeats 4000000 in
theorem implValidLog_any (bS nS capS : Nat) (zs : List Int) (hnS : nS = zs.length) (b n cap : Nat) (js : List (Int × Int)) (hn : n = js.length) (w : World) (hS : Stk w bS zs) (hR : Rst w b js) :
    Calls Tryz.prog 32 #[.slice (some ⟨bS, 0, none⟩) nS capS, .slice (some ⟨b, 0, none⟩) n cap] w (GivesB w (.bool (okG zs js))) := by
  have hle := hR.2.2
  rw [← hn] at hle
  have hC := hid hR.2.1
  have hbl := hR.1
  have hbs := hS.1
  have HS := hid hS
  have hN := hid hn
  have RB := hid (Row.new w 4 [.bool false])
  have BE := hid (show Below w.heap.size w (w.alloc (.cells #[.bool false] 4)) from (Below.refl _ w).alloc (Nat.le_refl _) _)
  have HV := hid (validStack_any bS nS capS zs _ (hS.below BE.out hS.1) hnS)
  clear hS hR hn
  have hm : 1 ≤ 8 := by omega
  have g1 : Fence.wide.fn 18 := trivial
  have g2 : Fence.wide.fn 47 := trivial
  have g3 : Fence.wide.fn 48 := trivial
  have g4 : Fence.wide.fn 49 := trivial
  refine (callsIn_wide (n := 8)).1 ?_
  cases hv : okL zs with
  | false =>
    rw [okG_stack hv]
    rw [hv] at HV
    clear hv hnS
    have c0 := RB.out.cell 0
    have f0 := RB.out.frozen 0
    simp only [List.getElem?_cons_zero] at c0
    refine callsIn_of_wp_marks Tryz.func32 rfl trivial ?_ rfl
    simp only [Tryz.ntmps32, List.size_toArray, List.length_cons, List.length_nil, Nat.reduceAdd, Nat.reduceSub, Array.replicate_succ, Array.replicate_zero, List.push_toArray, List.append_toArray, List.nil_append, List.cons_append]
    gi_wp2_with (gi_at_call 18; refine (callsIn_wide.2 HV.out).mono ?_; rintro e w' ⟨rfl, rfl⟩)
    exact ⟨.bool false, by simp [results, Tryz.f32, go_sem, c0], rfl, BE.out⟩
  | true =>
    rw [hv] at HV
    by_cases h40 : 40 < n
    · rw [okG_long (by rw [← hN.out]; exact h40)]
      have hg : (40 : Int) < (n : Int) := by omega
      clear hv hnS
      have c0 := RB.out.cell 0
      have f0 := RB.out.frozen 0
      simp only [List.getElem?_cons_zero] at c0
      refine callsIn_of_wp_marks Tryz.func32 rfl trivial ?_ rfl
      simp only [Tryz.ntmps32, List.size_toArray, List.length_cons, List.length_nil, Nat.reduceAdd, Nat.reduceSub, Array.replicate_succ, Array.replicate_zero, List.push_toArray, List.append_toArray, List.nil_append, List.cons_append]
      gi_wp2_with (gi_at_call 18; refine (callsIn_wide.2 HV.out).mono ?_; rintro e w' ⟨rfl, rfl⟩)
      exact ⟨.bool false, by simp [results, Tryz.f32, go_sem, c0], rfl, BE.out⟩
    have hg : (n : Int) ≤ 40 := by omega
    have HR := hid (fun d x w hS => hasReading_any bS nS capS zs hnS hv d x w hS)
    have HVV := hid hv
    clear hv hnS
    refine callsIn_of_wp_marks Tryz.func32 rfl trivial ?_ rfl
    simp only [Tryz.ntmps32, List.size_toArray, List.length_cons, List.length_nil, Nat.reduceAdd, Nat.reduceSub, Array.replicate_succ, Array.replicate_zero, List.push_toArray, List.append_toArray, List.nil_append, List.cons_append]
    gi_wp2_with (gi_at_call 18; refine (callsIn_wide.2 HV.out).mono ?_; rintro e w' ⟨rfl, rfl⟩)
    gi_loopw [19] (fun i wr => ∃ k : Nat, k ≤ n ∧ i = .int .i64 k ∧ rdTo zs js k ∧ Row wr w.heap.size 4 [.bool false] ∧ Below w.heap.size w wr) (fun i _ => n - (intOf i).toNat)
    case atStart => exact ⟨0, Nat.zero_le _, rfl, fun j hj => by omega, RB.out, BE.out⟩
    case round =>
      obtain ⟨k, hk, rfl, hrd, hrow, hB⟩ := hrel
      have HT := hid hrd
      have hzr := hB.size
      have hl0 := hrow.lt
      have RW := hid hrow
      clear hrd hrow
      by_cases hlt : k < n
      · have hlt' : (k : Int) < (n : Int) := by omega
        have hk0 : (0 : Int) ≤ (k : Int) := by omega
        have cc := hC.out k (by rw [← hN.out]; exact hlt)
        have x0 := (hB.cell (p := ⟨b, k * 2, none⟩) hbl).trans cc.1
        have x1 := (hB.cell (p := ⟨b, k * 2 + 1, none⟩) hbl).trans cc.2
        have HO := hid (okG_rd (zs := zs) (js := js) k (by rw [← hN.out]; exact hlt))
        have HT2 := hid (fun e => rdTo_succ (k := k) HT.out e)
        have HRk := hid (fun W (h : Below wr.heap.size wr W) => HR.out (rd js k) (rv js k) W ((HS.out.below hB hbs).below h (Nat.lt_of_lt_of_le hbs hzr)))
        have lb : b < wr.heap.size := Nat.lt_of_lt_of_le hbl hzr
        obtain ⟨r, hr⟩ : ∃ r, okRd (szL zs) (rd js k) (rv js k) = r := ⟨_, rfl⟩
        rw [hr] at HO HT2 HRk
        obtain ⟨x, hx⟩ : ∃ x, rd js k = x := ⟨_, rfl⟩
        obtain ⟨y, hy⟩ : ∃ y, rv js k = y := ⟨_, rfl⟩
        rw [hx] at x0 HRk
        rw [hy] at x1 HRk
        clear cc hx hy hr
        have bA := hid (show Below wr.heap.size wr (wr.alloc (.cells #[.int .i64 x, .int .i64 y] 44)) from box2_bel wr _ _ _)
        cases r
        · gi_wp2_with (gi_at_call 47; refine (callsIn_wide.2 (HRk.out _ bA.out)).mono ?_; rintro e w1 ⟨rfl, hB1⟩; have hz1 := hB1.size; simp only [World.size_alloc] at hB1 hz1; have r1 := (RW.out.alloc (.cells #[.int .i64 x, .int .i64 y] 44)).below hB1 (by omega); have c1 := r1.cell 0; have f1 := r1.frozen 0; simp only [List.getElem?_cons_zero] at c1)
          have rs := r1.set 0 (.bool false)
          have c2 := rs.cell 0
          simp only [List.set_cons_zero, List.getElem?_cons_zero] at c2
          exact ⟨.bool false, by simp [results, Tryz.f32, go_sem, c2], by rw [HO.out (by simp)], (hB.trans ((bA.out.mono hzr).trans (hB1.mono (by omega)))).setCell (p := ⟨w.heap.size, 0, none⟩) (Nat.le_refl _) _⟩
        · gi_wp2_with (gi_at_call 47; refine (callsIn_wide.2 (HRk.out _ bA.out)).mono ?_; rintro e w1 ⟨rfl, hB1⟩; have hz1 := hB1.size; simp only [World.size_alloc] at hB1 hz1; have r1 := (RW.out.alloc (.cells #[.int .i64 x, .int .i64 y] 44)).below hB1 (by omega))
          go_roundw
          case rel => exact ⟨k + 1, by omega, by go_num, HT2.out (by simp), r1, hB.trans ((bA.out.mono hzr).trans (hB1.mono (by omega)))⟩
          case measure => simp [intOf]; omega
      · obtain rfl : k = n := by omega
        gi_wp2_with (gi_at_call 48; refine (itv_in Fence.wide _ trivial rfl _ _ _ _).mono ?_; rintro e w' ⟨rfl, rfl⟩)
        have qB := Row.new wr 23 [.slice (some ⟨b, 0, none⟩) k cap]
        have rV := RW.out.alloc (.cells #[.slice (some ⟨b, 0, none⟩) k cap] 23)
        have bV : Below w.heap.size w (wr.alloc (.cells #[.slice (some ⟨b, 0, none⟩) k cap] 23)) := hB.alloc hzr _
        have sV : (wr.alloc (.cells #[.slice (some ⟨b, 0, none⟩) k cap] 23)).heap.size = wr.heap.size + 1 := by simp
        obtain ⟨V, hV⟩ : ∃ V, V = wr.alloc (.cells #[.slice (some ⟨b, 0, none⟩) k cap] 23) := ⟨_, rfl⟩
        rw [← hV] at qB rV bV sV ⊢
        clear hV
        have cB := qB.cell 0
        simp only [List.getElem?_cons_zero] at cB
        have hsl : ∀ g, g = b ∨ g = wr.heap.size → g < V.heap.size := fun g hg => by rcases hg with rfl | rfl <;> omega
        have hcV : ∀ j, j < k → V.cell? ⟨b, j * 2, none⟩ = some (.int .i64 (rd js j)) ∧ V.cell? ⟨b, j * 2 + 1, none⟩ = some (.int .i64 (rv js j)) := fun j hj =>
          ⟨(bV.cell (p := ⟨b, j * 2, none⟩) hbl).trans (hC.out j (by rw [← hN.out]; exact hj)).1, (bV.cell (p := ⟨b, j * 2 + 1, none⟩) hbl).trans (hC.out j (by rw [← hN.out]; exact hj)).2⟩
        have HSL := hid hsl
        have HRV := hid rV
        have HBV := hid bV
        clear hsl rV qB
        refine wpIn_rangeFunc_ownH rfl hm (gf := 70) (lb := #[.pointer (some ⟨wr.heap.size, 0, none⟩)]) rfl trivial (enters_of Tryz.func70 (by kernel_rfl) rfl)
          (itv_stops Fence.wide 7 trivial rfl (by omega) wr.heap.size b k cap js hN.out hle V (by omega) (by omega) cB hcV) KeepB.trans (keepB_b HSL.out) (Below.refl _ _) (fun _ => rfl)
          (fun pre W => (∀ x ∈ pre, rd js x.1 < rd js (x.1 + 1)) ∧ Below V.heap.size V W)
          (fun c pre W => (c = .ret ∧ (∃ j, j + 1 < k ∧ rd js (j + 1) ≤ rd js j) ∧ Row W w.heap.size 4 [.bool false]) ∧ Below w.heap.size w W)
          (OwnFrom.and (Own.from (fun s A B row hs hg hr => hs) _) (ownFrom_below (Nat.le_refl _) (Nat.le_refl _)))
          (fun c => OwnFrom.and (Own.from (fun s A B row hs hg hr => ⟨hs.1, hs.2.1, row_kept hs.2.2 hg hr⟩) _) (ownFrom_below (Nat.le_refl _) (by omega)))
          ⟨by simp, Below.refl _ _⟩
          (fun x a' W => ∃ g, a' = { tmps := #[.slice (some ⟨bS, 0, none⟩) nS capS, .slice (some ⟨b, 0, none⟩) k cap, undef, undef, .pointer (some ⟨w.heap.size, 0, none⟩), undef, u6, undef, .pointer (some ⟨g, 0, none⟩), .slice (some ⟨bS, 0, none⟩) nS capS, .bool true, .bool false, .bool false, .slice (some ⟨b, 0, none⟩) k cap, .int .i64 (k : Int), .bool (decide ((40 : Int) < (k : Int))), .bool (decide ((40 : Int) < (k : Int))), .slice (some ⟨b, 0, none⟩) k cap, .int .i64 (k : Int), .int .i64 (k : Int), .bool false, u21, u22, u23, u24, u25, u26, u27, .slice (some ⟨b, 0, none⟩) k cap, .func (.func 70) #[] #[.pointer (some ⟨wr.heap.size, 0, none⟩)], .int .i64 ((x.1 : Int) + 1), .agg #[.int .i64 (rd js x.1), .int .i64 (rv js x.1), .int .i64 (rd js (x.1 + 1)), .int .i64 (rv js (x.1 + 1))], undef, undef, undef], defers := [] } ∧ Row W g 88 [.int .i64 (rd js x.1), .int .i64 (rv js x.1), .int .i64 (rd js (x.1 + 1)), .int .i64 (rv js (x.1 + 1))])
          (fun x a' => Own.from (fun s A B row hs hg hr => by obtain ⟨g, e, h⟩ := hs; exact ⟨g, e, row_kept h hg hr⟩) _) ?assign ?body ?done ?stop
        case assign =>
          intro l pre x W K hI hK
          have hzI := hI.2.size
          have hAA := hK _ (W.alloc (.cells #[.int .i64 (rd js x.1), .int .i64 (rv js x.1), .int .i64 (rd js (x.1 + 1)), .int .i64 (rv js (x.1 + 1))] 88)) ((KeepsOthers.alloc W _).from _) (keepB_of (box4_bel W _ _ _ _ _) (fun g hg => Nat.lt_of_lt_of_le (HSL.out g hg) hzI)) ⟨hI.1, hI.2.trans ((box4_bel W _ _ _ _ _).mono hzI)⟩ ⟨W.heap.size, rfl, Row.new W _ _⟩
          clear hK
          simp only [itvA]
          gi_wp2
          exact hAA
        case body =>
          rintro l pre x a' W _ _ ⟨hup, hB5⟩ ⟨g, rfl, hrow⟩ _
          have hx := x.2
          have g5 : (Fence.wide.inRound l).fn 49 := trivial
          have o1 := okRd_out (HT.out x.1 (by omega))
          have o2 := okRd_out (HT.out (x.1 + 1) (by omega))
          have hz5 := hB5.size
          have hDD := hid (fun W => days_any (rd js x.1) (rv js x.1) (rd js (x.1 + 1)) (rv js (x.1 + 1)) (by omega) W)
          have HUP := hid hup
          have hxn : x.1 + 1 < k := by omega
          have RX := hid (HRV.out.below hB5 (Nat.lt_of_lt_of_le hl0 (by omega)))
          obtain ⟨p, hp⟩ : ∃ p, rd js x.1 = p := ⟨_, rfl⟩
          obtain ⟨q, hq⟩ : ∃ p, rv js x.1 = p := ⟨_, rfl⟩
          obtain ⟨u, hu⟩ : ∃ p, rd js (x.1 + 1) = p := ⟨_, rfl⟩
          obtain ⟨v, hv⟩ : ∃ p, rv js (x.1 + 1) = p := ⟨_, rfl⟩
          rw [hp, hq, hu, hv] at hDD hrow
          rw [hp, hq] at o1
          rw [hu, hv] at o2
          rw [hp, hq, hu, hv]
          have HPU := hid (And.intro hp hu)
          have c0 := hrow.cell 0
          have c1 := hrow.cell 1
          have c2 := hrow.cell 2
          have c3 := hrow.cell 3
          simp only [List.getElem?_cons_zero, List.getElem?_cons_succ] at c0 c1 c2 c3
          clear hp hq hu hv hup hrow
          by_cases hc : u ≤ p
          · have hd : u - p < 1 := by omega
            gi_wp2_with (gi_at_call 49; refine (CallsIn.inRound l (callsIn_wide.2 (hDD.out _))).mono ?_; rintro e w6 ⟨rfl, hB6⟩; have r6 := RX.out.below hB6 (RX.out.lt); have c6 := r6.cell 0; have f6 := r6.frozen 0; simp only [List.getElem?_cons_zero] at c6)
            exact ⟨((keepsOthers_of hB6).trans (KeepsOthers.setCell _ _ _)).from _, ⟨rfl, ⟨x.1, hxn, by rw [HPU.out.1, HPU.out.2]; exact hc⟩, r6.set 0 (.bool false)⟩, ((HBV.out.trans (hB5.mono (by omega))).trans (hB6.mono (by omega))).setCell (p := ⟨w.heap.size, 0, none⟩) (Nat.le_refl _) _⟩
          · have hd : ¬ u - p < 1 := by omega
            have hd2 : 1 ≤ u - p := by omega
            gi_wp2_with (gi_at_call 49; refine (CallsIn.inRound l (callsIn_wide.2 (hDD.out _))).mono ?_; rintro e w6 ⟨rfl, hB6⟩)
            exact ⟨(keepsOthers_of hB6).from _, keepB_of hB6 (fun g hg => Nat.lt_of_lt_of_le (HSL.out g hg) hz5), ⟨fun y hy => (List.mem_append.1 hy).elim (HUP.out y) (fun e => by simp at e; subst e; rw [HPU.out.1, HPU.out.2]; omega), hB5.trans (hB6.mono hz5)⟩⟩
        case done =>
          rintro D ys W hD rfl ⟨hup, hB5⟩ hK
          have hz5 := hB5.size
          have rW := HRV.out.below hB5 (Nat.lt_of_lt_of_le hl0 (by omega))
          have cW := rW.cell 0
          have fW := rW.frozen 0
          simp only [List.getElem?_cons_zero] at cW
          have hK2 : (W.setCell ⟨w.heap.size, 0, none⟩ (.bool true)).heap[D]? = some (.deferred (some [])) := (Below.heap_setCell W ⟨w.heap.size, 0, none⟩ (.bool true) D (fun e => by simp at e; omega)).trans hK
          have rF := row_kept (rW.set 0 (.bool true)) (grownBy_putObj' _ D (.deferred none)) (fun r e => by cases e; exact ⟨_, hK2, rfl⟩)
          have cF := rF.cell 0
          simp only [List.set_cons_zero, List.getElem?_cons_zero] at cF
          have HG := hid (okG_yes HVV.out (by rw [← hN.out]; omega) (by rw [← hN.out]; exact HT.out) (fun j hj => hup ⟨j, by have := hN.out; omega⟩ (List.mem_finRange _)))
          have bF := hid ((HBV.out.trans (hB5.mono (by omega))).setCell (p := ⟨w.heap.size, 0, none⟩) (Nat.le_refl _) (.bool true))
          clear hup rW rF
          gi_wp2
          refine ⟨by simp, .inl ⟨_, _, rfl, run_takeDeferred hK2, ?_⟩⟩
          exact ⟨.bool true, by simp [results, Tryz.f32, go_sem, cF], by rw [HG.out], bF.out.trans (belowK_b (w := w) (Nat.le_refl _) _ D _ _ (by omega) hK2 rfl rfl)⟩
        case stop =>
          rintro D c pre W hD ⟨j, hj, rfl⟩ ⟨⟨rfl, ⟨q, hq1, hq2⟩, hrow⟩, hB5⟩ hK
          have rF := row_kept hrow (grownBy_putObj' _ D (.deferred none)) (fun r e => by cases e; exact ⟨_, hK, rfl⟩)
          have cF := rF.cell 0
          simp only [List.getElem?_cons_zero] at cF
          gi_wp2
          refine ⟨by simp, .inl ⟨_, _, rfl, run_takeDeferred hK, ?_⟩⟩
          exact ⟨.bool false, by simp [results, Tryz.f32, go_sem, cF], by rw [okG_up q (by rw [← hN.out]; exact hq1) hq2], hB5.trans (belowK_b (w := w) (Nat.le_refl _) _ D _ _ (by omega) hK rfl rfl)⟩
end Go.Proofs.YtcanfcpofihoeaaGreatDoor

namespace Go.Proofs.YtcanfcpofihoeaaGreatDoor
open Go.RowKit
set_option maxHeartbeats 8000000 in
theorem l04Ok_any (bS nS capS : Nat) (zs : List Int) (hnS : nS = zs.length) (b n cap : Nat) (js : List (Int × Int)) (hn : n = js.length) (w : World) (hS : Stk w bS zs) (hR : Rst w b js) :
    Calls Tryz.prog 17 #[.slice (some ⟨bS, 0, none⟩) nS capS, .slice (some ⟨b, 0, none⟩) n cap] w (GivesB w (.bool (okG zs js))) := by
  have hle := hR.2.2
  rw [← hn] at hle
  have HV := hid (l01Ok_any bS nS capS zs w hS hnS)
  have hC := hid hR.2.1
  have hbl := hR.1
  have hbs := hS.1
  have HS := hid hS
  have hN := hid hn
  clear hS hR hn
  cases hv : okL zs with
  | false =>
    rw [okG_stack hv]
    rw [hv] at HV
    clear hv hnS
    go_enter Tryz.func17, Tryz.ntmps17
    go_wp2_with fail
    refine HV.out.mono ?_
    rintro e w' ⟨rfl, rfl⟩
    go_wp2_with fail
    go_ret
    exact ⟨rfl, Below.refl _ _⟩
  | true =>
    rw [hv] at HV
    by_cases h40 : 40 < n
    · rw [okG_long (by rw [← hN.out]; exact h40)]
      have hg : (40 : Int) < (n : Int) := by omega
      clear hv hnS
      go_enter Tryz.func17, Tryz.ntmps17
      go_wp2_with fail
      refine HV.out.mono ?_
      rintro e w' ⟨rfl, rfl⟩
      go_wp2_with fail
      go_ret
      exact ⟨rfl, Below.refl _ _⟩
    have hg : (n : Int) ≤ 40 := by omega
    have HR := hid (fun d x w hS => l04Reading_any bS nS capS zs hnS hv d x w hS)
    have HVV := hid hv
    clear hv hnS
    go_enter Tryz.func17, Tryz.ntmps17
    go_wp2_with fail
    refine HV.out.mono ?_
    rintro e w' ⟨rfl, rfl⟩
    go_wp2_with fail
    go_loopw [5] (fun i wr => ∃ k : Nat, k ≤ n ∧ i = .int .i64 k ∧ rdTo zs js k ∧ upTo js k ∧ Below w.heap.size w wr) (fun i _ => n - (intOf i).toNat)
    case atStart => exact ⟨0, Nat.zero_le _, rfl, fun j hj => by omega, upTo_zero _, Below.refl _ _⟩
    case round =>
      obtain ⟨k, hk, rfl, hrd, hup, hB⟩ := hrel
      have HT := hid hrd
      have HU := hid hup
      have hzr := hB.size
      clear hrd hup
      by_cases hlt : k < n
      · have hlt' : (k : Int) < (n : Int) := by omega
        have hk0 : (0 : Int) ≤ (k : Int) := by omega
        have cc := hC.out k (by rw [← hN.out]; exact hlt)
        have x0 := (hB.cell (p := ⟨b, k * 2, none⟩) hbl).trans cc.1
        have x1 := (hB.cell (p := ⟨b, k * 2 + 1, none⟩) hbl).trans cc.2
        have HRk := hid (HR.out (rd js k) (rv js k) wr.drew (HS.out.below (hB.drew) hbs))
        have lb : b < wr.heap.size := Nat.lt_of_lt_of_le hbl hzr
        clear cc
        cases hr : okRd (szL zs) (rd js k) (rv js k) with
        | false =>
          have HF := hid (okG_rd (js := js) k (by rw [← hN.out]; exact hlt) hr)
          rw [hr] at HRk
          obtain ⟨x, hx⟩ : ∃ x, rd js k = x := ⟨_, rfl⟩
          obtain ⟨y, hy⟩ : ∃ y, rv js k = y := ⟨_, rfl⟩
          rw [hx] at x0 HRk
          rw [hy] at x1 HRk
          clear hx hy
          clear hr
          go_wp2_with fail
          refine wp_region_held (S := fun W' : World => W'.cell? ⟨b, k * 2, none⟩ = some (.int .i64 x) ∧ W'.cell? ⟨b, k * 2 + 1, none⟩ = some (.int .i64 y)) (by kernel_rfl) ?_
          change wpAnyH _ _ _ _ _ _ _ _ (World.drew _)
          have hS0 : (fun W' : World => W'.cell? ⟨b, k * 2, none⟩ = some (.int .i64 x) ∧ W'.cell? ⟨b, k * 2 + 1, none⟩ = some (.int .i64 y)) wr.drew := ⟨x0, x1⟩
          refine wpAnyH_takeD (some 20) (i := 0) (v := ?_) rfl rfl (by kernel_rfl) (by kernel_rfl) (by kernel_rfl) (fun _ _ _ h => h) (.inl ⟨by kernel_rfl, ?_⟩) hS0 ?_
          rotate_left
          · intro w' hw'; obtain ⟨hw1, hw2⟩ := hw'; go_simp; try with_reducible rfl
          try simp only [Act.put, List.setIfInBounds_toArray, List.set_cons_zero, List.set_cons_succ]
          refine wpAnyH_takeD (some 21) (i := 1) (v := ?_) rfl rfl (by kernel_rfl) (by kernel_rfl) (by kernel_rfl) (fun _ _ _ h => h) (.inl ⟨by kernel_rfl, ?_⟩) hS0 ?_
          rotate_left
          · intro w' hw'; obtain ⟨hw1, hw2⟩ := hw'; go_simp; try with_reducible rfl
          try simp only [Act.put, List.setIfInBounds_toArray, List.set_cons_zero, List.set_cons_succ]
          refine wpAnyH_takeD (some 22) (i := 2) (v := ?_) rfl rfl (by kernel_rfl) (by kernel_rfl) (by kernel_rfl) (fun _ _ _ h => h) (.inl ⟨by kernel_rfl, ?_⟩) hS0 ?_
          rotate_left
          · intro w' hw'; obtain ⟨hw1, hw2⟩ := hw'; go_simp; try with_reducible rfl
          try simp only [Act.put, List.setIfInBounds_toArray, List.set_cons_zero, List.set_cons_succ]
          refine wpAnyH_takeD (some 23) (i := 3) (v := ?_) rfl rfl (by kernel_rfl) (by kernel_rfl) (by kernel_rfl) (fun _ _ _ h => h) (.inl ⟨by kernel_rfl, ?_⟩) hS0 ?_
          rotate_left
          · intro w' hw'; obtain ⟨hw1, hw2⟩ := hw'; go_simp; try with_reducible rfl
          try simp only [Act.put, List.setIfInBounds_toArray, List.set_cons_zero, List.set_cons_succ]
          refine wpAnyH_takeD (some 24) (i := 4) (v := ?_) rfl rfl (by kernel_rfl) (by kernel_rfl) (by kernel_rfl) (fun _ _ _ h => h) (.inl ⟨by kernel_rfl, ?_⟩) hS0 ?_
          rotate_left
          · intro w' hw'; obtain ⟨hw1, hw2⟩ := hw'; go_simp; try with_reducible rfl
          try simp only [Act.put, List.setIfInBounds_toArray, List.set_cons_zero, List.set_cons_succ]
          refine wpAnyH_all (rs := [5]) (by kernel_rfl) (by simp) ?_
          intro i hi; simp only [List.mem_singleton] at hi; subst hi
          refine wpOp_step rfl (fun K hK => ?_)
          go_simp
          refine (HRk.out).mono ?_
          rintro e w1 ⟨rfl, hB1⟩
          have hS1 := And.intro ((hB1.cell (p := ⟨b, k * 2, none⟩) lb).trans x0) ((hB1.cell (p := ⟨b, k * 2 + 1, none⟩) lb).trans x1)
          refine hK _ _ ⟨hS1, ?_⟩
          try simp only [Act.put, List.setIfInBounds_toArray, List.set_cons_zero, List.set_cons_succ]
          refine wpAnyH_takeD (some 26) (i := 6) (v := ?_) rfl rfl (by kernel_rfl) (by kernel_rfl) (by kernel_rfl) (fun _ _ _ h => h) (.inl ⟨by kernel_rfl, ?_⟩) hS1 ?_
          rotate_left
          · intro w' hw'; obtain ⟨hw1, hw2⟩ := hw'; go_simp; try with_reducible rfl
          try simp only [Act.put, List.setIfInBounds_toArray, List.set_cons_zero, List.set_cons_succ]
          refine wpAnyH_takeD (some 27) (i := 7) (v := ?_) rfl rfl (by kernel_rfl) (by kernel_rfl) (by kernel_rfl) (fun _ _ _ h => h) (.inl ⟨by kernel_rfl, ?_⟩) hS1 ?_
          rotate_left
          · intro w' hw'; obtain ⟨hw1, hw2⟩ := hw'; go_simp; try with_reducible rfl
          try simp only [Act.put, List.setIfInBounds_toArray, List.set_cons_zero, List.set_cons_succ]
          refine wpAnyH_takeD (some 28) (i := 8) (v := undef) rfl rfl (by kernel_rfl) (by kernel_rfl) (by kernel_rfl) (fun _ _ _ h => h) (.inr ⟨by kernel_rfl, rfl⟩) hS1 ?_
          try simp only [Act.put, List.setIfInBounds_toArray, List.set_cons_zero, List.set_cons_succ]
          refine wpAnyH_takeD (some 29) (i := 9) (v := undef) rfl rfl (by kernel_rfl) (by kernel_rfl) (by kernel_rfl) (fun _ _ _ h => h) (.inr ⟨by kernel_rfl, rfl⟩) hS1 ?_
          try simp only [Act.put, List.setIfInBounds_toArray, List.set_cons_zero, List.set_cons_succ]
          refine wpAnyH_takeD (some 30) (i := 10) (v := undef) rfl rfl (by kernel_rfl) (by kernel_rfl) (by kernel_rfl) (fun _ _ _ h => h) (.inr ⟨by kernel_rfl, rfl⟩) hS1 ?_
          try simp only [Act.put, List.setIfInBounds_toArray, List.set_cons_zero, List.set_cons_succ]
          refine wpAnyH_takeD (some 31) (i := 11) (v := undef) rfl rfl (by kernel_rfl) (by kernel_rfl) (by kernel_rfl) (fun _ _ _ h => h) (.inr ⟨by kernel_rfl, rfl⟩) hS1 ?_
          try simp only [Act.put, List.setIfInBounds_toArray, List.set_cons_zero, List.set_cons_succ]
          refine wpAnyH_takeD (some 32) (i := 12) (v := undef) rfl rfl (by kernel_rfl) (by kernel_rfl) (by kernel_rfl) (fun _ _ _ h => h) (.inr ⟨by kernel_rfl, rfl⟩) hS1 ?_
          try simp only [Act.put, List.setIfInBounds_toArray, List.set_cons_zero, List.set_cons_succ]
          refine wpAnyH_takeD (some 33) (i := 13) (v := undef) rfl rfl (by kernel_rfl) (by kernel_rfl) (by kernel_rfl) (fun _ _ _ h => h) (.inr ⟨by kernel_rfl, rfl⟩) hS1 ?_
          try simp only [Act.put, List.setIfInBounds_toArray, List.set_cons_zero, List.set_cons_succ]
          refine wpAnyH_takeD (some 34) (i := 14) (v := undef) rfl rfl (by kernel_rfl) (by kernel_rfl) (by kernel_rfl) (fun _ _ _ h => h) (.inr ⟨by kernel_rfl, rfl⟩) hS1 ?_
          try simp only [Act.put, List.setIfInBounds_toArray, List.set_cons_zero, List.set_cons_succ]
          refine wpAnyH_takeD (some 35) (i := 15) (v := undef) rfl rfl (by kernel_rfl) (by kernel_rfl) (by kernel_rfl) (fun _ _ _ h => h) (.inr ⟨by kernel_rfl, rfl⟩) hS1 ?_
          try simp only [Act.put, List.setIfInBounds_toArray, List.set_cons_zero, List.set_cons_succ]
          refine wpAnyH_takeD (some 36) (i := 16) (v := undef) rfl rfl (by kernel_rfl) (by kernel_rfl) (by kernel_rfl) (fun _ _ _ h => h) (.inr ⟨by kernel_rfl, rfl⟩) hS1 ?_
          try simp only [Act.put, List.setIfInBounds_toArray, List.set_cons_zero, List.set_cons_succ]
          refine wpAnyH_takeD (some 37) (i := 17) (v := undef) rfl rfl (by kernel_rfl) (by kernel_rfl) (by kernel_rfl) (fun _ _ _ h => h) (.inr ⟨by kernel_rfl, rfl⟩) hS1 ?_
          try simp only [Act.put, List.setIfInBounds_toArray, List.set_cons_zero, List.set_cons_succ]
          refine wpAnyH_takeD (some 38) (i := 18) (v := undef) rfl rfl (by kernel_rfl) (by kernel_rfl) (by kernel_rfl) (fun _ _ _ h => h) (.inr ⟨by kernel_rfl, rfl⟩) hS1 ?_
          try simp only [Act.put, List.setIfInBounds_toArray, List.set_cons_zero, List.set_cons_succ]
          refine wpAnyH_takeD (some 39) (i := 19) (v := undef) rfl rfl (by kernel_rfl) (by kernel_rfl) (by kernel_rfl) (fun _ _ _ h => h) (.inr ⟨by kernel_rfl, rfl⟩) hS1 ?_
          try simp only [Act.put, List.setIfInBounds_toArray, List.set_cons_zero, List.set_cons_succ]
          refine wpAnyH_takeD (some 40) (i := 20) (v := undef) rfl rfl (by kernel_rfl) (by kernel_rfl) (by kernel_rfl) (fun _ _ _ h => h) (.inr ⟨by kernel_rfl, rfl⟩) hS1 ?_
          try simp only [Act.put, List.setIfInBounds_toArray, List.set_cons_zero, List.set_cons_succ]
          refine wpAnyH_takeD (some 41) (i := 21) (v := undef) rfl rfl (by kernel_rfl) (by kernel_rfl) (by kernel_rfl) (fun _ _ _ h => h) (.inr ⟨by kernel_rfl, rfl⟩) hS1 ?_
          try simp only [Act.put, List.setIfInBounds_toArray, List.set_cons_zero, List.set_cons_succ]
          refine wpAnyH_takeD (some 42) (i := 22) (v := undef) rfl rfl (by kernel_rfl) (by kernel_rfl) (by kernel_rfl) (fun _ _ _ h => h) (.inr ⟨by kernel_rfl, rfl⟩) hS1 ?_
          try simp only [Act.put, List.setIfInBounds_toArray, List.set_cons_zero, List.set_cons_succ]
          refine wpAnyH_takeD (some 43) (i := 23) (v := undef) rfl rfl (by kernel_rfl) (by kernel_rfl) (by kernel_rfl) (fun _ _ _ h => h) (.inr ⟨by kernel_rfl, rfl⟩) hS1 ?_
          try simp only [Act.put, List.setIfInBounds_toArray, List.set_cons_zero, List.set_cons_succ]
          refine wpAnyH_takeD (some 44) (i := 24) (v := ?_) rfl rfl (by kernel_rfl) (by kernel_rfl) (by kernel_rfl) (fun _ _ _ h => h) (.inl ⟨by kernel_rfl, ?_⟩) hS1 ?_
          rotate_left
          · intro w' hw'; obtain ⟨hw1, hw2⟩ := hw'; go_simp; try with_reducible rfl
          try simp only [Act.put, List.setIfInBounds_toArray, List.set_cons_zero, List.set_cons_succ]
          refine wpAnyH_done (by kernel_rfl) ?_ _
          go_wp2_with fail
          go_ret
          exact ⟨by rw [HF.out]; rfl, hB.drew.trans (hB1.mono hzr)⟩
        | true =>
          rw [hr] at HRk
          have HT2 := hid (rdTo_succ HT.out hr)
          clear hr
          by_cases h0 : k = 0
          · have hkz : ¬ (0 : Int) < (k : Int) := by omega
            have hkz' : (k : Int) ≤ 0 := by omega
            have hkd : decide (0 < k) = false := decide_eq_false (by omega)
            have HU2 := hid (show upTo js (k + 1) by rw [h0]; exact upTo_one js)
            clear h0
            obtain ⟨x, hx⟩ : ∃ x, rd js k = x := ⟨_, rfl⟩
            obtain ⟨y, hy⟩ : ∃ y, rv js k = y := ⟨_, rfl⟩
            rw [hx] at x0 HRk
            rw [hy] at x1 HRk
            clear hx hy
            go_wp2_with fail
            refine wp_region_held (S := fun W' : World => W'.cell? ⟨b, k * 2, none⟩ = some (.int .i64 x) ∧ W'.cell? ⟨b, k * 2 + 1, none⟩ = some (.int .i64 y)) (by kernel_rfl) ?_
            change wpAnyH _ _ _ _ _ _ _ _ (World.drew _)
            have hS0 : (fun W' : World => W'.cell? ⟨b, k * 2, none⟩ = some (.int .i64 x) ∧ W'.cell? ⟨b, k * 2 + 1, none⟩ = some (.int .i64 y)) wr.drew := ⟨x0, x1⟩
            refine wpAnyH_takeD (some 20) (i := 0) (v := ?_) rfl rfl (by kernel_rfl) (by kernel_rfl) (by kernel_rfl) (fun _ _ _ h => h) (.inl ⟨by kernel_rfl, ?_⟩) hS0 ?_
            rotate_left
            · intro w' hw'; obtain ⟨hw1, hw2⟩ := hw'; go_simp; try with_reducible rfl
            try simp only [Act.put, List.setIfInBounds_toArray, List.set_cons_zero, List.set_cons_succ]
            refine wpAnyH_takeD (some 21) (i := 1) (v := ?_) rfl rfl (by kernel_rfl) (by kernel_rfl) (by kernel_rfl) (fun _ _ _ h => h) (.inl ⟨by kernel_rfl, ?_⟩) hS0 ?_
            rotate_left
            · intro w' hw'; obtain ⟨hw1, hw2⟩ := hw'; go_simp; try with_reducible rfl
            try simp only [Act.put, List.setIfInBounds_toArray, List.set_cons_zero, List.set_cons_succ]
            refine wpAnyH_takeD (some 22) (i := 2) (v := ?_) rfl rfl (by kernel_rfl) (by kernel_rfl) (by kernel_rfl) (fun _ _ _ h => h) (.inl ⟨by kernel_rfl, ?_⟩) hS0 ?_
            rotate_left
            · intro w' hw'; obtain ⟨hw1, hw2⟩ := hw'; go_simp; try with_reducible rfl
            try simp only [Act.put, List.setIfInBounds_toArray, List.set_cons_zero, List.set_cons_succ]
            refine wpAnyH_takeD (some 23) (i := 3) (v := ?_) rfl rfl (by kernel_rfl) (by kernel_rfl) (by kernel_rfl) (fun _ _ _ h => h) (.inl ⟨by kernel_rfl, ?_⟩) hS0 ?_
            rotate_left
            · intro w' hw'; obtain ⟨hw1, hw2⟩ := hw'; go_simp; try with_reducible rfl
            try simp only [Act.put, List.setIfInBounds_toArray, List.set_cons_zero, List.set_cons_succ]
            refine wpAnyH_takeD (some 24) (i := 4) (v := ?_) rfl rfl (by kernel_rfl) (by kernel_rfl) (by kernel_rfl) (fun _ _ _ h => h) (.inl ⟨by kernel_rfl, ?_⟩) hS0 ?_
            rotate_left
            · intro w' hw'; obtain ⟨hw1, hw2⟩ := hw'; go_simp; try with_reducible rfl
            try simp only [Act.put, List.setIfInBounds_toArray, List.set_cons_zero, List.set_cons_succ]
            refine wpAnyH_all (rs := [5]) (by kernel_rfl) (by simp) ?_
            intro i hi; simp only [List.mem_singleton] at hi; subst hi
            refine wpOp_step rfl (fun K hK => ?_)
            go_simp
            refine (HRk.out).mono ?_
            rintro e w1 ⟨rfl, hB1⟩
            have hS1 := And.intro ((hB1.cell (p := ⟨b, k * 2, none⟩) lb).trans x0) ((hB1.cell (p := ⟨b, k * 2 + 1, none⟩) lb).trans x1)
            refine hK _ _ ⟨hS1, ?_⟩
            try simp only [Act.put, List.setIfInBounds_toArray, List.set_cons_zero, List.set_cons_succ]
            refine wpAnyH_takeD (some 26) (i := 6) (v := ?_) rfl rfl (by kernel_rfl) (by kernel_rfl) (by kernel_rfl) (fun _ _ _ h => h) (.inl ⟨by kernel_rfl, ?_⟩) hS1 ?_
            rotate_left
            · intro w' hw'; obtain ⟨hw1, hw2⟩ := hw'; go_simp; try with_reducible rfl
            try simp only [Act.put, List.setIfInBounds_toArray, List.set_cons_zero, List.set_cons_succ]
            refine wpAnyH_takeD (some 27) (i := 7) (v := ?_) rfl rfl (by kernel_rfl) (by kernel_rfl) (by kernel_rfl) (fun _ _ _ h => h) (.inl ⟨by kernel_rfl, ?_⟩) hS1 ?_
            rotate_left
            · intro w' hw'; obtain ⟨hw1, hw2⟩ := hw'; go_simp; try with_reducible rfl
            try simp only [Act.put, List.setIfInBounds_toArray, List.set_cons_zero, List.set_cons_succ]
            refine wpAnyH_takeD (some 28) (i := 8) (v := ?_) rfl rfl (by kernel_rfl) (by kernel_rfl) (by kernel_rfl) (fun _ _ _ h => h) (.inl ⟨by kernel_rfl, ?_⟩) hS1 ?_
            rotate_left
            · intro w' hw'; obtain ⟨hw1, hw2⟩ := hw'; go_simp; try with_reducible rfl
            try simp only [Act.put, List.setIfInBounds_toArray, List.set_cons_zero, List.set_cons_succ]
            refine wpAnyH_takeD (some 29) (i := 9) (v := ?_) rfl rfl (by kernel_rfl) (by kernel_rfl) (by kernel_rfl) (fun _ _ _ h => h) (.inl ⟨by kernel_rfl, ?_⟩) hS1 ?_
            rotate_left
            · intro w' hw'; obtain ⟨hw1, hw2⟩ := hw'; go_simp; try with_reducible rfl
            try simp only [Act.put, List.setIfInBounds_toArray, List.set_cons_zero, List.set_cons_succ]
            refine wpAnyH_takeD (some 30) (i := 10) (v := ?_) rfl rfl (by kernel_rfl) (by kernel_rfl) (by kernel_rfl) (fun _ _ _ h => h) (.inl ⟨by kernel_rfl, ?_⟩) hS1 ?_
            rotate_left
            · intro w' hw'; obtain ⟨hw1, hw2⟩ := hw'; go_simp; try with_reducible rfl
            try simp only [Act.put, List.setIfInBounds_toArray, List.set_cons_zero, List.set_cons_succ]
            refine wpAnyH_takeD (some 31) (i := 11) (v := undef) rfl rfl (by kernel_rfl) (by kernel_rfl) (by kernel_rfl) (fun _ _ _ h => h) (.inr ⟨by kernel_rfl, rfl⟩) hS1 ?_
            try simp only [Act.put, List.setIfInBounds_toArray, List.set_cons_zero, List.set_cons_succ]
            refine wpAnyH_takeD (some 32) (i := 12) (v := undef) rfl rfl (by kernel_rfl) (by kernel_rfl) (by kernel_rfl) (fun _ _ _ h => h) (.inr ⟨by kernel_rfl, rfl⟩) hS1 ?_
            try simp only [Act.put, List.setIfInBounds_toArray, List.set_cons_zero, List.set_cons_succ]
            refine wpAnyH_takeD (some 33) (i := 13) (v := undef) rfl rfl (by kernel_rfl) (by kernel_rfl) (by kernel_rfl) (fun _ _ _ h => h) (.inr ⟨by kernel_rfl, rfl⟩) hS1 ?_
            try simp only [Act.put, List.setIfInBounds_toArray, List.set_cons_zero, List.set_cons_succ]
            refine wpAnyH_takeD (some 34) (i := 14) (v := undef) rfl rfl (by kernel_rfl) (by kernel_rfl) (by kernel_rfl) (fun _ _ _ h => h) (.inr ⟨by kernel_rfl, rfl⟩) hS1 ?_
            try simp only [Act.put, List.setIfInBounds_toArray, List.set_cons_zero, List.set_cons_succ]
            refine wpAnyH_takeD (some 35) (i := 15) (v := undef) rfl rfl (by kernel_rfl) (by kernel_rfl) (by kernel_rfl) (fun _ _ _ h => h) (.inr ⟨by kernel_rfl, rfl⟩) hS1 ?_
            try simp only [Act.put, List.setIfInBounds_toArray, List.set_cons_zero, List.set_cons_succ]
            refine wpAnyH_takeD (some 36) (i := 16) (v := undef) rfl rfl (by kernel_rfl) (by kernel_rfl) (by kernel_rfl) (fun _ _ _ h => h) (.inr ⟨by kernel_rfl, rfl⟩) hS1 ?_
            try simp only [Act.put, List.setIfInBounds_toArray, List.set_cons_zero, List.set_cons_succ]
            refine wpAnyH_takeD (some 37) (i := 17) (v := undef) rfl rfl (by kernel_rfl) (by kernel_rfl) (by kernel_rfl) (fun _ _ _ h => h) (.inr ⟨by kernel_rfl, rfl⟩) hS1 ?_
            try simp only [Act.put, List.setIfInBounds_toArray, List.set_cons_zero, List.set_cons_succ]
            refine wpAnyH_takeD (some 38) (i := 18) (v := undef) rfl rfl (by kernel_rfl) (by kernel_rfl) (by kernel_rfl) (fun _ _ _ h => h) (.inr ⟨by kernel_rfl, rfl⟩) hS1 ?_
            try simp only [Act.put, List.setIfInBounds_toArray, List.set_cons_zero, List.set_cons_succ]
            refine wpAnyH_takeD (some 39) (i := 19) (v := undef) rfl rfl (by kernel_rfl) (by kernel_rfl) (by kernel_rfl) (fun _ _ _ h => h) (.inr ⟨by kernel_rfl, rfl⟩) hS1 ?_
            try simp only [Act.put, List.setIfInBounds_toArray, List.set_cons_zero, List.set_cons_succ]
            refine wpAnyH_takeD (some 40) (i := 20) (v := undef) rfl rfl (by kernel_rfl) (by kernel_rfl) (by kernel_rfl) (fun _ _ _ h => h) (.inr ⟨by kernel_rfl, rfl⟩) hS1 ?_
            try simp only [Act.put, List.setIfInBounds_toArray, List.set_cons_zero, List.set_cons_succ]
            refine wpAnyH_takeD (some 41) (i := 21) (v := undef) rfl rfl (by kernel_rfl) (by kernel_rfl) (by kernel_rfl) (fun _ _ _ h => h) (.inr ⟨by kernel_rfl, rfl⟩) hS1 ?_
            try simp only [Act.put, List.setIfInBounds_toArray, List.set_cons_zero, List.set_cons_succ]
            refine wpAnyH_takeD (some 42) (i := 22) (v := undef) rfl rfl (by kernel_rfl) (by kernel_rfl) (by kernel_rfl) (fun _ _ _ h => h) (.inr ⟨by kernel_rfl, rfl⟩) hS1 ?_
            try simp only [Act.put, List.setIfInBounds_toArray, List.set_cons_zero, List.set_cons_succ]
            refine wpAnyH_takeD (some 43) (i := 23) (v := ?_) rfl rfl (by kernel_rfl) (by kernel_rfl) (by kernel_rfl) (fun _ _ _ h => h) (.inl ⟨by kernel_rfl, ?_⟩) hS1 ?_
            rotate_left
            · intro w' hw'; obtain ⟨hw1, hw2⟩ := hw'; go_simp; try with_reducible rfl
            try simp only [Act.put, List.setIfInBounds_toArray, List.set_cons_zero, List.set_cons_succ]
            refine wpAnyH_takeD (some 44) (i := 24) (v := ?_) rfl rfl (by kernel_rfl) (by kernel_rfl) (by kernel_rfl) (fun _ _ _ h => h) (.inl ⟨by kernel_rfl, ?_⟩) hS1 ?_
            rotate_left
            · intro w' hw'; obtain ⟨hw1, hw2⟩ := hw'; go_simp; try with_reducible rfl
            try simp only [Act.put, List.setIfInBounds_toArray, List.set_cons_zero, List.set_cons_succ]
            refine wpAnyH_done (by kernel_rfl) ?_ _
            go_wp2_with fail
            go_roundw
            case rel => exact ⟨k + 1, by omega, by go_num, HT2.out, HU2.out, hB.drew.trans (hB1.mono hzr)⟩
            case measure => simp [intOf]; omega
          · obtain ⟨c, hc⟩ : ∃ c, k = c + 1 := ⟨k - 1, by omega⟩
            have cc := hC.out c (by rw [← hN.out]; omega)
            have x2 := (hB.cell (p := ⟨b, c * 2, none⟩) hbl).trans cc.1
            have hk1 : (0 : Int) < (k : Int) := by omega
            have hk2 : 0 < k := by omega
            have hkd : decide (0 < k) = true := decide_eq_true hk2
            have ec : (k : Int) - 1 = (c : Int) := by omega
            have hcn : c < n := by omega
            have hcn' : (c : Int) < (n : Int) := by omega
            have hc0 : (0 : Int) ≤ (c : Int) := by omega
            have tc : IntKind.i64.wrap (c : Int) = (c : Int) := IntWalk.i64_in _ (by omega)
            have HC := hid hc
            clear cc
            by_cases hup : rd js k ≤ rd js c
            · have HF := hid (okG_up (zs := zs) (js := js) c (by rw [← hN.out]; omega) (by rw [← hc]; exact hup))
              obtain ⟨u, hu⟩ : ∃ u, rd js c = u := ⟨_, rfl⟩
              rw [hu] at x2 hup
              obtain ⟨x, hx⟩ : ∃ x, rd js k = x := ⟨_, rfl⟩
              obtain ⟨y, hy⟩ : ∃ y, rv js k = y := ⟨_, rfl⟩
              rw [hx] at x0 HRk hup
              rw [hy] at x1 HRk
              clear hx hy
              clear hc hu
              go_wp2_with fail
              refine wp_region_held (S := fun W' : World => W'.cell? ⟨b, k * 2, none⟩ = some (.int .i64 x) ∧ W'.cell? ⟨b, k * 2 + 1, none⟩ = some (.int .i64 y) ∧ W'.cell? ⟨b, c * 2, none⟩ = some (.int .i64 u)) (by kernel_rfl) ?_
              change wpAnyH _ _ _ _ _ _ _ _ (World.drew _)
              have hS0 : (fun W' : World => W'.cell? ⟨b, k * 2, none⟩ = some (.int .i64 x) ∧ W'.cell? ⟨b, k * 2 + 1, none⟩ = some (.int .i64 y) ∧ W'.cell? ⟨b, c * 2, none⟩ = some (.int .i64 u)) wr.drew := ⟨x0, x1, x2⟩
              refine wpAnyH_takeD (some 20) (i := 0) (v := ?_) rfl rfl (by kernel_rfl) (by kernel_rfl) (by kernel_rfl) (fun _ _ _ h => h) (.inl ⟨by kernel_rfl, ?_⟩) hS0 ?_
              rotate_left
              · intro w' hw'; obtain ⟨hw1, hw2, hw3⟩ := hw'; go_simp; try with_reducible rfl
              try simp only [Act.put, List.setIfInBounds_toArray, List.set_cons_zero, List.set_cons_succ]
              refine wpAnyH_takeD (some 21) (i := 1) (v := ?_) rfl rfl (by kernel_rfl) (by kernel_rfl) (by kernel_rfl) (fun _ _ _ h => h) (.inl ⟨by kernel_rfl, ?_⟩) hS0 ?_
              rotate_left
              · intro w' hw'; obtain ⟨hw1, hw2, hw3⟩ := hw'; go_simp; try with_reducible rfl
              try simp only [Act.put, List.setIfInBounds_toArray, List.set_cons_zero, List.set_cons_succ]
              refine wpAnyH_takeD (some 22) (i := 2) (v := ?_) rfl rfl (by kernel_rfl) (by kernel_rfl) (by kernel_rfl) (fun _ _ _ h => h) (.inl ⟨by kernel_rfl, ?_⟩) hS0 ?_
              rotate_left
              · intro w' hw'; obtain ⟨hw1, hw2, hw3⟩ := hw'; go_simp; try with_reducible rfl
              try simp only [Act.put, List.setIfInBounds_toArray, List.set_cons_zero, List.set_cons_succ]
              refine wpAnyH_takeD (some 23) (i := 3) (v := ?_) rfl rfl (by kernel_rfl) (by kernel_rfl) (by kernel_rfl) (fun _ _ _ h => h) (.inl ⟨by kernel_rfl, ?_⟩) hS0 ?_
              rotate_left
              · intro w' hw'; obtain ⟨hw1, hw2, hw3⟩ := hw'; go_simp; try with_reducible rfl
              try simp only [Act.put, List.setIfInBounds_toArray, List.set_cons_zero, List.set_cons_succ]
              refine wpAnyH_takeD (some 24) (i := 4) (v := ?_) rfl rfl (by kernel_rfl) (by kernel_rfl) (by kernel_rfl) (fun _ _ _ h => h) (.inl ⟨by kernel_rfl, ?_⟩) hS0 ?_
              rotate_left
              · intro w' hw'; obtain ⟨hw1, hw2, hw3⟩ := hw'; go_simp; try with_reducible rfl
              try simp only [Act.put, List.setIfInBounds_toArray, List.set_cons_zero, List.set_cons_succ]
              refine wpAnyH_all (rs := [5]) (by kernel_rfl) (by simp) ?_
              intro i hi; simp only [List.mem_singleton] at hi; subst hi
              refine wpOp_step rfl (fun K hK => ?_)
              go_simp
              refine (HRk.out).mono ?_
              rintro e w1 ⟨rfl, hB1⟩
              have hS1 := And.intro ((hB1.cell (p := ⟨b, k * 2, none⟩) lb).trans x0) (And.intro ((hB1.cell (p := ⟨b, k * 2 + 1, none⟩) lb).trans x1) ((hB1.cell (p := ⟨b, c * 2, none⟩) lb).trans x2))
              refine hK _ _ ⟨hS1, ?_⟩
              try simp only [Act.put, List.setIfInBounds_toArray, List.set_cons_zero, List.set_cons_succ]
              refine wpAnyH_takeD (some 26) (i := 6) (v := ?_) rfl rfl (by kernel_rfl) (by kernel_rfl) (by kernel_rfl) (fun _ _ _ h => h) (.inl ⟨by kernel_rfl, ?_⟩) hS1 ?_
              rotate_left
              · intro w' hw'; obtain ⟨hw1, hw2, hw3⟩ := hw'; go_simp; try with_reducible rfl
              try simp only [Act.put, List.setIfInBounds_toArray, List.set_cons_zero, List.set_cons_succ]
              refine wpAnyH_takeD (some 27) (i := 7) (v := ?_) rfl rfl (by kernel_rfl) (by kernel_rfl) (by kernel_rfl) (fun _ _ _ h => h) (.inl ⟨by kernel_rfl, ?_⟩) hS1 ?_
              rotate_left
              · intro w' hw'; obtain ⟨hw1, hw2, hw3⟩ := hw'; go_simp; try with_reducible rfl
              try simp only [Act.put, List.setIfInBounds_toArray, List.set_cons_zero, List.set_cons_succ]
              refine wpAnyH_takeD (some 28) (i := 8) (v := ?_) rfl rfl (by kernel_rfl) (by kernel_rfl) (by kernel_rfl) (fun _ _ _ h => h) (.inl ⟨by kernel_rfl, ?_⟩) hS1 ?_
              rotate_left
              · intro w' hw'; obtain ⟨hw1, hw2, hw3⟩ := hw'; go_simp; try with_reducible rfl
              try simp only [Act.put, List.setIfInBounds_toArray, List.set_cons_zero, List.set_cons_succ]
              refine wpAnyH_takeD (some 29) (i := 9) (v := ?_) rfl rfl (by kernel_rfl) (by kernel_rfl) (by kernel_rfl) (fun _ _ _ h => h) (.inl ⟨by kernel_rfl, ?_⟩) hS1 ?_
              rotate_left
              · intro w' hw'; obtain ⟨hw1, hw2, hw3⟩ := hw'; go_simp; try with_reducible rfl
              try simp only [Act.put, List.setIfInBounds_toArray, List.set_cons_zero, List.set_cons_succ]
              refine wpAnyH_takeD (some 30) (i := 10) (v := ?_) rfl rfl (by kernel_rfl) (by kernel_rfl) (by kernel_rfl) (fun _ _ _ h => h) (.inl ⟨by kernel_rfl, ?_⟩) hS1 ?_
              rotate_left
              · intro w' hw'; obtain ⟨hw1, hw2, hw3⟩ := hw'; go_simp; try with_reducible rfl
              try simp only [Act.put, List.setIfInBounds_toArray, List.set_cons_zero, List.set_cons_succ]
              refine wpAnyH_takeD (some 31) (i := 11) (v := ?_) rfl rfl (by kernel_rfl) (by kernel_rfl) (by kernel_rfl) (fun _ _ _ h => h) (.inl ⟨by kernel_rfl, ?_⟩) hS1 ?_
              rotate_left
              · intro w' hw'; obtain ⟨hw1, hw2, hw3⟩ := hw'; go_simp; try with_reducible rfl
              try simp only [Act.put, List.setIfInBounds_toArray, List.set_cons_zero, List.set_cons_succ]
              refine wpAnyH_takeD (some 32) (i := 12) (v := ?_) rfl rfl (by kernel_rfl) (by kernel_rfl) (by kernel_rfl) (fun _ _ _ h => h) (.inl ⟨by kernel_rfl, ?_⟩) hS1 ?_
              rotate_left
              · intro w' hw'; obtain ⟨hw1, hw2, hw3⟩ := hw'; go_simp; try with_reducible rfl
              try simp only [Act.put, List.setIfInBounds_toArray, List.set_cons_zero, List.set_cons_succ]
              refine wpAnyH_takeD (some 33) (i := 13) (v := ?_) rfl rfl (by kernel_rfl) (by kernel_rfl) (by kernel_rfl) (fun _ _ _ h => h) (.inl ⟨by kernel_rfl, ?_⟩) hS1 ?_
              rotate_left
              · intro w' hw'; obtain ⟨hw1, hw2, hw3⟩ := hw'; go_simp; try with_reducible rfl
              try simp only [Act.put, List.setIfInBounds_toArray, List.set_cons_zero, List.set_cons_succ]
              refine wpAnyH_takeD (some 34) (i := 14) (v := ?_) rfl rfl (by kernel_rfl) (by kernel_rfl) (by kernel_rfl) (fun _ _ _ h => h) (.inl ⟨by kernel_rfl, ?_⟩) hS1 ?_
              rotate_left
              · intro w' hw'; obtain ⟨hw1, hw2, hw3⟩ := hw'; go_simp; try with_reducible rfl
              try simp only [Act.put, List.setIfInBounds_toArray, List.set_cons_zero, List.set_cons_succ]
              refine wpAnyH_takeD (some 35) (i := 15) (v := ?_) rfl rfl (by kernel_rfl) (by kernel_rfl) (by kernel_rfl) (fun _ _ _ h => h) (.inl ⟨by kernel_rfl, ?_⟩) hS1 ?_
              rotate_left
              · intro w' hw'; obtain ⟨hw1, hw2, hw3⟩ := hw'; go_simp; try with_reducible rfl
              try simp only [Act.put, List.setIfInBounds_toArray, List.set_cons_zero, List.set_cons_succ]
              refine wpAnyH_takeD (some 36) (i := 16) (v := ?_) rfl rfl (by kernel_rfl) (by kernel_rfl) (by kernel_rfl) (fun _ _ _ h => h) (.inl ⟨by kernel_rfl, ?_⟩) hS1 ?_
              rotate_left
              · intro w' hw'; obtain ⟨hw1, hw2, hw3⟩ := hw'; go_simp; try with_reducible rfl
              try simp only [Act.put, List.setIfInBounds_toArray, List.set_cons_zero, List.set_cons_succ]
              refine wpAnyH_takeD (some 37) (i := 17) (v := ?_) rfl rfl (by kernel_rfl) (by kernel_rfl) (by kernel_rfl) (fun _ _ _ h => h) (.inl ⟨by kernel_rfl, ?_⟩) hS1 ?_
              rotate_left
              · intro w' hw'; obtain ⟨hw1, hw2, hw3⟩ := hw'; go_simp; try with_reducible rfl
              try simp only [Act.put, List.setIfInBounds_toArray, List.set_cons_zero, List.set_cons_succ]
              refine wpAnyH_takeD (some 38) (i := 18) (v := ?_) rfl rfl (by kernel_rfl) (by kernel_rfl) (by kernel_rfl) (fun _ _ _ h => h) (.inl ⟨by kernel_rfl, ?_⟩) hS1 ?_
              rotate_left
              · intro w' hw'; obtain ⟨hw1, hw2, hw3⟩ := hw'; go_simp; try with_reducible rfl
              try simp only [Act.put, List.setIfInBounds_toArray, List.set_cons_zero, List.set_cons_succ]
              refine wpAnyH_takeD (some 39) (i := 19) (v := ?_) rfl rfl (by kernel_rfl) (by kernel_rfl) (by kernel_rfl) (fun _ _ _ h => h) (.inl ⟨by kernel_rfl, ?_⟩) hS1 ?_
              rotate_left
              · intro w' hw'; obtain ⟨hw1, hw2, hw3⟩ := hw'; go_simp; try with_reducible rfl
              try simp only [Act.put, List.setIfInBounds_toArray, List.set_cons_zero, List.set_cons_succ]
              refine wpAnyH_takeD (some 40) (i := 20) (v := ?_) rfl rfl (by kernel_rfl) (by kernel_rfl) (by kernel_rfl) (fun _ _ _ h => h) (.inl ⟨by kernel_rfl, ?_⟩) hS1 ?_
              rotate_left
              · intro w' hw'; obtain ⟨hw1, hw2, hw3⟩ := hw'; go_simp; try with_reducible rfl
              try simp only [Act.put, List.setIfInBounds_toArray, List.set_cons_zero, List.set_cons_succ]
              refine wpAnyH_takeD (some 41) (i := 21) (v := ?_) rfl rfl (by kernel_rfl) (by kernel_rfl) (by kernel_rfl) (fun _ _ _ h => h) (.inl ⟨by kernel_rfl, ?_⟩) hS1 ?_
              rotate_left
              · intro w' hw'; obtain ⟨hw1, hw2, hw3⟩ := hw'; go_simp; try with_reducible rfl
              try simp only [Act.put, List.setIfInBounds_toArray, List.set_cons_zero, List.set_cons_succ]
              refine wpAnyH_takeD (some 42) (i := 22) (v := ?_) rfl rfl (by kernel_rfl) (by kernel_rfl) (by kernel_rfl) (fun _ _ _ h => h) (.inl ⟨by kernel_rfl, ?_⟩) hS1 ?_
              rotate_left
              · intro w' hw'; obtain ⟨hw1, hw2, hw3⟩ := hw'; go_simp; try with_reducible rfl
              try simp only [Act.put, List.setIfInBounds_toArray, List.set_cons_zero, List.set_cons_succ]
              refine wpAnyH_takeD (some 43) (i := 23) (v := ?_) rfl rfl (by kernel_rfl) (by kernel_rfl) (by kernel_rfl) (fun _ _ _ h => h) (.inl ⟨by kernel_rfl, ?_⟩) hS1 ?_
              rotate_left
              · intro w' hw'; obtain ⟨hw1, hw2, hw3⟩ := hw'; go_simp; try with_reducible rfl
              try simp only [Act.put, List.setIfInBounds_toArray, List.set_cons_zero, List.set_cons_succ]
              refine wpAnyH_takeD (some 44) (i := 24) (v := ?_) rfl rfl (by kernel_rfl) (by kernel_rfl) (by kernel_rfl) (fun _ _ _ h => h) (.inl ⟨by kernel_rfl, ?_⟩) hS1 ?_
              rotate_left
              · intro w' hw'; obtain ⟨hw1, hw2, hw3⟩ := hw'; go_simp; try with_reducible rfl
              try simp only [Act.put, List.setIfInBounds_toArray, List.set_cons_zero, List.set_cons_succ]
              refine wpAnyH_done (by kernel_rfl) ?_ _
              go_wp2_with fail
              go_ret
              exact ⟨by rw [HF.out]; rfl, hB.drew.trans (hB1.mono hzr)⟩
            · have HU2 := hid (show upTo js (k + 1) by rw [hc]; exact upTo_succ (by rw [← hc]; exact HU.out) (by rw [← hc]; omega))
              have hup' : rd js c < rd js k := by omega
              obtain ⟨u, hu⟩ : ∃ u, rd js c = u := ⟨_, rfl⟩
              rw [hu] at x2 hup'
              obtain ⟨x, hx⟩ : ∃ x, rd js k = x := ⟨_, rfl⟩
              obtain ⟨y, hy⟩ : ∃ y, rv js k = y := ⟨_, rfl⟩
              rw [hx] at x0 HRk hup'
              rw [hy] at x1 HRk
              clear hx hy
              clear hc hu hup
              go_wp2_with fail
              refine wp_region_held (S := fun W' : World => W'.cell? ⟨b, k * 2, none⟩ = some (.int .i64 x) ∧ W'.cell? ⟨b, k * 2 + 1, none⟩ = some (.int .i64 y) ∧ W'.cell? ⟨b, c * 2, none⟩ = some (.int .i64 u)) (by kernel_rfl) ?_
              change wpAnyH _ _ _ _ _ _ _ _ (World.drew _)
              have hS0 : (fun W' : World => W'.cell? ⟨b, k * 2, none⟩ = some (.int .i64 x) ∧ W'.cell? ⟨b, k * 2 + 1, none⟩ = some (.int .i64 y) ∧ W'.cell? ⟨b, c * 2, none⟩ = some (.int .i64 u)) wr.drew := ⟨x0, x1, x2⟩
              refine wpAnyH_takeD (some 20) (i := 0) (v := ?_) rfl rfl (by kernel_rfl) (by kernel_rfl) (by kernel_rfl) (fun _ _ _ h => h) (.inl ⟨by kernel_rfl, ?_⟩) hS0 ?_
              rotate_left
              · intro w' hw'; obtain ⟨hw1, hw2, hw3⟩ := hw'; go_simp; try with_reducible rfl
              try simp only [Act.put, List.setIfInBounds_toArray, List.set_cons_zero, List.set_cons_succ]
              refine wpAnyH_takeD (some 21) (i := 1) (v := ?_) rfl rfl (by kernel_rfl) (by kernel_rfl) (by kernel_rfl) (fun _ _ _ h => h) (.inl ⟨by kernel_rfl, ?_⟩) hS0 ?_
              rotate_left
              · intro w' hw'; obtain ⟨hw1, hw2, hw3⟩ := hw'; go_simp; try with_reducible rfl
              try simp only [Act.put, List.setIfInBounds_toArray, List.set_cons_zero, List.set_cons_succ]
              refine wpAnyH_takeD (some 22) (i := 2) (v := ?_) rfl rfl (by kernel_rfl) (by kernel_rfl) (by kernel_rfl) (fun _ _ _ h => h) (.inl ⟨by kernel_rfl, ?_⟩) hS0 ?_
              rotate_left
              · intro w' hw'; obtain ⟨hw1, hw2, hw3⟩ := hw'; go_simp; try with_reducible rfl
              try simp only [Act.put, List.setIfInBounds_toArray, List.set_cons_zero, List.set_cons_succ]
              refine wpAnyH_takeD (some 23) (i := 3) (v := ?_) rfl rfl (by kernel_rfl) (by kernel_rfl) (by kernel_rfl) (fun _ _ _ h => h) (.inl ⟨by kernel_rfl, ?_⟩) hS0 ?_
              rotate_left
              · intro w' hw'; obtain ⟨hw1, hw2, hw3⟩ := hw'; go_simp; try with_reducible rfl
              try simp only [Act.put, List.setIfInBounds_toArray, List.set_cons_zero, List.set_cons_succ]
              refine wpAnyH_takeD (some 24) (i := 4) (v := ?_) rfl rfl (by kernel_rfl) (by kernel_rfl) (by kernel_rfl) (fun _ _ _ h => h) (.inl ⟨by kernel_rfl, ?_⟩) hS0 ?_
              rotate_left
              · intro w' hw'; obtain ⟨hw1, hw2, hw3⟩ := hw'; go_simp; try with_reducible rfl
              try simp only [Act.put, List.setIfInBounds_toArray, List.set_cons_zero, List.set_cons_succ]
              refine wpAnyH_all (rs := [5]) (by kernel_rfl) (by simp) ?_
              intro i hi; simp only [List.mem_singleton] at hi; subst hi
              refine wpOp_step rfl (fun K hK => ?_)
              go_simp
              refine (HRk.out).mono ?_
              rintro e w1 ⟨rfl, hB1⟩
              have hS1 := And.intro ((hB1.cell (p := ⟨b, k * 2, none⟩) lb).trans x0) (And.intro ((hB1.cell (p := ⟨b, k * 2 + 1, none⟩) lb).trans x1) ((hB1.cell (p := ⟨b, c * 2, none⟩) lb).trans x2))
              refine hK _ _ ⟨hS1, ?_⟩
              try simp only [Act.put, List.setIfInBounds_toArray, List.set_cons_zero, List.set_cons_succ]
              refine wpAnyH_takeD (some 26) (i := 6) (v := ?_) rfl rfl (by kernel_rfl) (by kernel_rfl) (by kernel_rfl) (fun _ _ _ h => h) (.inl ⟨by kernel_rfl, ?_⟩) hS1 ?_
              rotate_left
              · intro w' hw'; obtain ⟨hw1, hw2, hw3⟩ := hw'; go_simp; try with_reducible rfl
              try simp only [Act.put, List.setIfInBounds_toArray, List.set_cons_zero, List.set_cons_succ]
              refine wpAnyH_takeD (some 27) (i := 7) (v := ?_) rfl rfl (by kernel_rfl) (by kernel_rfl) (by kernel_rfl) (fun _ _ _ h => h) (.inl ⟨by kernel_rfl, ?_⟩) hS1 ?_
              rotate_left
              · intro w' hw'; obtain ⟨hw1, hw2, hw3⟩ := hw'; go_simp; try with_reducible rfl
              try simp only [Act.put, List.setIfInBounds_toArray, List.set_cons_zero, List.set_cons_succ]
              refine wpAnyH_takeD (some 28) (i := 8) (v := ?_) rfl rfl (by kernel_rfl) (by kernel_rfl) (by kernel_rfl) (fun _ _ _ h => h) (.inl ⟨by kernel_rfl, ?_⟩) hS1 ?_
              rotate_left
              · intro w' hw'; obtain ⟨hw1, hw2, hw3⟩ := hw'; go_simp; try with_reducible rfl
              try simp only [Act.put, List.setIfInBounds_toArray, List.set_cons_zero, List.set_cons_succ]
              refine wpAnyH_takeD (some 29) (i := 9) (v := ?_) rfl rfl (by kernel_rfl) (by kernel_rfl) (by kernel_rfl) (fun _ _ _ h => h) (.inl ⟨by kernel_rfl, ?_⟩) hS1 ?_
              rotate_left
              · intro w' hw'; obtain ⟨hw1, hw2, hw3⟩ := hw'; go_simp; try with_reducible rfl
              try simp only [Act.put, List.setIfInBounds_toArray, List.set_cons_zero, List.set_cons_succ]
              refine wpAnyH_takeD (some 30) (i := 10) (v := ?_) rfl rfl (by kernel_rfl) (by kernel_rfl) (by kernel_rfl) (fun _ _ _ h => h) (.inl ⟨by kernel_rfl, ?_⟩) hS1 ?_
              rotate_left
              · intro w' hw'; obtain ⟨hw1, hw2, hw3⟩ := hw'; go_simp; try with_reducible rfl
              try simp only [Act.put, List.setIfInBounds_toArray, List.set_cons_zero, List.set_cons_succ]
              refine wpAnyH_takeD (some 31) (i := 11) (v := ?_) rfl rfl (by kernel_rfl) (by kernel_rfl) (by kernel_rfl) (fun _ _ _ h => h) (.inl ⟨by kernel_rfl, ?_⟩) hS1 ?_
              rotate_left
              · intro w' hw'; obtain ⟨hw1, hw2, hw3⟩ := hw'; go_simp; try with_reducible rfl
              try simp only [Act.put, List.setIfInBounds_toArray, List.set_cons_zero, List.set_cons_succ]
              refine wpAnyH_takeD (some 32) (i := 12) (v := ?_) rfl rfl (by kernel_rfl) (by kernel_rfl) (by kernel_rfl) (fun _ _ _ h => h) (.inl ⟨by kernel_rfl, ?_⟩) hS1 ?_
              rotate_left
              · intro w' hw'; obtain ⟨hw1, hw2, hw3⟩ := hw'; go_simp; try with_reducible rfl
              try simp only [Act.put, List.setIfInBounds_toArray, List.set_cons_zero, List.set_cons_succ]
              refine wpAnyH_takeD (some 33) (i := 13) (v := ?_) rfl rfl (by kernel_rfl) (by kernel_rfl) (by kernel_rfl) (fun _ _ _ h => h) (.inl ⟨by kernel_rfl, ?_⟩) hS1 ?_
              rotate_left
              · intro w' hw'; obtain ⟨hw1, hw2, hw3⟩ := hw'; go_simp; try with_reducible rfl
              try simp only [Act.put, List.setIfInBounds_toArray, List.set_cons_zero, List.set_cons_succ]
              refine wpAnyH_takeD (some 34) (i := 14) (v := ?_) rfl rfl (by kernel_rfl) (by kernel_rfl) (by kernel_rfl) (fun _ _ _ h => h) (.inl ⟨by kernel_rfl, ?_⟩) hS1 ?_
              rotate_left
              · intro w' hw'; obtain ⟨hw1, hw2, hw3⟩ := hw'; go_simp; try with_reducible rfl
              try simp only [Act.put, List.setIfInBounds_toArray, List.set_cons_zero, List.set_cons_succ]
              refine wpAnyH_takeD (some 35) (i := 15) (v := ?_) rfl rfl (by kernel_rfl) (by kernel_rfl) (by kernel_rfl) (fun _ _ _ h => h) (.inl ⟨by kernel_rfl, ?_⟩) hS1 ?_
              rotate_left
              · intro w' hw'; obtain ⟨hw1, hw2, hw3⟩ := hw'; go_simp; try with_reducible rfl
              try simp only [Act.put, List.setIfInBounds_toArray, List.set_cons_zero, List.set_cons_succ]
              refine wpAnyH_takeD (some 36) (i := 16) (v := ?_) rfl rfl (by kernel_rfl) (by kernel_rfl) (by kernel_rfl) (fun _ _ _ h => h) (.inl ⟨by kernel_rfl, ?_⟩) hS1 ?_
              rotate_left
              · intro w' hw'; obtain ⟨hw1, hw2, hw3⟩ := hw'; go_simp; try with_reducible rfl
              try simp only [Act.put, List.setIfInBounds_toArray, List.set_cons_zero, List.set_cons_succ]
              refine wpAnyH_takeD (some 37) (i := 17) (v := ?_) rfl rfl (by kernel_rfl) (by kernel_rfl) (by kernel_rfl) (fun _ _ _ h => h) (.inl ⟨by kernel_rfl, ?_⟩) hS1 ?_
              rotate_left
              · intro w' hw'; obtain ⟨hw1, hw2, hw3⟩ := hw'; go_simp; try with_reducible rfl
              try simp only [Act.put, List.setIfInBounds_toArray, List.set_cons_zero, List.set_cons_succ]
              refine wpAnyH_takeD (some 38) (i := 18) (v := ?_) rfl rfl (by kernel_rfl) (by kernel_rfl) (by kernel_rfl) (fun _ _ _ h => h) (.inl ⟨by kernel_rfl, ?_⟩) hS1 ?_
              rotate_left
              · intro w' hw'; obtain ⟨hw1, hw2, hw3⟩ := hw'; go_simp; try with_reducible rfl
              try simp only [Act.put, List.setIfInBounds_toArray, List.set_cons_zero, List.set_cons_succ]
              refine wpAnyH_takeD (some 39) (i := 19) (v := ?_) rfl rfl (by kernel_rfl) (by kernel_rfl) (by kernel_rfl) (fun _ _ _ h => h) (.inl ⟨by kernel_rfl, ?_⟩) hS1 ?_
              rotate_left
              · intro w' hw'; obtain ⟨hw1, hw2, hw3⟩ := hw'; go_simp; try with_reducible rfl
              try simp only [Act.put, List.setIfInBounds_toArray, List.set_cons_zero, List.set_cons_succ]
              refine wpAnyH_takeD (some 40) (i := 20) (v := ?_) rfl rfl (by kernel_rfl) (by kernel_rfl) (by kernel_rfl) (fun _ _ _ h => h) (.inl ⟨by kernel_rfl, ?_⟩) hS1 ?_
              rotate_left
              · intro w' hw'; obtain ⟨hw1, hw2, hw3⟩ := hw'; go_simp; try with_reducible rfl
              try simp only [Act.put, List.setIfInBounds_toArray, List.set_cons_zero, List.set_cons_succ]
              refine wpAnyH_takeD (some 41) (i := 21) (v := ?_) rfl rfl (by kernel_rfl) (by kernel_rfl) (by kernel_rfl) (fun _ _ _ h => h) (.inl ⟨by kernel_rfl, ?_⟩) hS1 ?_
              rotate_left
              · intro w' hw'; obtain ⟨hw1, hw2, hw3⟩ := hw'; go_simp; try with_reducible rfl
              try simp only [Act.put, List.setIfInBounds_toArray, List.set_cons_zero, List.set_cons_succ]
              refine wpAnyH_takeD (some 42) (i := 22) (v := ?_) rfl rfl (by kernel_rfl) (by kernel_rfl) (by kernel_rfl) (fun _ _ _ h => h) (.inl ⟨by kernel_rfl, ?_⟩) hS1 ?_
              rotate_left
              · intro w' hw'; obtain ⟨hw1, hw2, hw3⟩ := hw'; go_simp; try with_reducible rfl
              try simp only [Act.put, List.setIfInBounds_toArray, List.set_cons_zero, List.set_cons_succ]
              refine wpAnyH_takeD (some 43) (i := 23) (v := ?_) rfl rfl (by kernel_rfl) (by kernel_rfl) (by kernel_rfl) (fun _ _ _ h => h) (.inl ⟨by kernel_rfl, ?_⟩) hS1 ?_
              rotate_left
              · intro w' hw'; obtain ⟨hw1, hw2, hw3⟩ := hw'; go_simp; try with_reducible rfl
              try simp only [Act.put, List.setIfInBounds_toArray, List.set_cons_zero, List.set_cons_succ]
              refine wpAnyH_takeD (some 44) (i := 24) (v := ?_) rfl rfl (by kernel_rfl) (by kernel_rfl) (by kernel_rfl) (fun _ _ _ h => h) (.inl ⟨by kernel_rfl, ?_⟩) hS1 ?_
              rotate_left
              · intro w' hw'; obtain ⟨hw1, hw2, hw3⟩ := hw'; go_simp; try with_reducible rfl
              try simp only [Act.put, List.setIfInBounds_toArray, List.set_cons_zero, List.set_cons_succ]
              refine wpAnyH_done (by kernel_rfl) ?_ _
              go_wp2_with fail
              go_roundw
              case rel => exact ⟨k + 1, by omega, by go_num, HT2.out, HU2.out, hB.drew.trans (hB1.mono hzr)⟩
              case measure => simp [intOf]; omega
      · obtain rfl : k = n := by omega
        have HF := hid (okG_yes HVV.out (by rw [← hN.out]; omega) (by rw [← hN.out]; exact HT.out) (by rw [← hN.out]; exact HU.out))
        go_wp2_with fail
        go_ret
        exact ⟨by rw [HF.out]; rfl, hB⟩
end Go.Proofs.YtcanfcpofihoeaaGreatDoor

namespace Go.Proofs.YtcanfcpofihoeaaGreatDoor
open Go
section
variable {F : Fence} {n : Nat} {P : Program} {ops : Array Oper} {Q : Exit → Act → World → Prop} {md : Region.Mode} {S : World → Prop}
theorem anyS_call {i : Nat} {o : Oper} {fuel : Nat} {listed : Array Bool} {a : Act} {w : World} (hr : Region.ready md ops listed = [i]) (ho : ops[i]? = some o) (hw : Region.wanted o (yielded ops a.tmps) = true)
    (h : ∀ K : Act → World → Prop, (∀ a w, S w → anyS F n P md ops Q S fuel (listed.setIfInBounds i true) a w → K a w) → Oper.wpIn F n P o a w K Q) : anyS F n P md ops Q S (fuel + 1) listed a w :=
  ⟨fun h0 => (by rw [hr] at h0; cases h0), fun j hj => by
    rw [hr] at hj
    obtain rfl : j = i := by simpa using hj
    unfold wpOpIn
    simp only [ho, hw, if_true]
    exact h _ (fun a w hS hk => ⟨hS, hk⟩)⟩
/-- two calls may come up, either one first -/
theorem anyS_two {i k : Nat} {oi ok : Oper} {fuel : Nat} {listed : Array Bool} {a : Act} {w : World} (hr : Region.ready md ops listed = [i, k]) (hi : ops[i]? = some oi) (hk : ops[k]? = some ok)
    (hwi : Region.wanted oi (yielded ops a.tmps) = true) (hwk : Region.wanted ok (yielded ops a.tmps) = true)
    (h1 : ∀ K : Act → World → Prop, (∀ a w, S w → anyS F n P md ops Q S fuel (listed.setIfInBounds i true) a w → K a w) → Oper.wpIn F n P oi a w K Q)
    (h2 : ∀ K : Act → World → Prop, (∀ a w, S w → anyS F n P md ops Q S fuel (listed.setIfInBounds k true) a w → K a w) → Oper.wpIn F n P ok a w K Q) : anyS F n P md ops Q S (fuel + 1) listed a w :=
  ⟨fun h0 => (by rw [hr] at h0; cases h0), fun j hj => by
    rw [hr] at hj
    unfold wpOpIn
    rcases (by simpa using hj : j = i ∨ j = k) with rfl | rfl
    · simp only [hi, hwi, if_true]
      exact h1 _ (fun a w hS hk => ⟨hS, hk⟩)
    · simp only [hk, hwk, if_true]
      exact h2 _ (fun a w hS hk => ⟨hS, hk⟩)⟩
end
end Go.Proofs.YtcanfcpofihoeaaGreatDoor

namespace Go.Proofs.YtcanfcpofihoeaaGreatDoor
open Go.RowKit Go.Shelf
set_option linter.unusedSimpArgs false
set_option linter.unusedVariables false
/-- an append as one operation of a region that draws its order, inside a fence -/
theorem opIn_append_own {F : Fence} {n : Nat} {P : Program} (w : World) {o : Oper} {a : Act} {Q : Exit → Act → World → Prop} {K : Act → World → Prop}
    (s x : Operand) (t : TypeId) (hop : o.op = Op.call { callee := Callee.builtin Builtin.append, args := #[s, x], argTypes := #[t, t] })
    (base : Nat) (e : TypeId) (i : TypeInfo) (z : Value) (size bytes : Nat) (h1 : P.underlying t = some (.slice e)) (h2 : P.info? e = some i) (h3 : i.zero = some z) (h4 : i.size = size) (h5 : i.bytes = bytes) (h6 : z.cells.size = size) (h7 : 0 < size)
    (v : Value) (k : Nat) (xs : List Value) (hs : a.eval s = v) (hown : w.ownsRow base e size v k xs) (ad : Addr) (m c : Nat) (news : List Value) (hx : a.eval x = .slice (some ad) m c) (hn : news.length = m * size)
    (hc : ∀ j u, news[j]? = some u → w.cell? (ad.add j) = some u) (h1c : ∀ u ∈ news, u.oneCell' = true) (b1 : k + m ≤ maxLen) (b2 : (k + m) * bytes ≤ 140737488355328) (b3 : base ≤ w.heap.size)
    (hK : ∀ v' w', w'.ownsRow base e size v' (k + m) (xs ++ news) → w.grownBy w' v.ownBlock → K (a.put o.dst v') w') :
    Oper.wpIn F n P o a w K Q := by
  obtain ⟨v', w', hrun, r1, r2, r3⟩ := run_append_own (P := P) w base t o.type e i z size bytes h1 h2 h3 h4 h5 h6 h7 v k xs hown ad m c news hn hc h1c b1 b2 b3
  unfold Oper.wpIn
  refine ⟨?_, ?_⟩
  · simp [Oper.about, hop, resolve, Target.leads, Sem.run_pure]
  · rw [Oper.semAt_plain F _ _ (by rw [hop]; intro c hc'; cases hc')]
    simp [execOp, hop, resolve, invoke, builtin, hs, hx, hrun, Result.andThen]
    exact hK v' w' r1 r2
theorem Tryz.infoStr : (Tryz.prog.info? 9).map (fun i => (i.zero, i.size, i.bytes)) = some (some (.string ⟨#[]⟩), 1, 16) := by kernel_rfl
section
def ug (zs : List Int) (j : Nat) : Int := zs[j]?.getD 0
def buA (js : List Int) (d : Nat) : Array Value := #[.int .i64 (d : Int), .int .u8 (ug js d)]
set_option maxRecDepth 100000 in
set_option maxHeartbeats 4000000 in
theorem bu1_in (F : Fence) (m : Nat) (hf : F.fn 101) (hro : F.round = none) (hm : 1 ≤ m) (l Bs b n cap : Nat) (js : List Int) (hn : n = js.length) (hl : n ≤ 1048576) (J Jx : List (Fin n) → World → Prop)
    (hY : ∀ pre (x : Fin n) W, J pre W → pre.length < n → YieldAt F (m - 1) Tryz.prog l (buA js (n - 1 - x.1)) W fun e W' =>
      (e = .returned (.bool true) ∧ J (pre ++ [x]) W' ∧ KeepB (fun g => g = b ∨ g = Bs) W W') ∨ (e = .returned (.bool false) ∧ Jx (pre ++ [x]) W'))
    (W : World) (hBs : W.cell? ⟨Bs, 0, none⟩ = some (.slice (some ⟨b, 0, none⟩) n cap)) (hc : ∀ j, j < n → W.cell? ⟨b, j, none⟩ = some (.int .u8 (ug js j))) (h0 : J [] W) :
    CallsIn F m Tryz.prog 101 #[.func (.yield l) #[] #[], .pointer (some ⟨Bs, 0, none⟩)] W fun e W' => (∃ v, e = .returned v) ∧
      ((∃ ys, ys = List.finRange n ∧ J ys W') ∨ (∃ pre, (∃ k, k ≤ n ∧ pre = (List.finRange n).take k) ∧ Jx pre W')) := by
  have hC := hid hc
  have hBB := hid hBs
  have hbx0 := hBs
  clear hn hc hBs
  refine callsIn_of_wp Tryz.func101 rfl hf ?_ hro
  simp only [Tryz.ntmps101, List.size_toArray, List.length_cons, List.length_nil, Nat.reduceAdd, Nat.reduceSub, Array.replicate_succ, Array.replicate_zero, List.push_toArray, List.append_toArray, List.nil_append, List.cons_append]
  have t0 : IntKind.i64.wrap ((n : Int) - 1) = (n : Int) - 1 := IntWalk.i64_in _ (by omega)
  gi_wp2
  clear hbx0
  gi_loopw [3] (fun i wr => ∃ (k c : Nat) (z : Int), k + c = n ∧ i = .int .i64 z ∧ z = (c : Int) - 1 ∧ J ((List.finRange n).take k) wr ∧ KeepB (fun g => g = b ∨ g = Bs) W wr)
    (fun i _ => (intOf i + 1).toNat)
  case atStart => exact ⟨0, n, (n : Int) - 1, by omega, rfl, rfl, h0, KeepB.refl _ _⟩
  case round =>
    obtain ⟨k, c, z, hkc, rfl, hz, hJs, hK⟩ := hrel
    have hbx := (hK.cell (g := Bs) (.inr rfl) 0).trans hBB.out
    have HZ := hid hz
    have HKC := hid hkc
    by_cases h0c : c = 0
    · have hzn : ¬ (0 : Int) ≤ z := by omega
      have hzn2 : z < 0 := by omega
      have hkn : k = n := by omega
      clear hz hkc
      gi_wp2
      go_end0
      rw [hkn, finTake_all n] at hJs
      exact ⟨⟨_, rfl⟩, .inl hJs⟩
    · obtain ⟨d, hd⟩ : ∃ d, c = d + 1 := ⟨c - 1, by omega⟩
      obtain rfl : z = (d : Int) := by omega
      have hdn : d < n := by omega
      have hlt : k < n := by omega
      have hd0 : (0 : Int) ≤ (d : Int) := by omega
      have hdn' : (d : Int) < (n : Int) := by omega
      have x0 := (hK.cell (g := b) (.inl rfl) d).trans (hC.out d hdn)
      obtain ⟨fn, tmps, assign, body, hy, hR⟩ := hY _ ⟨k, hlt⟩ wr hJs (by rw [finTake_length n k (by omega)]; exact hlt)
      have hlen := hid (finTake_succ n k hlt)
      unfold buA at hy
      dsimp only at hy
      rw [show n - 1 - k = d by omega] at hy
      obtain ⟨p, hp⟩ : ∃ p, ug js d = p := ⟨_, rfl⟩
      rw [hp] at x0 hy
      have tz : IntKind.i64.wrap ((d : Int) - 1) = (d : Int) - 1 := IntWalk.i64_in _ (by omega)
      have HD := hid hd
      clear hp hz hkc hd
      gi_wp2
      refine hR.mono ?_
      rintro e W3 h3
      obtain ⟨bv, rfl, h3a, h3b⟩ := yield_two h3
      cases bv
      · have h5 := hid (h3b rfl)
        gi_wp2
        refine bodyPost_ret (results_none rfl _ _ _) rfl ?_
        exact ⟨⟨_, rfl⟩, .inr ⟨_, ⟨k + 1, by omega, hlen.out.symm⟩, h5.out⟩⟩
      · have h5 := hid (h3a rfl)
        gi_wp2
        go_roundw
        case rel => exact ⟨k + 1, d, (d : Int) - 1, by have := HKC.out; have := HD.out; omega, by first | rfl | go_num, rfl, by rw [hlen.out]; exact h5.out.1, hK.trans h5.out.2⟩
        case measure => simp [intOf] <;> omega
theorem bu_in (F : Fence) (m : Nat) (hf : F.fn 77) (hro : F.round = none) (a : Option Addr) (len cap : Nat) (w : World) :
    CallsIn F m Tryz.prog 77 #[.slice a len cap] w fun e w' => e = .returned (.func (.func 101) #[] #[.pointer (some ⟨w.heap.size, 0, none⟩)]) ∧ w' = w.alloc (.cells #[.slice a len cap] 22) := by
  refine callsIn_of_wp Tryz.func77 rfl hf ?_ hro
  simp only [Tryz.ntmps77, List.size_toArray, List.length_cons, List.length_nil, Nat.reduceAdd, Nat.reduceSub, Array.replicate_succ, Array.replicate_zero, List.push_toArray, List.append_toArray, List.nil_append, List.cons_append]
  gi_wp2
  go_ret
  exact ⟨rfl, rfl⟩
theorem bu_stops (F : Fence) (m : Nat) (hf : F.fn 101) (hro : F.round = none) (hm : 1 ≤ m) (Bs b n cap : Nat) (js : List Int) (hn : n = js.length) (hl : n ≤ 1048576) (w : World) (hBs : Bs < w.heap.size) (hb : b < w.heap.size)
    (hc : w.cell? ⟨Bs, 0, none⟩ = some (.slice (some ⟨b, 0, none⟩) n cap)) (hI : ∀ j, j < n → w.cell? ⟨b, j, none⟩ = some (.int .u8 (ug js j))) :
    SeqStopsK F m Tryz.prog 101 #[.pointer (some ⟨Bs, 0, none⟩)] (fun x : Fin n => buA js (n - 1 - x.1)) (KeepB (fun g => g = b ∨ g = Bs)) (fun ys => ys = List.finRange n)
      (fun pre => ∃ k, k ≤ n ∧ pre = (List.finRange n).take k) n w := fun l J Jx W hW hA _ hY h0 => by
  exact bu1_in F m hf hro hm l Bs b n cap js hn hl J Jx hY W ((hW.cell (p := ⟨Bs, 0, none⟩) hBs).trans hc)
    (fun j hj => (hW.cell (p := ⟨b, j, none⟩) hb).trans (hI j hj)) h0
end
end Go.Proofs.YtcanfcpofihoeaaGreatDoor
