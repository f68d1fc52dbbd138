/- Texts of this seat, merged: Math Base Open Reads Rounds RoundsC Keep Itv ItvS FlowM Valid Places. -/
import Derived.Below
import Derived.IntWalk
import Derived.Test.YtofpgkbcodopiaaProg
import Derived.WalkKit
import Derived.WalkSpells
import Derived.WalkLawsBesides
import Derived.Deep.QuietTactic
import Derived.BigQuiet
import Derived.ProofKit
import Derived.OpenShut
import Derived.ShutString
import Derived.ChangeOld
import Derived.JoinedOf
import Derived.KernelRfl
import Derived.Lib.SmallJoins
import Derived.Deep.RegionHeld3
import Derived.Deep.Slices
import Derived.Deep.Fields
import Derived.RegionTactic
import Derived.RegionIn
import Derived.OrdersHeld
import Derived.OrdersIn
import Derived.RangeFuncNested
import Derived.RangeFuncBound
import Derived.RangeFuncCalls
import Derived.RangeFuncLeaves
import Derived.RangeFuncBox
import Derived.Shelf.Abstract
import Derived.Shelf.RegionOpen
import Derived.OwnWalkIn
import Derived.TacticsInMore
import Derived.LoopNIn
import Derived.LoopIn
import Derived.Sort.CutIn
import Derived.Stop.RegionWithIn
import Derived.BigRegionIn
namespace Go.Proofs.Ytofpgkbcodopiaa
open Go.RowKit

theorem hid {p : Prop} (h : p) : Hid p := h

/-- the product of all bases -/
def szL (zs : List Int) : Int := zs.foldl (· * ·) 1
def okL (zs : List Int) : Bool := decide (1 ≤ zs.length ∧ zs.length ≤ 8 ∧ (∀ z ∈ zs, 2 ≤ z ∧ z ≤ 100) ∧ szL zs ≤ 1000000000000)

theorem szL_nil : szL [] = 1 := rfl
theorem szL_snoc (zs : List Int) (z : Int) : szL (zs ++ [z]) = szL zs * z := by simp [szL]
theorem take_snoc' (zs : List Int) (k : Nat) (h : k < zs.length) : zs.take (k + 1) = zs.take k ++ [zs[k]?.getD 0] := by
  rw [List.take_succ_eq_append_getElem h]; simp [h]
theorem szL_take (zs : List Int) (k : Nat) (h : k < zs.length) : szL (zs.take (k + 1)) = szL (zs.take k) * (zs[k]?.getD 0) := by
  rw [take_snoc' zs k h, szL_snoc]
/-- each of the first k bases lies within its bounds -/
def inB (zs : List Int) (k : Nat) : Prop := ∀ j, j < k → 2 ≤ zs[j]?.getD 0 ∧ zs[j]?.getD 0 ≤ 100
theorem inB_zero (zs : List Int) : inB zs 0 := fun j h => by omega
theorem inB_succ {zs : List Int} {k : Nat} (h : inB zs k) (h2 : 2 ≤ zs[k]?.getD 0) (h3 : zs[k]?.getD 0 ≤ 100) : inB zs (k + 1) := fun j hj => by
  by_cases e : j = k
  · subst e; exact ⟨h2, h3⟩
  · exact h j (by omega)
theorem inB_mem {zs : List Int} (h : inB zs zs.length) : ∀ z ∈ zs, 2 ≤ z ∧ z ≤ 100 := fun z hz => by
  obtain ⟨j, hj, rfl⟩ := List.mem_iff_getElem.1 hz
  have := h j hj
  simpa [hj] using this
theorem mem_inB {zs : List Int} (h : ∀ z ∈ zs, 2 ≤ z ∧ z ≤ 100) (k : Nat) (hk : k ≤ zs.length) : inB zs k := fun j hj => by
  have hj' : j < zs.length := by omega
  have := h zs[j] (List.getElem_mem hj')
  simpa [hj'] using this
theorem pow_bd : ∀ (k : Nat), k ≤ 8 → (100 : Int) ^ k ≤ 10000000000000000
  | 0, _ => by decide
  | 1, _ => by decide
  | 2, _ => by decide
  | 3, _ => by decide
  | 4, _ => by decide
  | 5, _ => by decide
  | 6, _ => by decide
  | 7, _ => by decide
  | 8, _ => by decide
  | n + 9, h => by omega
theorem szL_bd (zs : List Int) : ∀ (k : Nat), k ≤ zs.length → inB zs k → 1 ≤ szL (zs.take k) ∧ szL (zs.take k) ≤ 100 ^ k
  | 0, _, _ => by simp [szL]
  | k + 1, hk, h => by
    have ih := szL_bd zs k (by omega) (fun j hj => h j (by omega))
    have hz := h k (by omega)
    rw [szL_take zs k (by omega)]
    obtain ⟨p, hp⟩ : ∃ p, p = szL (zs.take k) := ⟨_, rfl⟩
    obtain ⟨z, hz'⟩ : ∃ z, z = zs[k]?.getD 0 := ⟨_, rfl⟩
    rw [← hp] at ih; rw [← hz'] at hz; rw [← hp, ← hz']
    refine ⟨?_, ?_⟩
    · have : 1 * 1 ≤ p * z := Int.mul_le_mul ih.1 (by omega) (by omega) (by omega)
      omega
    · rw [Int.pow_succ]
      exact Int.mul_le_mul ih.2 hz.2 (by omega) (by have := ih.1; omega)
theorem szL_mono (zs : List Int) (k : Nat) (hk : k < zs.length) (h : inB zs (k + 1)) : 2 * szL (zs.take k) ≤ szL (zs.take (k + 1)) := by
  have ih := szL_bd zs k (by omega) (fun j hj => h j (by omega))
  rw [szL_take zs k hk]
  have hz := h k (by omega)
  have : szL (zs.take k) * 2 ≤ szL (zs.take k) * zs[k]?.getD 0 := Int.mul_le_mul_of_nonneg_left hz.1 (by omega)
  omega
/-- the bounds of a product that the walk wants -/
theorem szL_step (zs : List Int) (k : Nat) (hk : k < zs.length) (h8 : zs.length ≤ 8) (h : inB zs (k + 1)) :
    1 ≤ szL (zs.take k) ∧ szL (zs.take k) ≤ 10000000000000000 ∧ 1 ≤ szL (zs.take k) * zs[k]?.getD 0 ∧ szL (zs.take k) * zs[k]?.getD 0 ≤ 10000000000000000 := by
  have a := szL_bd zs k (by omega) (fun j hj => h j (by omega))
  have b := szL_bd zs (k + 1) (by omega) h
  rw [szL_take zs k hk] at b
  have p1 := pow_bd k (by omega)
  have p2 := pow_bd (k + 1) (by omega)
  exact ⟨a.1, Int.le_trans a.2 p1, b.1, Int.le_trans b.2 p2⟩
theorem okL_len0 (zs : List Int) (h : zs.length < 1) : okL zs = false := by simp [okL]; omega
theorem okL_len9 (zs : List Int) (h : 8 < zs.length) : okL zs = false := by simp [okL]; omega
theorem okL_low (zs : List Int) (k : Nat) (hk : k < zs.length) (h : zs[k]?.getD 0 < 2) : okL zs = false := by
  simp only [okL, decide_eq_false_iff_not, not_and]
  intro _ _ hall
  have := hall zs[k] (List.getElem_mem hk)
  simp [hk] at h
  omega
theorem okL_high (zs : List Int) (k : Nat) (hk : k < zs.length) (h : 100 < zs[k]?.getD 0) : okL zs = false := by
  simp only [okL, decide_eq_false_iff_not, not_and]
  intro _ _ hall
  have := hall zs[k] (List.getElem_mem hk)
  simp [hk] at h
  omega
theorem okL_end (zs : List Int) (h1 : 1 ≤ zs.length) (h8 : zs.length ≤ 8) (h : inB zs zs.length) : okL zs = decide (szL zs ≤ 1000000000000) := by
  simp only [okL]
  have := inB_mem h
  by_cases hs : szL zs ≤ 1000000000000
  · simp only [hs, decide_true, decide_eq_true_eq]; exact ⟨h1, h8, this, trivial⟩
  · simp [hs]
/-- what okL says -/
theorem okL_out {zs : List Int} (h : okL zs = true) : 1 ≤ zs.length ∧ zs.length ≤ 8 ∧ inB zs zs.length ∧ 1 ≤ szL zs ∧ szL zs ≤ 1000000000000 := by
  simp only [okL, decide_eq_true_eq] at h
  obtain ⟨h1, h8, hall, hs⟩ := h
  have hi := mem_inB hall zs.length (Nat.le_refl _)
  have := szL_bd zs zs.length (Nat.le_refl _) hi
  rw [List.take_length] at this
  exact ⟨h1, h8, hi, this.1, hs⟩

/-! ### digits: a list of eight numbers -/
/-- the digits of the wheels are less than their bases, all others are 0 -/
def okTo (zs ds : List Int) (k : Nat) : Prop := ∀ j, j < k → (j < zs.length → ds[j]?.getD 0 < zs[j]?.getD 0) ∧ (zs.length ≤ j → ds[j]?.getD 0 = 0)
def okD (zs ds : List Int) : Bool := (List.range 8).all fun j => if j < zs.length then decide (ds[j]?.getD 0 < zs[j]?.getD 0) else decide (ds[j]?.getD 0 = 0)
def okV (zs ds : List Int) : Bool := okL zs && okD zs ds
theorem okTo_zero (zs ds : List Int) : okTo zs ds 0 := fun j h => by omega
theorem okTo_low {zs ds : List Int} {k : Nat} (h : okTo zs ds k) (hk : k < zs.length) (e : ds[k]?.getD 0 < zs[k]?.getD 0) : okTo zs ds (k + 1) := fun j hj => by
  by_cases h' : j = k
  · subst h'; exact ⟨fun _ => e, fun h2 => by omega⟩
  · exact h j (by omega)
theorem okTo_high {zs ds : List Int} {k : Nat} (h : okTo zs ds k) (hk : zs.length ≤ k) (e : ds[k]?.getD 0 = 0) : okTo zs ds (k + 1) := fun j hj => by
  by_cases h' : j = k
  · subst h'; exact ⟨fun _ => by omega, fun _ => e⟩
  · exact h j (by omega)
theorem okD_of {zs ds : List Int} (h : okTo zs ds 8) : okD zs ds = true := by
  simp only [okD, List.all_eq_true, List.mem_range]
  intro j hj
  have := h j hj
  split
  · simp [this.1 (by assumption)]
  · simp [this.2 (by omega)]
theorem okD_out {zs ds : List Int} (h : okD zs ds = true) : okTo zs ds 8 := by
  simp only [okD, List.all_eq_true, List.mem_range] at h
  intro j hj
  have := h j hj
  by_cases h' : j < zs.length
  · rw [if_pos h'] at this
    exact ⟨fun _ => by simpa using this, fun h2 => by omega⟩
  · rw [if_neg h'] at this
    exact ⟨fun h2 => absurd h2 h', fun _ => by simpa using this⟩
theorem okD_low {zs ds : List Int} (k : Nat) (hk : k < 8) (hz : k < zs.length) (e : zs[k]?.getD 0 ≤ ds[k]?.getD 0) : okD zs ds = false := by
  cases h : okD zs ds with
  | false => rfl
  | true => have := (okD_out h k hk).1 hz; omega
theorem okD_high {zs ds : List Int} (k : Nat) (hk : k < 8) (hz : zs.length ≤ k) (e : ds[k]?.getD 0 ≠ 0) : okD zs ds = false := by
  cases h : okD zs ds with
  | false => rfl
  | true => have := (okD_out h k hk).2 hz; exact absurd this e
theorem okV_no {zs ds : List Int} (h : okL zs = false) : okV zs ds = false := by simp [okV, h]
theorem okV_yes {zs ds : List Int} (h : okL zs = true) : okV zs ds = okD zs ds := by simp [okV, h]
theorem okV_out {zs ds : List Int} (h : okV zs ds = true) : okL zs = true ∧ okD zs ds = true := by simpa [okV] using h

/-! ### values -/
def valL (zs ds : List Int) : Nat → Int
  | 0 => 0
  | k + 1 => valL zs ds k + ds[k]?.getD 0 * szL (zs.take k)
/-- the digits of the first k wheels are less than their bases -/
def ltTo (zs ds : List Int) (k : Nat) : Prop := ∀ j, j < k → 0 ≤ ds[j]?.getD 0 ∧ ds[j]?.getD 0 < zs[j]?.getD 0
theorem valL_bd (zs ds : List Int) : ∀ k, k ≤ zs.length → inB zs k → ltTo zs ds k → 0 ≤ valL zs ds k ∧ valL zs ds k < szL (zs.take k)
  | 0, _, _, _ => by simp [valL, szL]
  | k + 1, hk, hi, hl => by
    have ih := valL_bd zs ds k (by omega) (fun j hj => hi j (by omega)) (fun j hj => hl j (by omega))
    have hs := (szL_bd zs k (by omega) (fun j hj => hi j (by omega))).1
    have hd := hl k (by omega)
    rw [szL_take zs k (by omega)]
    simp only [valL]
    obtain ⟨p, hp⟩ : ∃ p, p = szL (zs.take k) := ⟨_, rfl⟩
    obtain ⟨z, hz⟩ : ∃ z, z = zs[k]?.getD 0 := ⟨_, rfl⟩
    obtain ⟨d, hd'⟩ : ∃ d, d = ds[k]?.getD 0 := ⟨_, rfl⟩
    rw [← hp] at ih hs; rw [← hz, ← hd'] at hd; rw [← hp, ← hz, ← hd']
    have h1 : 0 ≤ d * p := Int.mul_nonneg hd.1 (by omega)
    have h2 : (d + 1) * p ≤ z * p := Int.mul_le_mul_of_nonneg_right (by omega) (by omega)
    rw [Int.add_mul, Int.one_mul] at h2
    rw [Int.mul_comm p z]
    omega
/-- the bounds that a sum over the places wants -/
theorem valL_step (zs ds : List Int) (k : Nat) (hk : k < zs.length) (h8 : zs.length ≤ 8) (hi : inB zs (k + 1)) (hl : ltTo zs ds (k + 1)) :
    0 ≤ ds[k]?.getD 0 * szL (zs.take k) ∧ ds[k]?.getD 0 * szL (zs.take k) ≤ 10000000000000000 ∧ 0 ≤ valL zs ds k ∧ valL zs ds k ≤ 10000000000000000 ∧ valL zs ds (k + 1) ≤ 10000000000000000 := by
  have a := valL_bd zs ds k (by omega) (fun j hj => hi j (by omega)) (fun j hj => hl j (by omega))
  have b := valL_bd zs ds (k + 1) (by omega) hi hl
  have c := szL_step zs k hk h8 hi
  rw [szL_take zs k hk] at b
  have hs := (szL_bd zs k (by omega) (fun j hj => hi j (by omega))).1
  have h1 : 0 ≤ ds[k]?.getD 0 * szL (zs.take k) := Int.mul_nonneg (hl k (by omega)).1 (by omega)
  have e : valL zs ds (k + 1) = valL zs ds k + ds[k]?.getD 0 * szL (zs.take k) := rfl
  omega
/-- the sum that a walk over the wheels comes to, wraps and all -/
def vfold {n : Nat} (zs ds : List Int) (pre : List (Fin n)) : Int := pre.foldl (fun s x => wrap64 (s + ds[x.1]?.getD 0 * szL (zs.take x.1))) 0
theorem vfold_snoc {n : Nat} (zs ds : List Int) (pre : List (Fin n)) (x : Fin n) : vfold zs ds (pre ++ [x]) = wrap64 (vfold zs ds pre + ds[x.1]?.getD 0 * szL (zs.take x.1)) := by simp [vfold]
theorem finTake_succ (n k : Nat) (hk : k < n) : (List.finRange n).take (k + 1) = (List.finRange n).take k ++ [⟨k, hk⟩] := by
  rw [List.take_succ_eq_append_getElem (by simpa using hk)]
  simp
theorem finTake_length (n k : Nat) (hk : k ≤ n) : ((List.finRange n).take k).length = k := by simp [hk]
theorem finTake_all (n : Nat) : (List.finRange n).take n = List.finRange n := List.take_of_length_le (by simp)
theorem vfold_take {n : Nat} (zs ds : List Int) (hn : n ≤ zs.length) (h8 : zs.length ≤ 8) (hi : inB zs n) (hl : ltTo zs ds n) : ∀ k, k ≤ n → vfold zs ds ((List.finRange n).take k) = valL zs ds k
  | 0, _ => rfl
  | k + 1, hk => by
    rw [finTake_succ n k (by omega), vfold_snoc, vfold_take zs ds hn h8 hi hl k (by omega)]
    have b := valL_step zs ds k (by omega) h8 (fun j hj => hi j (by omega)) (fun j hj => hl j (by omega))
    show wrap64 (valL zs ds k + ds[k]?.getD 0 * szL (zs.take k)) = valL zs ds (k + 1)
    have e : valL zs ds (k + 1) = valL zs ds k + ds[k]?.getD 0 * szL (zs.take k) := rfl
    rw [e]
    exact IntWalk.wrap64_in _ ⟨by omega, by omega⟩
theorem vfold_all {n : Nat} (zs ds : List Int) (hn : n ≤ zs.length) (h8 : zs.length ≤ 8) (hi : inB zs n) (hl : ltTo zs ds n) : vfold zs ds (List.finRange n) = valL zs ds n := by
  have := vfold_take zs ds hn h8 hi hl n (Nat.le_refl _)
  rwa [finTake_all] at this
theorem okD_lt {zs ds : List Int} (h : okD zs ds = true) (h8 : zs.length ≤ 8) (hd : ∀ j, j < 8 → 0 ≤ ds[j]?.getD 0) : ltTo zs ds zs.length := fun j hj =>
  ⟨hd j (by omega), (okD_out h j (by omega)).1 hj⟩

/-! ### the digits of a value -/
def dgL (zs : List Int) (v : Int) : List Int := (List.range 8).map fun k => if k < zs.length then v / szL (zs.take k) % zs[k]?.getD 0 else 0
theorem dgL_get (zs : List Int) (v : Int) (k : Nat) (hk : k < 8) : (dgL zs v)[k]?.getD 0 = if k < zs.length then v / szL (zs.take k) % zs[k]?.getD 0 else 0 := by simp [dgL, hk]
theorem dgL_len (zs : List Int) (v : Int) : (dgL zs v).length = 8 := by simp [dgL]
theorem dgL_bd (zs : List Int) (v : Int) (hz : inB zs zs.length) (k : Nat) (hk : k < 8) : 0 ≤ (dgL zs v)[k]?.getD 0 ∧ (dgL zs v)[k]?.getD 0 ≤ 99 := by
  rw [dgL_get zs v k hk]
  split
  · have := hz k (by assumption)
    have h1 := Int.emod_nonneg (v / szL (zs.take k)) (show zs[k]?.getD 0 ≠ 0 by omega)
    have h2 := Int.emod_lt_of_pos (v / szL (zs.take k)) (show 0 < zs[k]?.getD 0 by omega)
    omega
  · omega
theorem dgL_okD (zs : List Int) (v : Int) (hz : inB zs zs.length) : okD zs (dgL zs v) = true := okD_of fun k hk => by
  rw [dgL_get zs v k hk]
  refine ⟨fun h => ?_, fun h => by rw [if_neg (by omega)]⟩
  rw [if_pos h]
  have := hz k h
  exact Int.emod_lt_of_pos _ (by omega)

/-! ### writing the digits, wheel by wheel -/
def dg (l : List Int) (i : Nat) : Int := l[i]?.getD 0
def zero8 : List Value := [.int .u8 0, .int .u8 0, .int .u8 0, .int .u8 0, .int .u8 0, .int .u8 0, .int .u8 0, .int .u8 0]
def dset (zs : List Int) (v : Int) (l : List Value) (k : Nat) : List Value := l.set k (.int .u8 (v / szL (zs.take k) % zs[k]?.getD 0))
def dfold {n : Nat} (zs : List Int) (v : Int) (pre : List (Fin n)) : List Value := pre.foldl (fun l x => dset zs v l x.1) zero8
theorem dfold_snoc {n : Nat} (zs : List Int) (v : Int) (pre : List (Fin n)) (x : Fin n) : dfold zs v (pre ++ [x]) = (dfold zs v pre).set x.1 (.int .u8 (v / szL (zs.take x.1) % zs[x.1]?.getD 0)) := by simp [dfold, dset]
theorem dfold_len {n : Nat} (zs : List Int) (v : Int) (pre : List (Fin n)) : (dfold zs v pre).length = 8 := by
  have key : ∀ (pre : List (Fin n)) (l : List Value), l.length = 8 → (pre.foldl (fun l x => dset zs v l x.1) l).length = 8 := by
    intro pre
    induction pre with
    | nil => intro l h; exact h
    | cons x xs ih => intro l h; exact ih _ (by simp [dset, h])
  exact key pre zero8 rfl
/-- what k wheels have made -/
def dto (zs : List Int) (v : Int) (k : Nat) : List Value := (List.range 8).map fun j => .int .u8 (if j < k then v / szL (zs.take j) % zs[j]?.getD 0 else 0)
theorem dto_succ (zs : List Int) (v : Int) (k : Nat) (hk : k < 8) : (dto zs v k).set k (.int .u8 (v / szL (zs.take k) % zs[k]?.getD 0)) = dto zs v (k + 1) := by
  apply List.ext_getElem?
  intro j
  simp only [dto, List.getElem?_set, List.getElem?_map, List.length_map, List.length_range]
  by_cases hj : k = j
  · subst hj
    simp [hk]
  · rw [if_neg hj]
    by_cases h8 : j < 8
    · simp only [List.getElem?_range h8, Option.map_some]
      by_cases h : j < k
      · rw [if_pos h, if_pos (by omega)]
      · rw [if_neg h, if_neg (by omega)]
    · simp [List.getElem?_eq_none (show (List.range 8).length ≤ j by simp; omega)]
theorem dto_zero (zs : List Int) (v : Int) : dto zs v 0 = zero8 := rfl
theorem dfold_take {n : Nat} (zs : List Int) (v : Int) (h8 : n ≤ 8) : ∀ k, k ≤ n → dfold zs v ((List.finRange n).take k) = dto zs v k
  | 0, _ => rfl
  | k + 1, hk => by
    rw [finTake_succ n k (by omega), dfold_snoc, dfold_take zs v h8 k (by omega)]
    exact dto_succ zs v k (by omega)
theorem dto_all (zs : List Int) (v : Int) : dto zs v zs.length = [.int .u8 (dg (dgL zs v) 0), .int .u8 (dg (dgL zs v) 1), .int .u8 (dg (dgL zs v) 2), .int .u8 (dg (dgL zs v) 3), .int .u8 (dg (dgL zs v) 4), .int .u8 (dg (dgL zs v) 5), .int .u8 (dg (dgL zs v) 6), .int .u8 (dg (dgL zs v) 7)] := by
  have e : ∀ k, k < 8 → dg (dgL zs v) k = if k < zs.length then v / szL (zs.take k) % zs[k]?.getD 0 else 0 := fun k hk => dgL_get zs v k hk
  rw [e 0 (by omega), e 1 (by omega), e 2 (by omega), e 3 (by omega), e 4 (by omega), e 5 (by omega), e 6 (by omega), e 7 (by omega)]
  rfl
theorem dfold_all {n : Nat} (zs : List Int) (v : Int) (hn : n = zs.length) (h8 : n ≤ 8) : dfold zs v (List.finRange n) = [.int .u8 (dg (dgL zs v) 0), .int .u8 (dg (dgL zs v) 1), .int .u8 (dg (dgL zs v) 2), .int .u8 (dg (dgL zs v) 3), .int .u8 (dg (dgL zs v) 4), .int .u8 (dg (dgL zs v) 5), .int .u8 (dg (dgL zs v) 6), .int .u8 (dg (dgL zs v) 7)] := by
  have := dfold_take zs v h8 n (Nat.le_refl _)
  rw [finTake_all] at this
  rw [this, hn, dto_all]
/-- a digit as the machine reckons it -/
theorem digit_raw (v p z : Int) (hv : 0 ≤ v) (hv2 : v ≤ 1000000000000) (hp : 1 ≤ p) (hz : 2 ≤ z) (hz2 : z ≤ 100) :
    IntKind.u8.wrap (IntKind.i64.wrap ((IntKind.i64.wrap (v.tdiv p)).tmod (IntKind.i64.wrap z))) = v / p % z := by
  have e1 : v.tdiv p = v / p := Int.tdiv_eq_ediv_of_nonneg hv
  have h0 : 0 ≤ v / p := Int.ediv_nonneg hv (by omega)
  have h1 : v / p ≤ v := Int.ediv_le_self _ hv
  rw [e1, IntWalk.i64_in (v / p) (by omega), IntWalk.i64_in z (by omega)]
  have e2 : (v / p).tmod z = v / p % z := Int.tmod_eq_emod_of_nonneg h0
  have h2 := Int.emod_nonneg (v / p) (show z ≠ 0 by omega)
  have h3 := Int.emod_lt_of_pos (v / p) (show 0 < z by omega)
  rw [e2, IntWalk.i64_in _ (by omega)]
  simp only [IntKind.wrap, IntKind.signed, IntKind.bits]
  simp
  omega
end Go.Proofs.Ytofpgkbcodopiaa
namespace Go.Proofs.Ytofpgkbcodopiaa
open Go.RowKit
def Row (w : World) (g : Nat) (e : TypeId) (xs : List Value) : Prop := w.heap[g]? = some (.cells xs.toArray e (0, 0))
theorem Row.cell {w : World} {g : Nat} {e : TypeId} {xs : List Value} (h : Row w g e xs) (j : Nat) : w.cell? ⟨g, j, none⟩ = xs[j]? := by
  rw [cell_of_row w g j _ e (0, 0) h]; simp
theorem Row.frozen {w : World} {g : Nat} {e : TypeId} {xs : List Value} (h : Row w g e xs) (j : Nat) : w.frozen? ⟨g, j, none⟩ = false :=
  frozen_of_row w g j _ e h
theorem Row.lt {w : World} {g : Nat} {e : TypeId} {xs : List Value} (h : Row w g e xs) : g < w.heap.size := lt_of_block h
theorem Row.below {w w' : World} {g n : Nat} {e : TypeId} {xs : List Value} (h : Row w g e xs) (hb : Below n w w') (hn : g < n) : Row w' g e xs := (hb.block g hn).trans h
theorem Row.set {w : World} {g : Nat} {e : TypeId} {xs : List Value} (h : Row w g e xs) (j : Nat) (u : Value) : Row (w.setCell ⟨g, j, none⟩ u) g e (xs.set j u) := by
  have := heap_setCell_same w g j _ e u h
  simpa [Row] using this
theorem Row.alloc {w : World} {g : Nat} {e : TypeId} {xs : List Value} (h : Row w g e xs) (o : Obj) : Row (w.alloc o) g e xs :=
  (Below.heap_alloc w o g h.lt).trans h
theorem Row.other {w : World} {g : Nat} {e : TypeId} {xs : List Value} (h : Row w g e xs) {a : Addr} (ha : a.block ≠ g) (u : Value) : Row (w.setCell a u) g e xs :=
  (Below.heap_setCell w a u g (fun e => ha e.symm)).trans h
theorem Row.new (w : World) (e : TypeId) (xs : List Value) : Row (w.alloc (.cells xs.toArray e)) w.heap.size e xs := heap_alloc_new w _
theorem Row.of_owns {w : World} {base g n cap : Nat} {e : TypeId} {xs : List Value} (h : w.ownsRow base e 1 (.slice (some ⟨g, 0, none⟩) n cap) n xs) (hn : n = cap) : Row w g e xs := by
  subst hn
  rcases h.2 with ⟨h', _⟩ | ⟨g', cap', cur, h', hb, hg, hnc, hcm, hcs, htake⟩
  · simp at h'
  · simp only [Value.slice.injEq, Option.some.injEq, Addr.mk.injEq, and_true, true_and] at h'
    obtain ⟨rfl, rfl⟩ := h'
    unfold Row
    rw [hg, ← htake, List.take_of_length_le (by simp [hcs])]

theorem below_drewN {B : Nat} {a w : World} (h : Below B a w) (n : Nat) : Below B a (w.drewN n) := ⟨h.os, h.tape, h.output, h.size, h.block⟩
/-- A stack (a slice of bytes) holds the numbers zs from the head of block b on. -/
def Stk (w : World) (b : Nat) (zs : List Int) : Prop :=
  b < w.heap.size ∧ (∀ j, j < zs.length → w.cell? ⟨b, j, none⟩ = some (.int .u8 (zs[j]?.getD 0))) ∧ (∀ z ∈ zs, 0 ≤ z ∧ z ≤ 255) ∧ zs.length ≤ 1048576

theorem Stk.below {w w' : World} {b n : Nat} {zs : List Int} (h : Stk w b zs) (hb : Below n w w') (hn : b < n) : Stk w' b zs :=
  ⟨Nat.lt_of_lt_of_le h.1 hb.size, fun j hj => (hb.cell (p := ⟨b, j, none⟩) hn).trans (h.2.1 j hj), h.2.2.1, h.2.2.2⟩
theorem Row.stk {w : World} {g : Nat} {e : TypeId} {zs : List Int} (h : Row w g e (zs.map (Value.int .u8))) (hz : ∀ z ∈ zs, 0 ≤ z ∧ z ≤ 255) (hl : zs.length ≤ 1048576) : Stk w g zs :=
  ⟨h.lt, fun j hj => by rw [h.cell]; simp [hj], hz, hl⟩

theorem Try.infoU8 : (Try.prog.info? 5).map (fun i => (i.zero, i.size, i.bytes)) = some (some (.int .u8 0), 1, 1) := by kernel_rfl

/-- what k rounds of a copy have made of n zero bytes -/
def cpy (zs : List Int) (n k : Nat) : List Value := ((zs.take k) ++ List.replicate (n - k) 0).map (Value.int .u8)
theorem cpy_zero (zs : List Int) (n : Nat) : cpy zs n 0 = List.replicate n (Value.int .u8 0) := by simp [cpy]
theorem cpy_len (zs : List Int) (n k : Nat) (hk : k ≤ n) (hz : n ≤ zs.length) : (cpy zs n k).length = n := by simp [cpy]; omega
theorem cpy_set (zs : List Int) (n k : Nat) (hk : k < n) (hz : n ≤ zs.length) : (cpy zs n k).set k (.int .u8 (zs[k]?.getD 0)) = cpy zs n (k + 1) := by
  apply List.ext_getElem?
  intro j
  have h1 : k < zs.length := by omega
  simp only [cpy, List.getElem?_set, List.getElem?_map, List.length_map, List.getElem?_append, List.length_take, List.length_append, List.length_replicate, List.getElem?_take, List.getElem?_replicate]
  by_cases hj : k = j
  · subst hj
    simp [h1, show min k zs.length = k from by omega, show min (k+1) zs.length = k+1 from by omega]
    omega
  · rw [if_neg hj]
    simp only [show min k zs.length = k from by omega, show min (k+1) zs.length = k+1 from by omega]
    by_cases h2 : j < k
    · simp [h2, show j < k + 1 from by omega]
    · have h3 : ¬ j < k + 1 := by omega
      simp only [h2, h3, if_false]
      by_cases h4 : j < n
      · rw [if_pos (by omega), if_pos (by omega)]
      · rw [if_neg (by omega), if_neg (by omega)]
theorem cpy_all (zs : List Int) (n : Nat) : cpy zs n n = (zs.take n).map (Value.int .u8) := by simp [cpy]

end Go.Proofs.Ytofpgkbcodopiaa
namespace Go.Proofs.Ytofpgkbcodopiaa
open Go.ChangeShapes Go.WideShapes Go.ChangeAt Go.RowKit

/-- eight bytes -/
def Oct (d0 d1 d2 d3 d4 d5 d6 d7 : Int) : Prop :=
  (0 ≤ d0 ∧ d0 ≤ 255) ∧ (0 ≤ d1 ∧ d1 ≤ 255) ∧ (0 ≤ d2 ∧ d2 ≤ 255) ∧ (0 ≤ d3 ∧ d3 ≤ 255) ∧ (0 ≤ d4 ∧ d4 ≤ 255) ∧ (0 ≤ d5 ∧ d5 ≤ 255) ∧ (0 ≤ d6 ∧ d6 ≤ 255) ∧ (0 ≤ d7 ∧ d7 ≤ 255)

/-- what a law is told of a slice of bytes that came in -/
def InB (w : World) (a : Option Addr) (len : Nat) (zs : List Int) : Prop :=
  zs.length = len ∧ (∀ z ∈ zs, 0 ≤ z ∧ z ≤ 255) ∧ (len = 0 ∨ ∃ b off, a = some ⟨b, off, none⟩ ∧ b < w.heap.size ∧ ∀ j, j < len → w.cell? ⟨b, off + j, none⟩ = some (.int .u8 (zs[j]?.getD 0)))
theorem InB.below {w w' : World} {a : Option Addr} {len : Nat} {zs : List Int} {n : Nat} (h : InB w a len zs) (hb : Below n w w') (hn : w.heap.size ≤ n) : InB w' a len zs := by
  refine ⟨h.1, h.2.1, ?_⟩
  rcases h.2.2 with h0 | ⟨b, off, e, hl, hc⟩
  · exact .inl h0
  · exact .inr ⟨b, off, e, Nat.lt_of_lt_of_le hl hb.size, fun j hj => (hb.cell (p := ⟨b, off + j, none⟩) (Nat.lt_of_lt_of_le hl hn)).trans (hc j hj)⟩

section
variable {H : Type} {enc : TypeId × Value → H} {P : Program} {W : World}

theorem open_bytes {t e : TypeId} (ht : P.underlying t = some (.slice e)) (he : P.underlying e = some (.int .u8)) (hc : P.cellsOf e = 1) {a : Option Addr} {len cap : Nat} {d : DataW H} {p : List MemPlace}
    (h : DataW.Trod enc P W 0 (fun _ => true) true t (.slice a len cap) d p) : ∃ zs, InB W a len zs := by
  obtain ⟨fuel, hf⟩ := h
  rcases open_ints ht he hc hf with ⟨hcs, _⟩ | ⟨x, l, c, zs, hcs, _, hl, hm, hz, hx, hcell, hwz⟩
  · simp [Value.cells] at hcs
    obtain ⟨rfl, rfl, rfl⟩ := hcs
    exact ⟨[], rfl, by simp, .inl rfl⟩
  · simp [Value.cells] at hcs
    obtain ⟨rfl, rfl, rfl⟩ := hcs
    simp only [if_true] at hz
    refine ⟨zs.take len, by simp; omega, fun z hz' => by have := bounds_u8 (hwz z (List.mem_of_mem_take hz')); omega, ?_⟩
    by_cases h0 : len = 0
    · exact .inl h0
    · right
      have hc0 := hcell 0 (by omega)
      obtain ⟨b, off, spot⟩ := x
      have hspot : spot = none := by simpa [Addr.add] using World.cell?_spot hc0
      subst hspot
      have hx' : p = MemPlace.row ⟨b, off, none⟩ zs.length := (Prod.mk.inj hx).2
      have hb : b < W.heap.size := by
        by_cases hb : b < W.heap.size
        · exact hb
        · simp [World.cell?, Addr.add, Array.getElem?_eq_none (Nat.le_of_not_lt hb)] at hc0
      refine ⟨b, off, rfl, hb, fun j hj => ?_⟩
      have := hcell j (by omega)
      rw [show (⟨b, off, none⟩ : Addr).add j = ⟨b, off + j, none⟩ from by
        by_cases h : j = 0
        · subst h; simp [Addr.add]
        · simp [Addr.add, h]] at this
      rw [this]
      simp [hj]

theorem array8 {α : Type} {cs : Array α} (h : cs.size = 8) : ∃ c0 c1 c2 c3 c4 c5 c6 c7, cs = #[c0, c1, c2, c3, c4, c5, c6, c7] := by
  obtain ⟨l⟩ := cs
  simp at h
  match l, h with
  | [a, b, c, d, e, f, g, i], _ => exact ⟨a, b, c, d, e, f, g, i, rfl⟩

theorem okWide_array {r : Reach} {b0 : Nat} {t e : TypeId} {n : Nat} {v : Value} (ht : P.underlying t = some (.array n e)) (h : Value.okWide P W r b0 t v) : ∃ cs, v = .agg cs ∧ cs.size = P.cellsOf t := by
  simp only [Value.okWide, ht] at h
  obtain ⟨cs, h1, h2, _⟩ := h
  exact ⟨cs, h1, h2⟩

theorem open_oct {r : Reach} {b0 : Nat} {t e : TypeId} {v : Value} {d : DataW H} {p : List MemPlace} (ht : P.underlying t = some (.array 8 e)) (he : P.underlying e = some (.int .u8)) (hc : P.cellsOf e = 1) (hC : P.cellsOf t = 8)
    (hval : Value.okWide P W r b0 t v) (h : DataW.Trod enc P W 0 (fun _ => true) true t v d p) :
    ∃ d0 d1 d2 d3 d4 d5 d6 d7 : Int, v = .agg #[.int .u8 d0, .int .u8 d1, .int .u8 d2, .int .u8 d3, .int .u8 d4, .int .u8 d5, .int .u8 d6, .int .u8 d7] ∧ Oct d0 d1 d2 d3 d4 d5 d6 d7 := by
  obtain ⟨cs, rfl, hsz⟩ := okWide_array ht hval
  obtain ⟨c0, c1, c2, c3, c4, c5, c6, c7, rfl⟩ := array8 (hsz.trans hC)
  obtain ⟨fuel, hf⟩ := h
  obtain ⟨xs, m, _, _, _, hl, hall⟩ := DataW.trod_array ht hf
  have key : ∀ (i : Nat) (c : Value), i < 8 → ([c0, c1, c2, c3, c4, c5, c6, c7] : List Value)[i]? = some c → ∃ n, c = .int .u8 n ∧ 0 ≤ n ∧ n ≤ 255 := by
    intro i c hi hcc
    have hi' := hall i hi
    rw [hc] at hi'
    have hx : (((Value.agg #[c0, c1, c2, c3, c4, c5, c6, c7]).cells.toList.drop (i * 1)).take 1) = [c] := by
      have : (Value.agg #[c0, c1, c2, c3, c4, c5, c6, c7]).cells.toList = [c0, c1, c2, c3, c4, c5, c6, c7] := rfl
      rw [this, Nat.mul_one]
      match i, hi, hcc with
      | 0, _, h | 1, _, h | 2, _, h | 3, _, h | 4, _, h | 5, _, h | 6, _, h | 7, _, h => simp at h; subst h; rfl
    rw [hx] at hi'
    obtain ⟨y, hy⟩ : ∃ y, xs[i]? = some y := ⟨_, List.getElem?_eq_getElem (by omega)⟩
    rw [hy] at hi'
    obtain ⟨n, e0, _, wn⟩ := DataW.trod_int he hi'
    simp only [List.cons.injEq, and_true] at e0
    have := bounds_u8 wn
    exact ⟨n, e0, by omega, by omega⟩
  obtain ⟨d0, rfl, b0⟩ := key 0 c0 (by omega) rfl
  obtain ⟨d1, rfl, b1⟩ := key 1 c1 (by omega) rfl
  obtain ⟨d2, rfl, b2⟩ := key 2 c2 (by omega) rfl
  obtain ⟨d3, rfl, b3⟩ := key 3 c3 (by omega) rfl
  obtain ⟨d4, rfl, b4⟩ := key 4 c4 (by omega) rfl
  obtain ⟨d5, rfl, b5⟩ := key 5 c5 (by omega) rfl
  obtain ⟨d6, rfl, b6⟩ := key 6 c6 (by omega) rfl
  obtain ⟨d7, rfl, b7⟩ := key 7 c7 (by omega) rfl
  exact ⟨d0, d1, d2, d3, d4, d5, d6, d7, rfl, b0, b1, b2, b3, b4, b5, b6, b7⟩
end
theorem tt2 {a b : Bool} (h : a = true) (k : b = true) : (a && b) = true := by rw [h, k]; rfl
end Go.Proofs.Ytofpgkbcodopiaa
namespace Go.Proofs.Ytofpgkbcodopiaa
open Go.RowKit Go.ChangeShapes Go.WideShapes Go.ChangeAt

def rd (js : List (Int × Int)) (j : Nat) : Int := (js[j]?.getD (0, 0)).1
def rv (js : List (Int × Int)) (j : Nat) : Int := (js[j]?.getD (0, 0)).2
/-- A slice of readings holds js from the head of block b on. -/
def Rst (w : World) (b : Nat) (js : List (Int × Int)) : Prop :=
  b < w.heap.size ∧ (∀ j, j < js.length → w.cell? ⟨b, j * 2, none⟩ = some (.int .i64 (rd js j)) ∧ w.cell? ⟨b, j * 2 + 1, none⟩ = some (.int .i64 (rv js j))) ∧ js.length ≤ 1048576
theorem Rst.below {w w' : World} {b n : Nat} {js : List (Int × Int)} (h : Rst w b js) (hb : Below n w w') (hn : b < n) : Rst w' b js :=
  ⟨Nat.lt_of_lt_of_le h.1 hb.size, fun j hj => ⟨(hb.cell (p := ⟨b, j * 2, none⟩) hn).trans (h.2.1 j hj).1, (hb.cell (p := ⟨b, j * 2 + 1, none⟩) hn).trans (h.2.1 j hj).2⟩, h.2.2⟩
/-- what a law is told of a slice of readings that came in -/
def InR (w : World) (a : Option Addr) (len : Nat) (js : List (Int × Int)) : Prop :=
  js.length = len ∧ (∀ j, j < len → (-9223372036854775808 ≤ rd js j ∧ rd js j ≤ 9223372036854775807) ∧ (-9223372036854775808 ≤ rv js j ∧ rv js j ≤ 9223372036854775807)) ∧ (len = 0 ∨ ∃ b off, a = some ⟨b, off, none⟩ ∧ b < w.heap.size ∧ ∀ j, j < len → w.cell? ⟨b, off + j * 2, none⟩ = some (.int .i64 (rd js j)) ∧ w.cell? ⟨b, off + j * 2 + 1, none⟩ = some (.int .i64 (rv js j)))
theorem InR.below {w w' : World} {a : Option Addr} {len : Nat} {js : List (Int × Int)} {n : Nat} (h : InR w a len js) (hb : Below n w w') (hn : w.heap.size ≤ n) : InR w' a len js := by
  refine ⟨h.1, h.2.1, ?_⟩
  rcases h.2.2 with h0 | ⟨b, off, e, hl, hc⟩
  · exact .inl h0
  · exact .inr ⟨b, off, e, Nat.lt_of_lt_of_le hl hb.size, fun j hj => ⟨(hb.cell (p := ⟨b, off + j * 2, none⟩) (Nat.lt_of_lt_of_le hl hn)).trans (hc j hj).1, (hb.cell (p := ⟨b, off + j * 2 + 1, none⟩) (Nat.lt_of_lt_of_le hl hn)).trans (hc j hj).2⟩⟩

theorem Try.infoReading : (Try.prog.info? 38).map (fun i => (i.zero, i.size, i.bytes)) = some (some (.agg #[.int .i64 0, .int .i64 0]), 2, 16) := by kernel_rfl

def rcell (js : List (Int × Int)) (i : Nat) : Value := if i % 2 = 0 then .int .i64 (rd js (i / 2)) else .int .i64 (rv js (i / 2))
def rzero (i : Nat) : Value := if i % 2 = 0 then .int .i64 0 else .int .i64 0
/-- what k rounds of a copy have made of n zero pairs -/
def rcp (js : List (Int × Int)) (n k : Nat) : List Value := (List.range (n * 2)).map fun i => if i < k * 2 then rcell js i else rzero i
theorem rcp_len (js : List (Int × Int)) (n k : Nat) : (rcp js n k).length = n * 2 := by simp [rcp]
theorem rcp_zero (js : List (Int × Int)) (n : Nat) : (madeCells (Value.agg #[.int .i64 0, .int .i64 0]).cells (n * 2)).toList = rcp js n 0 := by
  apply List.ext_getElem?
  intro i
  simp only [madeCells, rcp, rzero, Value.cells, Array.toList_map, Array.toList_range, List.getElem?_map]
  by_cases hi : i < n * 2
  · simp only [List.getElem?_range hi, Option.map_some]
    have h2 : i % 2 = 0 ∨ i % 2 = 1 := by omega
    rcases h2 with h2 | h2 <;> simp [h2]
  · simp [List.getElem?_eq_none (show (List.range (n * 2)).length ≤ i by simp; omega)]
theorem rcp_set (js : List (Int × Int)) (n k : Nat) (hk : k < n) : ((rcp js n k).set (k * 2) (.int .i64 (rd js k))).set (k * 2 + 1) (.int .i64 (rv js k)) = rcp js n (k + 1) := by
  apply List.ext_getElem?
  intro i
  simp only [rcp, List.getElem?_set, List.getElem?_map, List.length_map, List.length_range, List.length_set]
  by_cases h1 : k * 2 + 1 = i
  · subst h1
    have : (k * 2 + 1) % 2 = 1 := by omega
    have h3 : (k * 2 + 1) / 2 = k := by omega
    have h4 : k * 2 + 1 < n * 2 := by omega
    have h5 : k * 2 + 1 < (k + 1) * 2 := by omega
    simp [h4, h5, rcell, this, h3]
  · rw [if_neg h1]
    by_cases h2 : k * 2 = i
    · subst h2
      have : (k * 2) % 2 = 0 := by omega
      have h3 : (k * 2) / 2 = k := by omega
      have h4 : k * 2 < n * 2 := by omega
      have h5 : k * 2 < (k + 1) * 2 := by omega
      simp [h4, h5, rcell, this, h3]
    · rw [if_neg h2]
      by_cases hi : i < n * 2
      · simp only [List.getElem?_range hi, Option.map_some]
        by_cases h3 : i < k * 2
        · rw [if_pos h3, if_pos (by omega)]
        · rw [if_neg h3, if_neg (by omega)]
      · simp [List.getElem?_eq_none (show (List.range (n * 2)).length ≤ i by simp; omega)]
theorem rcp_get (js : List (Int × Int)) (n : Nat) (j : Nat) (hj : j < n) : (rcp js n n)[j * 2]? = some (.int .i64 (rd js j)) ∧ (rcp js n n)[j * 2 + 1]? = some (.int .i64 (rv js j)) := by
  have h0 : (j * 2) % 2 = 0 := by omega
  have h1 : (j * 2 + 1) % 2 = 1 := by omega
  have h2 : (j * 2) / 2 = j := by omega
  have h3 : (j * 2 + 1) / 2 = j := by omega
  have h4 : j * 2 < n * 2 := by omega
  have h5 : j * 2 + 1 < n * 2 := by omega
  exact ⟨by simp [rcp, rcell, h0, h2, h4], by simp [rcp, rcell, h1, h3, h5]⟩
theorem Row.of_ownsN {w : World} {base g n cap sz : Nat} {e : TypeId} {xs : List Value} (h : w.ownsRow base e sz (.slice (some ⟨g, 0, none⟩) n cap) n xs) (hn : n = cap) : Row w g e xs := by
  subst hn
  rcases h.2 with ⟨h', _⟩ | ⟨g', cap', cur, h', hb, hg, hnc, hcm, hcs, htake⟩
  · simp at h'
  · simp only [Value.slice.injEq, Option.some.injEq, Addr.mk.injEq, and_true, true_and] at h'
    obtain ⟨rfl, rfl⟩ := h'
    unfold Row
    rw [hg, ← htake, List.take_of_length_le (by simp [hcs])]
theorem rd_take (js : List (Int × Int)) (n j : Nat) (h : j < n) : rd (js.take n) j = rd js j := by simp [rd, h]
theorem rv_take (js : List (Int × Int)) (n j : Nat) (h : j < n) : rv (js.take n) j = rv js j := by simp [rv, h]

theorem cell_apart {W : World} {a p : Addr} {u : Value} (h : p.block ≠ a.block) : (W.setCell a u).cell? p = W.cell? p := World.cell?_of_block (Below.heap_setCell W a u p.block h)
section
variable {H : Type} {enc : TypeId × Value → H} {P : Program} {W : World}
theorem list_of {α : Type} (d : α) (Q : Nat → α → Prop) : ∀ (n : Nat), (∀ i, i < n → ∃ x, Q i x) → ∃ l : List α, l.length = n ∧ ∀ i, i < n → Q i (l[i]?.getD d)
  | 0, _ => ⟨[], rfl, fun i h => by omega⟩
  | n + 1, h => by
    obtain ⟨l, hl, hq⟩ := list_of d Q n (fun i hi => h i (by omega))
    obtain ⟨x, hx⟩ := h n (by omega)
    refine ⟨l ++ [x], by simp [hl], fun i hi => ?_⟩
    by_cases e : i = n
    · subst e
      simpa [← hl] using hx
    · have := hq i (by omega)
      rwa [List.getElem?_append_left (by omega)]
theorem open_readsV {t e : TypeId} {f0 f1 : Field} (ht : P.underlying t = some (.slice e)) (he : P.underlying e = some (.struct #[f0, f1])) (h0 : P.underlying f0.type = some (.int .i64)) (h1 : P.underlying f1.type = some (.int .i64))
    (hone : Go.Deep.oneCellFields P #[f0, f1] = true) (hC : P.cellsOf e = 2) {n : Nat} {v : Value} {y : DataW H × List MemPlace}
    (h : DataW.trod enc P W 0 (fun _ => true) true n t [v] = some y) : ∃ a len cap js, v = .slice a len cap ∧ len ≤ 9223372036854775807 ∧ InR W a len js := by
  rcases Go.Deep.open_slice ht h with ⟨hcs, _⟩ | ⟨x, l, c, m, n', D, Pl, hcs, _, hl, hm, hmm, _, hi⟩
  · obtain rfl : v = .slice none 0 0 := by simpa using hcs
    exact ⟨_, _, _, [], rfl, by omega, rfl, fun j hj => by omega, .inl rfl⟩
  · obtain rfl : v = .slice (some x) l c := by simpa using hcs
    have each : ∀ i, i < l → ∃ p : Int × Int, ((-9223372036854775808 ≤ p.1 ∧ p.1 ≤ 9223372036854775807) ∧ (-9223372036854775808 ≤ p.2 ∧ p.2 ≤ 9223372036854775807)) ∧ W.cell? (x.add (i * 2)) = some (.int .i64 p.1) ∧ W.cell? (x.add (i * 2 + 1)) = some (.int .i64 p.2) := fun i hil => by
      obtain ⟨cs', hc, ht'⟩ := hi i (by rw [hmm]; split <;> omega)
      rw [hC] at hc
      obtain ⟨_, hcl, hat⟩ := World.cells?_some hc
      obtain ⟨xs, n2, _, _, _, hxl, hf⟩ := DataW.trod_struct he ht'
      obtain ⟨o0, k0⟩ := Go.Deep.hone_of hone 0 f0 rfl
      obtain ⟨o1, k1⟩ := Go.Deep.hone_of hone 1 f1 rfl
      match cs', hcl with
      | [u0, u1], _ =>
        have g0 := hf 0 f0 rfl
        have g1 := hf 1 f1 rfl
        rw [o0, k0] at g0
        rw [o1, k1] at g1
        have x0 : xs[0]? = some (xs[0]'(by rw [hxl]; show _ < 2; omega)) := List.getElem?_eq_getElem _
        have x1 : xs[1]? = some (xs[1]'(by rw [hxl]; show _ < 2; omega)) := List.getElem?_eq_getElem _
        rw [x0] at g0
        rw [x1] at g1
        obtain ⟨z0, e0, _, w0⟩ := DataW.trod_int h0 g0
        obtain ⟨z1, e1, _, w1⟩ := DataW.trod_int h1 g1
        simp at e0 e1
        have a0 := hat 0 (by omega)
        have a1 := hat 1 (by omega)
        have b0 := bounds_i64 w0
        have b1 := bounds_i64 w1
        refine ⟨(z0, z1), ⟨b0, b1⟩, ?_, ?_⟩
        · have : x.add (i * 2) = (x.add (i * 2)).add 0 := by simp [Addr.add]
          rw [this, a0]; simp [e0]
        · have : x.add (i * 2 + 1) = (x.add (i * 2)).add 1 := by rw [Go.Deep.add_add]
          rw [this, a1]; simp [e1]
    obtain ⟨js, hjl, hj⟩ := list_of ((0 : Int), (0 : Int)) _ l each
    refine ⟨_, _, _, js, rfl, by unfold maxLen at hm; omega, hjl, fun j hjl' => (hj j hjl').1, ?_⟩
    by_cases hl0 : l = 0
    · exact .inl hl0
    · right
      have c0 := (hj 0 (by omega)).2.1
      obtain ⟨b, off, spot⟩ := x
      have hspot : spot = none := by simpa [Addr.add] using World.cell?_spot c0
      subst hspot
      have hb : b < W.heap.size := by
        by_cases hb : b < W.heap.size
        · exact hb
        · simp [World.cell?, Addr.add, Array.getElem?_eq_none (Nat.le_of_not_lt hb)] at c0
      have ad : ∀ k, (⟨b, off, none⟩ : Addr).add k = ⟨b, off + k, none⟩ := fun k => by
        by_cases h : k = 0
        · subst h; simp [Addr.add]
        · simp [Addr.add, h]
      refine ⟨b, off, rfl, hb, fun j hjl' => ?_⟩
      have := (hj j hjl').2
      rw [ad, ad] at this
      exact ⟨this.1, by rw [← Nat.add_assoc] at this; exact this.2⟩
theorem open_reads {t e : TypeId} {f0 f1 : Field} (ht : P.underlying t = some (.slice e)) (he : P.underlying e = some (.struct #[f0, f1])) (h0 : P.underlying f0.type = some (.int .i64)) (h1 : P.underlying f1.type = some (.int .i64))
    (hone : Go.Deep.oneCellFields P #[f0, f1] = true) (hC : P.cellsOf e = 2) {a : Option Addr} {len cap : Nat} {d : DataW H} {p : List MemPlace}
    (h : DataW.Trod enc P W 0 (fun _ => true) true t (.slice a len cap) d p) : ∃ js, len ≤ 9223372036854775807 ∧ InR W a len js := by
  obtain ⟨fuel, hf⟩ := h
  obtain ⟨a', len', cap', js, e1, hl, hj⟩ := open_readsV (v := .slice a len cap) ht he h0 h1 hone hC hf
  simp only [Value.slice.injEq] at e1
  obtain ⟨rfl, rfl, rfl⟩ := e1
  exact ⟨js, hl, hj⟩
end
end Go.Proofs.Ytofpgkbcodopiaa
namespace Go.Proofs.Ytofpgkbcodopiaa
open Go

section
variable {F : Fence} {n : Nat} {P : Program} {ops : Array Oper} {Q : Exit → Act → World → Prop} {md : Region.Mode} {S : World → Prop}

/-- no operation of the region is a defer statement -/
def NoDefer (ops : Array Oper) : Prop := ∀ (j : Nat) (o : Oper), ops[j]? = some o → ∀ c, o.op ≠ .defer c

/-- in every world that meets S the operation yields v, changes nothing, and is about to make no call -/
structure Gives (P : Program) (ops : Array Oper) (S : World → Prop) (o : Oper) (v : Value) (a : Act) : Prop where
  wanted : Region.wanted o (yielded ops a.tmps) = true
  run : ∀ w, S w → (execOp a.eval o).run P w = .ok (.value v) w
  calm : ∀ w, o.about P w a.eval = none

theorem Gives.now {i : Nat} {o : Oper} {v : Value} {a : Act} {K : Act → World → Prop} {w : World} (hd : NoDefer ops) (hi : ops[i]? = some o) (hy : Gives P ops S o v a) (hS : S w) (h : K (a.put o.dst v) w) :
    wpOpIn F n P ops Q i K a w := by
  unfold wpOpIn
  simp only [hi, hy.wanted, if_true]
  unfold Oper.wpIn
  refine ⟨fun f hf => (by rw [hy.calm w] at hf; cases hf), ?_⟩
  rw [Oper.semAt_eq _ _ _ (hd i o hi), hy.run w hS]
  exact h

theorem Gives.same {o : Oper} {v : Value} {a a' : Act} (hy : Gives P ops S o v a) (he : execOp a'.eval o = execOp a.eval o)
    (hw : Region.wanted o (yielded ops a'.tmps) = Region.wanted o (yielded ops a.tmps)) (hb : ∀ w, o.about P w a'.eval = o.about P w a.eval) : Gives P ops S o v a' :=
  ⟨hw.trans hy.wanted, fun w hw' => by rw [he]; exact hy.run w hw', fun w => (hb w).trans (hy.calm w)⟩

/-- an operation that does not touch what the first one reads and writes does the same behind it -/
theorem Gives.past {j : Nat} {oi oj : Oper} {v : Value} (hd : NoDefer ops) (hj : ops[j]? = some oj) (hap : oi.apart ops oj = true)
    (hsi : ∀ cs b, oi.op ≠ .select cs b) (hsj : ∀ cs b, oj.op ≠ .select cs b) (hQ : ∀ c a w, Q (.panic c) (a.put oi.dst v) w → Q (.panic c) a w)
    {K : Act → World → Prop} {a : Act} {w : World} (hy : Gives P ops S oi v a) (h : wpOpIn F n P ops Q j K (a.put oi.dst v) w) :
    wpOpIn F n P ops Q j (fun a' w' => Gives P ops S oi v a' ∧ K (a'.put oi.dst v) w') a w := by
  obtain ⟨h1, h2, h3⟩ := Oper.apart_spec hap
  have keep : ∀ (a : Act), Gives P ops S oi v a → ∀ u, Gives P ops S oi v (a.put oj.dst u) := fun a hy u =>
    hy.same (execOp_put oi hsi a oj.dst u h3) (wanted_put oi a oj.dst u h3) (fun w => about_put oi w a oj.dst u h3)
  have keepD : ∀ d, Gives P ops S oi v { a with defers := d :: a.defers } := fun d => hy.same rfl rfl (fun _ => rfl)
  have hdj := hd j oj hj
  unfold wpOpIn at *
  simp only [hj] at *
  rw [wanted_put oj a oi.dst v h1, about_put oj w a oi.dst v h1] at h
  by_cases hw : Region.wanted oj (yielded ops a.tmps) = true
  · simp only [hw, if_true] at h ⊢
    unfold Oper.wpIn at *
    rw [about_put oj w a oi.dst v h1] at h
    refine ⟨h.1, ?_⟩
    have h := h.2
    rw [Oper.semAt_eq _ _ _ hdj, execOp_put oj hsj a oi.dst v h1] at h
    rw [Oper.semAt_eq _ _ _ hdj]
    revert h
    cases (execOp a.eval oj).run P w with
    | ok x w' =>
      intro h
      cases x with
      | value u => exact ⟨keep a hy u, by rw [← Act.put_comm a v u h2]; exact h⟩
      | skip => exact ⟨keep a hy _, by rw [← Act.put_comm a v undef h2]; exact h⟩
      | defer d =>
        refine ⟨keep _ (keepD d) _, ?_⟩
        rw [← Act.put_comm _ v undef h2, ← Act.put_defers]
        exact h
      | enter f args =>
        refine ⟨h.1, CallsIn.mono h.2 fun e w'' he => ?_⟩
        cases e with
        | returned u => exact ⟨keep a hy u, by rw [← Act.put_comm a v u h2]; exact he⟩
        | panicked c => exact hQ _ _ _ he
        | outgrown => exact he
      | row row args => exact ⟨h.1, RowsIn.mono h.2 fun u w'' he => ⟨keep a hy u, by rw [← Act.put_comm a v u h2]; exact he⟩⟩
      | round l f tmps assign body =>
        refine ⟨h.1, RoundIn.mono h.2 fun e w'' he => ?_⟩
        cases e with
        | returned u => exact ⟨keep a hy u, by rw [← Act.put_comm a v u h2]; exact he⟩
        | panicked c => exact hQ _ _ _ he
        | outgrown => exact he
      | _ => exact h
    | halt x w' =>
      intro h
      cases x with
      | panic u => exact hQ _ _ _ h
      | _ => exact h
  · simp only [hw] at h ⊢
    exact ⟨h.1, keep a hy _, by rw [← Act.put_comm a v undef h2]; exact h.2⟩

/-- whichever order is picked, S holding behind every operation that is carried out -/
def anyS (F : Fence) (n : Nat) (P : Program) (md : Region.Mode) (ops : Array Oper) (Q : Exit → Act → World → Prop) (S : World → Prop) : Nat → Array Bool → Act → World → Prop
  | 0, listed, a, w => Region.ready md ops listed = [] ∧ Q .normal a w
  | fuel + 1, listed, a, w => (Region.ready md ops listed = [] → Q .normal a w) ∧
    ∀ i ∈ Region.ready md ops listed, wpOpIn F n P ops Q i (fun a' w' => S w' ∧ anyS F n P md ops Q S fuel (listed.setIfInBounds i true) a' w') a w
theorem anyS_any : ∀ (fuel : Nat) (listed : Array Bool) (a : Act) (w : World), anyS F n P md ops Q S fuel listed a w → wpAnyIn F n P md ops Q fuel listed a w
  | 0, _, _, _, h => h
  | fuel + 1, _, _, _, h => ⟨h.1, fun i hi => wpOpIn_mono (fun a' w' h' => anyS_any fuel _ a' w' h'.2) (h.2 i hi)⟩

theorem anyS_first {i : Nat} {oi : Oper} {v : Value} (hd : NoDefer ops) (hi : ops[i]? = some oi) (hsel : ∀ (j : Nat) (o : Oper) cs b, ops[j]? = some o → o.op ≠ .select cs b)
    (hQ : ∀ c a w, Q (.panic c) (a.put oi.dst v) w → Q (.panic c) a w) : ∀ (fuel : Nat) (listed : Array Bool) (a : Act) (w : World),
      (∀ j oj, ops[j]? = some oj → j ≠ i → listed.getD j true = false → (∀ e ∈ oj.after, Region.binds md e = true → e.on ≠ i) → oi.apart ops oj = true) →
      i ∈ Region.ready md ops listed → Gives P ops S oi v a → S w → anyS F n P md ops Q S fuel (listed.setIfInBounds i true) (a.put oi.dst v) w → anyS F n P md ops Q S (fuel + 1) listed a w
  | 0, listed, a, w, _, hr, hy, hS, H => by
    refine ⟨fun h => (by rw [h] at hr; cases hr), fun j hj => ?_⟩
    by_cases hji : j = i
    · subst hji; exact hy.now hd hi hS ⟨hS, H⟩
    · have := ready_mono hj hji
      rw [H.1] at this
      cases this
  | fuel + 1, listed, a, w, hfree, hr, hy, hS, H => by
    refine ⟨fun h => (by rw [h] at hr; cases hr), fun j hj => ?_⟩
    by_cases hji : j = i
    · subst hji; exact hy.now hd hi hS ⟨hS, H⟩
    · obtain ⟨hjun, oj, hoj, hall⟩ := mem_ready.1 hj
      have hnot : ∀ e ∈ oj.after, Region.binds md e = true → e.on ≠ i := fun e he hb heq => by
        have q1 := hall e he hb
        have q0 := (mem_ready.1 hr).1
        rw [heq] at q1
        rcases Nat.lt_or_ge i listed.size with h' | h'
        · simp [h'] at q0 q1; rw [q0] at q1; cases q1
        · simp [Array.getElem?_eq_none h'] at q1
      have h2 := hy.past hd hoj (hfree j oj hoj hji hjun hnot) (fun cs b => hsel i oi cs b hi) (fun cs b => hsel j oj cs b hoj) hQ (H.2 j (ready_mono hj hji))
      refine wpOpIn_mono (fun a' w' h3 => ⟨h3.2.1, anyS_first hd hi hsel hQ fuel (listed.setIfInBounds j true) a' w' (fun k ok hk hki hun hno => ?_) (ready_mono hr (Ne.symm hji)) h3.1 h3.2.1 ?_⟩) h2
      · refine hfree k ok hk hki ?_ hno
        by_cases hjk : j = k
        · subst hjk; exact hjun
        · rw [getD_set_ne true hjk] at hun; exact hun
      · rw [Array.setIfInBounds_comm _ _ hji]
        exact h3.2.2

theorem anyS_take {i : Nat} {oi : Oper} {v : Value} {fuel : Nat} {listed : Array Bool} {a : Act} {w : World} (hd : NoDefer ops) (hi : ops[i]? = some oi)
    (hs : Region.noSelect ops = true) (hf : Region.free md ops listed i = true) (hr : (Region.ready md ops listed).contains i = true) (hQ : ∀ c a w, Q (.panic c) (a.put oi.dst v) w → Q (.panic c) a w)
    (hy : Gives P ops S oi v a) (hS : S w) (h : anyS F n P md ops Q S fuel (listed.setIfInBounds i true) (a.put oi.dst v) w) : anyS F n P md ops Q S (fuel + 1) listed a w :=
  anyS_first hd hi (Region.noSelect_spec hs) hQ fuel listed a w (Region.free_spec hi hf) (by simpa using hr) hy hS h
theorem anyS_takeD {i : Nat} (d : Option Nat) {oi : Oper} {v : Value} {fuel : Nat} {listed : Array Bool} {a : Act} {w : World} (hd : NoDefer ops) (hi : ops[i]? = some oi) (hdst : oi.dst = d)
    (hs : Region.noSelect ops = true) (hf : Region.free md ops listed i = true) (hr : (Region.ready md ops listed).contains i = true) (hQ : ∀ c a w, Q (.panic c) (a.put d v) w → Q (.panic c) a w)
    (hy : Gives P ops S oi v a) (hS : S w) (h : anyS F n P md ops Q S fuel (listed.setIfInBounds i true) (a.put d v) w) : anyS F n P md ops Q S (fuel + 1) listed a w := by
  subst hdst; exact anyS_take hd hi hs hf hr hQ hy hS h
/-- one operation alone may come up: a store, say -/
theorem anyS_one {i : Nat} {o : Oper} {fuel : Nat} {listed : Array Bool} {a : Act} {w w' : World} (hd : NoDefer ops) (hr : Region.ready md ops listed = [i]) (hi : ops[i]? = some o)
    (hw : Region.wanted o (yielded ops a.tmps) = true) (hc : o.about P w a.eval = none) (hrun : (execOp a.eval o).run P w = .ok .skip w') (hS : S w')
    (h : anyS F n P md ops Q S fuel (listed.setIfInBounds i true) (a.put o.dst undef) w') : anyS F n P md ops Q S (fuel + 1) listed a w :=
  ⟨fun h0 => (by rw [hr] at h0; cases h0), fun j hj => by
    rw [hr] at hj
    obtain rfl : j = i := by simpa using hj
    unfold wpOpIn
    simp only [hi, hw, if_true]
    unfold Oper.wpIn
    refine ⟨fun f hf => (by rw [hc] at hf; cases hf), ?_⟩
    rw [Oper.semAt_eq _ _ _ (hd j o hi), hrun]
    exact ⟨hS, h⟩⟩
theorem anyS_oneD {i : Nat} (d : Option Nat) {o : Oper} {fuel : Nat} {listed : Array Bool} {a : Act} {w w' : World} (hd : NoDefer ops) (hr : Region.ready md ops listed = [i]) (hi : ops[i]? = some o) (hdst : o.dst = d)
    (hw : Region.wanted o (yielded ops a.tmps) = true) (hc : o.about P w a.eval = none) (hrun : (execOp a.eval o).run P w = .ok .skip w') (hS : S w')
    (h : anyS F n P md ops Q S fuel (listed.setIfInBounds i true) (a.put d undef) w') : anyS F n P md ops Q S (fuel + 1) listed a w := by
  subst hdst; exact anyS_one hd hr hi hw hc hrun hS h
theorem anyS_done {listed : Array Bool} {a : Act} {w : World} (hr : Region.ready md ops listed = []) (h : Q .normal a w) : ∀ fuel, anyS F n P md ops Q S fuel listed a w
  | 0 => ⟨hr, h⟩
  | _ + 1 => ⟨fun _ => h, by rw [hr]; simp⟩
def noDeferB (ops : Array Oper) : Bool := ops.toList.all fun o => match o.op with | .defer _ => false | _ => true
theorem noDefer_of (h : noDeferB ops = true) : NoDefer ops := fun j o hj c he => by
  have := (List.all_eq_true.1 h) o (List.mem_of_getElem? (i := j) (by simpa using hj))
  rw [he] at this
  cases this
theorem region_held {id : Nat} {a : Act} {w : World} (hm : P.follows .mixedOrders = true) (hd : noDeferB ops = true) (h : NoDefer ops → anyS F n P .any ops Q S ops.size (Array.replicate ops.size false) a w.drew) : (Code.region id ops true).wpIn F n P Q a w :=
  wpIn_region_any hm (anyS_any _ _ _ _ (h (noDefer_of hd)))
end
end Go.Proofs.Ytofpgkbcodopiaa
namespace Go.Proofs.Ytofpgkbcodopiaa
open Go

section
variable {F : Fence} {n : Nat} {P : Program} {ops : Array Oper} {Q : Exit → Act → World → Prop} {md : Region.Mode} {S : World → Prop} {c : Nat}

/-- whichever order is picked, S holding behind every operation but the call -/
def anyC (F : Fence) (n : Nat) (P : Program) (md : Region.Mode) (ops : Array Oper) (Q : Exit → Act → World → Prop) (S : World → Prop) (c : Nat) : Nat → Array Bool → Act → World → Prop
  | 0, listed, a, w => Region.ready md ops listed = [] ∧ Q .normal a w
  | fuel + 1, listed, a, w => (Region.ready md ops listed = [] → Q .normal a w) ∧
    ∀ j ∈ Region.ready md ops listed, wpOpIn F n P ops Q j (fun a' w' => (j ≠ c → S w' ∧ anyC F n P md ops Q S c fuel (listed.setIfInBounds j true) a' w') ∧ (j = c → wpAnyIn F n P md ops Q fuel (listed.setIfInBounds j true) a' w')) a w
theorem anyC_any : ∀ (fuel : Nat) (listed : Array Bool) (a : Act) (w : World), anyC F n P md ops Q S c fuel listed a w → wpAnyIn F n P md ops Q fuel listed a w
  | 0, _, _, _, h => h
  | fuel + 1, _, _, _, h => ⟨h.1, fun i hi => wpOpIn_mono (fun a' w' h' => by
      by_cases e : i = c
      · exact h'.2 e
      · exact anyC_any fuel _ a' w' (h'.1 e).2) (h.2 i hi)⟩
/-- q waits for p -/
def waits (md : Region.Mode) (ops : Array Oper) (p q : Nat) : Bool := match ops[q]? with | some o => o.after.any (fun e => Region.binds md e && e.on == p) | none => false
def chain (md : Region.Mode) (ops : Array Oper) : Nat → List Nat → Bool
  | _, [] => true
  | p, q :: L => waits md ops p q && chain md ops q L
theorem waits_no {p q : Nat} {listed : Array Bool} (h : waits md ops p q = true) (hu : listed.getD p true = false) : q ∉ Region.ready md ops listed := fun hq => by
  obtain ⟨_, o, ho, hall⟩ := mem_ready.1 hq
  unfold waits at h
  rw [ho] at h
  dsimp only at h
  rw [← Array.any_toList, List.any_eq_true] at h
  obtain ⟨e, he', hb⟩ := h
  have he : e ∈ o.after := by simpa using he'
  simp only [Bool.and_eq_true, beq_iff_eq] at hb
  have q1 := hall e he hb.1
  rw [hb.2] at q1
  rcases Nat.lt_or_ge p listed.size with h' | h'
  · simp [h'] at hu q1; rw [hu] at q1; cases q1
  · simp [Array.getElem?_eq_none h'] at q1
theorem chain_no {listed : Array Bool} : ∀ (L : List Nat) (p : Nat), chain md ops p L = true → listed.getD p true = false → (∀ q ∈ L, listed.getD q true = false) → ∀ q ∈ L, q ∉ Region.ready md ops listed
  | [], _, _, _, _, q, hq => by cases hq
  | r :: L, p, h, hp, hu, q, hq => by
    simp only [chain, Bool.and_eq_true] at h
    rcases List.mem_cons.1 hq with rfl | hq
    · exact waits_no h.1 hp
    · exact chain_no L r h.2 (hu r (by simp)) (fun x hx => hu x (List.mem_cons_of_mem _ hx)) q hq

theorem anyC_first {i : Nat} {oi : Oper} {v : Value} {L : List Nat} (hc : c ∈ L) (hch : chain md ops i L = true) (hic : i ≠ c) (hd : NoDefer ops) (hi : ops[i]? = some oi) (hsel : ∀ (j : Nat) (o : Oper) cs b, ops[j]? = some o → o.op ≠ .select cs b)
    (hQ : ∀ c a w, Q (.panic c) (a.put oi.dst v) w → Q (.panic c) a w) : ∀ (fuel : Nat) (listed : Array Bool) (a : Act) (w : World), (∀ q ∈ L, listed.getD q true = false) →
      (∀ j oj, ops[j]? = some oj → j ≠ i → listed.getD j true = false → (∀ e ∈ oj.after, Region.binds md e = true → e.on ≠ i) → oi.apart ops oj = true) →
      i ∈ Region.ready md ops listed → Gives P ops S oi v a → S w → anyC F n P md ops Q S c fuel (listed.setIfInBounds i true) (a.put oi.dst v) w → anyC F n P md ops Q S c (fuel + 1) listed a w
  | 0, listed, a, w, _, _, hr, hy, hS, H => by
    refine ⟨fun h => (by rw [h] at hr; cases hr), fun j hj => ?_⟩
    by_cases hji : j = i
    · subst hji; exact hy.now hd hi hS ⟨fun _ => ⟨hS, H⟩, fun e => absurd e hic⟩
    · have := ready_mono hj hji
      rw [H.1] at this
      cases this
  | fuel + 1, listed, a, w, hun0, hfree, hr, hy, hS, H => by
    refine ⟨fun h => (by rw [h] at hr; cases hr), fun j hj => ?_⟩
    by_cases hji : j = i
    · subst hji; exact hy.now hd hi hS ⟨fun _ => ⟨hS, H⟩, fun e => absurd e hic⟩
    · have hnL : ∀ q ∈ L, q ≠ j := fun q hq e => chain_no L i hch (mem_ready.1 hr).1 hun0 q hq (by rw [e]; exact hj)
      have hjc : j ≠ c := fun e => hnL c hc e.symm
      obtain ⟨hjun, oj, hoj, hall⟩ := mem_ready.1 hj
      have hnot : ∀ e ∈ oj.after, Region.binds md e = true → e.on ≠ i := fun e he hb heq => by
        have q1 := hall e he hb
        have q0 := (mem_ready.1 hr).1
        rw [heq] at q1
        rcases Nat.lt_or_ge i listed.size with h' | h'
        · simp [h'] at q0 q1; rw [q0] at q1; cases q1
        · simp [Array.getElem?_eq_none h'] at q1
      have h2 := hy.past hd hoj (hfree j oj hoj hji hjun hnot) (fun cs b => hsel i oi cs b hi) (fun cs b => hsel j oj cs b hoj) hQ (H.2 j (ready_mono hj hji))
      refine wpOpIn_mono (fun a' w' h3 => ⟨fun _ => ⟨(h3.2.1 hjc).1, anyC_first hc hch hic hd hi hsel hQ fuel (listed.setIfInBounds j true) a' w' (fun q hq => ?_) (fun k ok hk hki hun hno => ?_) (ready_mono hr (Ne.symm hji)) h3.1 (h3.2.1 hjc).1 ?_⟩, fun e => absurd e hjc⟩) h2
      · rw [getD_set_ne true (fun e => hnL q hq e.symm)]; exact hun0 q hq
      · refine hfree k ok hk hki ?_ hno
        by_cases hjk : j = k
        · subst hjk; exact hjun
        · rw [getD_set_ne true hjk] at hun; exact hun
      · rw [Array.setIfInBounds_comm _ _ hji]
        exact (h3.2.1 hjc).2
def unlB (listed : Array Bool) (L : List Nat) : Bool := L.all fun q => listed.getD q true == false
theorem unl_of {listed : Array Bool} {L : List Nat} (h : unlB listed L = true) : ∀ q ∈ L, listed.getD q true = false := fun q hq => by
  have := (List.all_eq_true.1 h) q hq
  simpa using this
/-- operation i, which leads to the call by the chain L, is taken first -/
theorem anyC_takeD {i : Nat} (L : List Nat) (d : Option Nat) {oi : Oper} {v : Value} {fuel : Nat} {listed : Array Bool} {a : Act} {w : World} (hc : (L.contains c && chain md ops i L && !(i == c) && unlB listed L) = true) (hd : NoDefer ops) (hi : ops[i]? = some oi) (hdst : oi.dst = d)
    (hs : Region.noSelect ops = true) (hf : Region.free md ops listed i = true) (hr : (Region.ready md ops listed).contains i = true) (hQ : ∀ c a w, Q (.panic c) (a.put d v) w → Q (.panic c) a w)
    (hy : Gives P ops S oi v a) (hS : S w) (h : anyC F n P md ops Q S c fuel (listed.setIfInBounds i true) (a.put d v) w) : anyC F n P md ops Q S c (fuel + 1) listed a w := by
  subst hdst
  simp only [Bool.and_eq_true, Bool.not_eq_true', beq_eq_false_iff_ne, ne_eq] at hc
  exact anyC_first (by simpa using hc.1.1.1) hc.1.1.2 hc.1.2 hd hi (Region.noSelect_spec hs) hQ fuel listed a w (unl_of hc.2) (Region.free_spec hi hf) (by simpa using hr) hy hS h
/-- the call, when it alone may come up -/
theorem anyC_call {o : Oper} {fuel : Nat} {listed : Array Bool} {a : Act} {w : World} (hr : Region.ready md ops listed = [c]) (ho : ops[c]? = some o) (hw : Region.wanted o (yielded ops a.tmps) = true)
    (h : ∀ K : Act → World → Prop, (∀ a w, wpAnyIn F n P md ops Q fuel (listed.setIfInBounds c true) a w → K a w) → Oper.wpIn F n P o a w K Q) : anyC F n P md ops Q S c (fuel + 1) listed a w :=
  ⟨fun h0 => (by rw [hr] at h0; cases h0), fun j hj => by
    rw [hr] at hj
    obtain rfl : j = c := by simpa using hj
    unfold wpOpIn
    simp only [ho, hw, if_true]
    exact h _ (fun a w hk => ⟨fun e => absurd rfl e, fun _ => hk⟩)⟩
theorem region_call (c : Nat) {id : Nat} {a : Act} {w : World} (hm : P.follows .mixedOrders = true) (hd : noDeferB ops = true) (h : NoDefer ops → anyC F n P .any ops Q S c ops.size (Array.replicate ops.size false) a w.drew) : (Code.region id ops true).wpIn F n P Q a w :=
  wpIn_region_any hm (anyC_any _ _ _ _ (h (noDefer_of hd)))
end
end Go.Proofs.Ytofpgkbcodopiaa
namespace Go.Proofs.Ytofpgkbcodopiaa
open Go.RowKit Go.Shelf
set_option linter.unusedSimpArgs false
set_option linter.unusedVariables false
/-- the blocks of a set stay as they are -/
def KeepB (S : Nat → Prop) (A B : World) : Prop := ∀ g, S g → B.heap[g]? = A.heap[g]?
theorem KeepB.refl (S : Nat → Prop) (A : World) : KeepB S A A := fun _ _ => rfl
theorem KeepB.trans {S : Nat → Prop} {A B C : World} (h : KeepB S A B) (k : KeepB S B C) : KeepB S A C := fun g hg => (k g hg).trans (h g hg)
theorem KeepB.cell {S : Nat → Prop} {A B : World} (h : KeepB S A B) {g : Nat} (hg : S g) (j : Nat) : B.cell? ⟨g, j, none⟩ = A.cell? ⟨g, j, none⟩ := World.cell?_of_block (h g hg)
theorem KeepB.of_below {S : Nat → Prop} {A B : World} {n : Nat} (h : Below n A B) (hS : ∀ g, S g → g < n) : KeepB S A B := fun g hg => h.block g (hS g hg)
theorem keepB_b {S : Nat → Prop} {w : World} (hS : ∀ g, S g → g < w.heap.size) (W : World) (l : Nat) (o o' : Obj) (hl : w.heap.size ≤ l) (_ : W.heap[l]? = some o) (_ : o.isCells = false) (_ : o.isWalk = false) : KeepB S W (W.putObj l o') :=
  fun g hg => World.putObj_heap_other (fun e => by have := hS g hg; omega)
theorem row_kept {W W' : World} {row : Option Nat} {g : Nat} {e : TypeId} {xs : List Value} (h : Row W g e xs) (hg : W.grownBy W' row) (hr : ∀ r, row = some r → ∃ o : Obj, W.heap[r]? = some o ∧ o.isCells = false) : Row W' g e xs := by
  have hne : row ≠ some g := fun e' => by
    obtain ⟨o, ho, hc⟩ := hr g e'
    rw [h] at ho
    cases ho
    simp [Obj.isCells] at hc
  exact (hg.5 g h.lt (fun e => hne e.symm)).trans h
theorem owns_kept {W W' : World} {row : Option Nat} {base size n : Nat} {e : TypeId} {v : Value} {xs : List Value} (h : W.ownsRow base e size v n xs) (hg : W.grownBy W' row) (hr : ∀ r, row = some r → ∃ o : Obj, W.heap[r]? = some o ∧ o.isCells = false) : W'.ownsRow base e size v n xs := by
  refine ⟨h.1, ?_⟩
  rcases h.2 with h0 | ⟨g, cap, cur, h1, h2, h3, h4⟩
  · exact .inl h0
  · refine .inr ⟨g, cap, cur, h1, h2, ?_, h4⟩
    have hne : some g ≠ row := fun e' => by
      obtain ⟨o, ho, hc⟩ := hr g e'.symm
      rw [h3] at ho
      cases ho
      simp [Obj.isCells] at hc
    exact (hg.5 g (lt_of_block h3) hne).trans h3
theorem owns_set {w : World} {base size n : Nat} {e : TypeId} {v : Value} {xs : List Value} (h : w.ownsRow base e size v n xs) {a : Addr} (ha : a.block < base) (u : Value) : (w.setCell a u).ownsRow base e size v n xs := by
  refine ⟨h.1, ?_⟩
  rcases h.2 with h0 | ⟨g, cap, cur, h1, h2, h3, h4⟩
  · exact .inl h0
  · exact .inr ⟨g, cap, cur, h1, h2, (Below.heap_setCell w a u g (fun e => by omega)).trans h3, h4⟩
theorem owns_lt {w : World} {base size n g : Nat} {e : TypeId} {v : Value} {xs : List Value} (h : w.ownsRow base e size v n xs) (hg : g < base) : some g ≠ v.ownBlock := fun he => by
  rcases h.2 with ⟨rfl, _⟩ | ⟨g', cap, cur, rfl, h2, h3, _⟩
  · cases he
  · have : g = g' := Option.some.inj he
    omega
theorem Row.grown' {w w' : World} {g : Nat} {e : TypeId} {xs : List Value} {o : Option Nat} (h : Row w g e xs) (hg : w.grownBy w' o) (hne : some g ≠ o) : Row w' g e xs := (hg.5 g h.lt hne).trans h
theorem keepsOthers_of {W W' : World} (h : Below W.heap.size W W') : KeepsOthers W W' :=
  ⟨h.size, fun k o hk _ => by
    have hlt : k < W.heap.size := by
      by_cases hlt : k < W.heap.size
      · exact hlt
      · rw [Array.getElem?_eq_none (Nat.le_of_not_lt hlt)] at hk; cases hk
    exact (h.block k hlt).trans hk⟩
theorem keepB_of {S : Nat → Prop} {W W' : World} (h : Below W.heap.size W W') (hS : ∀ g, S g → g < W.heap.size) : KeepB S W W' := KeepB.of_below h hS
theorem owns_belowP {w w' : World} {base size n : Nat} {e : TypeId} {v : Value} {xs : List Value} (h : w.ownsRow base e size v n xs) (hb : Below w.heap.size w w') : w'.ownsRow base e size v n xs := by
  refine ⟨h.1, ?_⟩
  rcases h.2 with h0 | ⟨g, cap, cur, h1, h2, h3, h4⟩
  · exact .inl h0
  · exact .inr ⟨g, cap, cur, h1, h2, (hb.block g (lt_of_block h3)).trans h3, h4⟩
attribute [local go_sem] Oper.semAt_some
theorem yield_two {e : Ending} {A B : Prop} (h : (e = .returned (.bool true) ∧ A) ∨ (e = .returned (.bool false) ∧ B)) : ∃ bv : Bool, e = .returned (.bool bv) ∧ (bv = true → A) ∧ (bv = false → B) := by
  rcases h with ⟨h, a⟩ | ⟨h, b⟩
  · exact ⟨true, h, fun _ => a, fun h => by cases h⟩
  · exact ⟨false, h, fun h => by (cases h), fun _ => b⟩
end Go.Proofs.Ytofpgkbcodopiaa
namespace Go.Proofs.Ytofpgkbcodopiaa
open Go.RowKit Go.Shelf
/-- the interval that ends behind so many readings -/
def itvA (js : List (Int × Int)) (k : Nat) : Array Value := #[.int .i64 ((k : Int) + 1), .agg #[.int .i64 (rd js k), .int .i64 (rv js k), .int .i64 (rd js (k + 1)), .int .i64 (rv js (k + 1))]]

set_option linter.unusedSimpArgs false
set_option maxRecDepth 100000 in
set_option maxHeartbeats 4000000 in
theorem itv1_in (F : Fence) (m : Nat) (hf : F.fn 48) (hro : F.round = none) (hm : 1 ≤ m) (l Bs b n cap : Nat) (js : List (Int × Int)) (hn : n = js.length) (hl : n ≤ 1048576) (J Jx : List (Fin (n - 1)) → World → Prop)
    (hY : ∀ pre (x : Fin (n - 1)) W, J pre W → pre.length < n - 1 → YieldAt F (m - 1) Try.prog l (itvA js x.1) W fun e W' =>
      (e = .returned (.bool true) ∧ J (pre ++ [x]) W' ∧ KeepB (fun g => g = b ∨ g = Bs) W W') ∨ (e = .returned (.bool false) ∧ Jx (pre ++ [x]) W'))
    (hd : ∀ pre A B, J pre A → A.grownBy B none → J pre B)
    (W : World) (hBs : W.cell? ⟨Bs, 0, none⟩ = some (.slice (some ⟨b, 0, none⟩) n cap)) (hc : ∀ j, j < n → W.cell? ⟨b, j * 2, none⟩ = some (.int .i64 (rd js j)) ∧ W.cell? ⟨b, j * 2 + 1, none⟩ = some (.int .i64 (rv js j))) (h0 : J [] W) :
    CallsIn F m Try.prog 48 #[.func (.yield l) #[] #[], .pointer (some ⟨Bs, 0, none⟩)] W fun e W' => (∃ v, e = .returned v) ∧
      ((∃ ys, ys = List.finRange (n - 1) ∧ J ys W') ∨ (∃ pre, (∃ k, k ≤ n - 1 ∧ pre = (List.finRange (n - 1)).take k) ∧ Jx pre W')) := by
  have HD := hid hd
  have hC := hid hc
  have hBB := hid hBs
  clear hn hc hd hBs
  refine callsIn_of_wp Try.func48 rfl hf ?_ hro
  simp only [Try.ntmps48, List.size_toArray, List.length_cons, List.length_nil, Nat.reduceAdd, Nat.reduceSub, Array.replicate_succ, Array.replicate_zero, List.push_toArray, List.append_toArray, List.nil_append, List.cons_append]
  gi_wp2
  gi_loopw [3] (fun i wr => ∃ k c : Nat, c = k + 1 ∧ k ≤ n - 1 ∧ i = .int .i64 (c : Int) ∧ J ((List.finRange (n - 1)).take k) wr ∧ KeepB (fun g => g = b ∨ g = Bs) W wr)
    (fun i _ => n - (intOf i).toNat)
  case atStart => exact ⟨0, 1, rfl, Nat.zero_le _, rfl, h0, KeepB.refl _ _⟩
  case round =>
    obtain ⟨k, c, hck, hk, rfl, hJs, hK⟩ := hrel
    have hbx := (hK.cell (g := Bs) (.inr rfl) 0).trans hBB.out
    have HCK := hid hck
    have hc0 : (0 : Int) ≤ (c : Int) := by omega
    by_cases hlt : k < n - 1
    · have x0 := (hK.cell (g := b) (.inl rfl) (k * 2)).trans (hC.out k (by omega)).1
      have x1 := (hK.cell (g := b) (.inl rfl) (k * 2 + 1)).trans (hC.out k (by omega)).2
      have x2 := (hK.cell (g := b) (.inl rfl) (c * 2)).trans (hC.out c (by omega)).1
      have x3 := (hK.cell (g := b) (.inl rfl) (c * 2 + 1)).trans (hC.out c (by omega)).2
      obtain ⟨fn, tmps, assign, body, hy, hR⟩ := hY _ ⟨k, hlt⟩ wr.drew (HD.out _ _ _ hJs ⟨rfl, rfl, rfl, Nat.le_refl _, fun _ _ _ => rfl⟩) (by rw [finTake_length (n - 1) k hk]; exact hlt)
      have hlen := hid (finTake_succ (n - 1) k hlt)
      unfold itvA at hy
      dsimp only at hy
      rw [← hck, show ((k : Int) + 1) = (c : Int) by omega] at hy
      obtain ⟨p, hp⟩ : ∃ p, rd js k = p := ⟨_, rfl⟩
      obtain ⟨q, hq⟩ : ∃ p, rv js k = p := ⟨_, rfl⟩
      obtain ⟨u, hu⟩ : ∃ p, rd js c = p := ⟨_, rfl⟩
      obtain ⟨v, hv⟩ : ∃ p, rv js c = p := ⟨_, rfl⟩
      rw [hp] at x0 hy
      rw [hq] at x1 hy
      rw [hu] at x2 hy
      rw [hv] at x3 hy
      have hlt' : (c : Int) < (n : Int) := by omega
      have hcn : c < n := by omega
      have hkn : k < n := by omega
      have hk0 : (0 : Int) ≤ (k : Int) := by omega
      have e1 : (c : Int) - 1 = (k : Int) := by omega
      have tk : IntKind.i64.wrap (k : Int) = (k : Int) := IntWalk.i64_in _ (by omega)
      clear hp hq hu hv hck
      gi_wp2
      refine region_call (S := fun W' : World => W'.cell? ⟨Bs, 0, none⟩ = some (.slice (some ⟨b, 0, none⟩) n cap) ∧ W'.cell? ⟨b, k * 2, none⟩ = some (.int .i64 p) ∧ W'.cell? ⟨b, k * 2 + 1, none⟩ = some (.int .i64 q) ∧ W'.cell? ⟨b, c * 2, none⟩ = some (.int .i64 u) ∧ W'.cell? ⟨b, c * 2 + 1, none⟩ = some (.int .i64 v)) 12 (by kernel_rfl) (by kernel_rfl) (fun hnd => ?_)
      have hS : (fun W' : World => W'.cell? ⟨Bs, 0, none⟩ = some (.slice (some ⟨b, 0, none⟩) n cap) ∧ W'.cell? ⟨b, k * 2, none⟩ = some (.int .i64 p) ∧ W'.cell? ⟨b, k * 2 + 1, none⟩ = some (.int .i64 q) ∧ W'.cell? ⟨b, c * 2, none⟩ = some (.int .i64 u) ∧ W'.cell? ⟨b, c * 2 + 1, none⟩ = some (.int .i64 v)) wr.drew := ⟨hbx, x0, x1, x2, x3⟩
      refine anyC_takeD [12] (some 10) (i := 0) (v := ?_) (by kernel_rfl) hnd rfl rfl (by kernel_rfl) (by kernel_rfl) (by kernel_rfl) (fun _ _ _ h => h) ⟨by rfl, ?_, fun _ => rfl⟩ hS ?_
      rotate_left
      · intro w' hw'
        obtain ⟨hw1, hw2, hw3, hw4, hw5⟩ := hw'
        go_simp
        try with_reducible rfl
      simp only [Act.put, List.setIfInBounds_toArray, List.set_cons_zero, List.set_cons_succ]
      refine anyC_takeD [12] (some 11) (i := 1) (v := ?_) (by kernel_rfl) hnd rfl rfl (by kernel_rfl) (by kernel_rfl) (by kernel_rfl) (fun _ _ _ h => h) ⟨by rfl, ?_, fun _ => rfl⟩ hS ?_
      rotate_left
      · intro w' hw'
        obtain ⟨hw1, hw2, hw3, hw4, hw5⟩ := hw'
        go_simp
        try with_reducible rfl
      simp only [Act.put, List.setIfInBounds_toArray, List.set_cons_zero, List.set_cons_succ]
      refine anyC_takeD [5, 6, 11, 12] (some 12) (i := 2) (v := ?_) (by kernel_rfl) hnd rfl rfl (by kernel_rfl) (by kernel_rfl) (by kernel_rfl) (fun _ _ _ h => h) ⟨by rfl, ?_, fun _ => rfl⟩ hS ?_
      rotate_left
      · intro w' hw'
        obtain ⟨hw1, hw2, hw3, hw4, hw5⟩ := hw'
        go_simp
        try with_reducible rfl
      simp only [Act.put, List.setIfInBounds_toArray, List.set_cons_zero, List.set_cons_succ]
      refine anyC_takeD [4, 5, 6, 11, 12] (some 13) (i := 3) (v := ?_) (by kernel_rfl) hnd rfl rfl (by kernel_rfl) (by kernel_rfl) (by kernel_rfl) (fun _ _ _ h => h) ⟨by rfl, ?_, fun _ => rfl⟩ hS ?_
      rotate_left
      · intro w' hw'
        obtain ⟨hw1, hw2, hw3, hw4, hw5⟩ := hw'
        go_simp
        try with_reducible rfl
      simp only [Act.put, List.setIfInBounds_toArray, List.set_cons_zero, List.set_cons_succ]
      refine anyC_takeD [5, 6, 11, 12] (some 14) (i := 4) (v := ?_) (by kernel_rfl) hnd rfl rfl (by kernel_rfl) (by kernel_rfl) (by kernel_rfl) (fun _ _ _ h => h) ⟨by rfl, ?_, fun _ => rfl⟩ hS ?_
      rotate_left
      · intro w' hw'
        obtain ⟨hw1, hw2, hw3, hw4, hw5⟩ := hw'
        go_simp
        try with_reducible rfl
      simp only [Act.put, List.setIfInBounds_toArray, List.set_cons_zero, List.set_cons_succ]
      refine anyC_takeD [6, 11, 12] (some 15) (i := 5) (v := ?_) (by kernel_rfl) hnd rfl rfl (by kernel_rfl) (by kernel_rfl) (by kernel_rfl) (fun _ _ _ h => h) ⟨by rfl, ?_, fun _ => rfl⟩ hS ?_
      rotate_left
      · intro w' hw'
        obtain ⟨hw1, hw2, hw3, hw4, hw5⟩ := hw'
        go_simp
        try with_reducible rfl
      simp only [Act.put, List.setIfInBounds_toArray, List.set_cons_zero, List.set_cons_succ]
      refine anyC_takeD [11, 12] (some 16) (i := 6) (v := ?_) (by kernel_rfl) hnd rfl rfl (by kernel_rfl) (by kernel_rfl) (by kernel_rfl) (fun _ _ _ h => h) ⟨by rfl, ?_, fun _ => rfl⟩ hS ?_
      rotate_left
      · intro w' hw'
        obtain ⟨hw1, hw2, hw3, hw4, hw5⟩ := hw'
        go_simp
        try with_reducible rfl
      simp only [Act.put, List.setIfInBounds_toArray, List.set_cons_zero, List.set_cons_succ]
      refine anyC_takeD [9, 10, 11, 12] (some 17) (i := 7) (v := ?_) (by kernel_rfl) hnd rfl rfl (by kernel_rfl) (by kernel_rfl) (by kernel_rfl) (fun _ _ _ h => h) ⟨by rfl, ?_, fun _ => rfl⟩ hS ?_
      rotate_left
      · intro w' hw'
        obtain ⟨hw1, hw2, hw3, hw4, hw5⟩ := hw'
        go_simp
        try with_reducible rfl
      simp only [Act.put, List.setIfInBounds_toArray, List.set_cons_zero, List.set_cons_succ]
      refine anyC_takeD [9, 10, 11, 12] (some 18) (i := 8) (v := ?_) (by kernel_rfl) hnd rfl rfl (by kernel_rfl) (by kernel_rfl) (by kernel_rfl) (fun _ _ _ h => h) ⟨by rfl, ?_, fun _ => rfl⟩ hS ?_
      rotate_left
      · intro w' hw'
        obtain ⟨hw1, hw2, hw3, hw4, hw5⟩ := hw'
        go_simp
        try with_reducible rfl
      simp only [Act.put, List.setIfInBounds_toArray, List.set_cons_zero, List.set_cons_succ]
      refine anyC_takeD [10, 11, 12] (some 19) (i := 9) (v := ?_) (by kernel_rfl) hnd rfl rfl (by kernel_rfl) (by kernel_rfl) (by kernel_rfl) (fun _ _ _ h => h) ⟨by rfl, ?_, fun _ => rfl⟩ hS ?_
      rotate_left
      · intro w' hw'
        obtain ⟨hw1, hw2, hw3, hw4, hw5⟩ := hw'
        go_simp
        try with_reducible rfl
      simp only [Act.put, List.setIfInBounds_toArray, List.set_cons_zero, List.set_cons_succ]
      refine anyC_takeD [11, 12] (some 20) (i := 10) (v := ?_) (by kernel_rfl) hnd rfl rfl (by kernel_rfl) (by kernel_rfl) (by kernel_rfl) (fun _ _ _ h => h) ⟨by rfl, ?_, fun _ => rfl⟩ hS ?_
      rotate_left
      · intro w' hw'
        obtain ⟨hw1, hw2, hw3, hw4, hw5⟩ := hw'
        go_simp
        try with_reducible rfl
      simp only [Act.put, List.setIfInBounds_toArray, List.set_cons_zero, List.set_cons_succ]
      refine anyC_takeD [12] (some 21) (i := 11) (v := ?_) (by kernel_rfl) hnd rfl rfl (by kernel_rfl) (by kernel_rfl) (by kernel_rfl) (fun _ _ _ h => h) ⟨by rfl, ?_, fun _ => rfl⟩ hS ?_
      rotate_left
      · intro w' hw'
        obtain ⟨hw1, hw2, hw3, hw4, hw5⟩ := hw'
        go_simp
        try with_reducible rfl
      simp only [Act.put, List.setIfInBounds_toArray, List.set_cons_zero, List.set_cons_succ]
      refine anyC_call (by kernel_rfl) rfl (by rfl) (fun K hKK => ?_)
      go_simp
      refine hR.mono ?_
      rintro e W3 h3
      obtain ⟨bv, rfl, h3a, h3b⟩ := yield_two h3
      dsimp only
      refine hKK _ _ ?_
      refine wpAnyIn_take (i := 13) (v := ?_) hro rfl (by kernel_rfl) (by kernel_rfl) (by kernel_rfl) (fun _ _ _ h => h) ⟨Or.inl ⟨by rfl, ?_⟩, fun _ => rfl⟩ ?_
      rotate_left
      · intro w'
        go_simp
        try with_reducible rfl
      simp only [Act.put, List.setIfInBounds_toArray, List.set_cons_zero, List.set_cons_succ]
      refine wpAnyIn_done (by kernel_rfl) ?_ _
      cases bv
      · have h5 := hid (h3b rfl)
        gi_wp2
        refine bodyPost_ret (results_none rfl _ _ _) rfl ?_
        exact ⟨⟨_, rfl⟩, .inr ⟨_, ⟨k + 1, by omega, hlen.out.symm⟩, h5.out⟩⟩
      · have h5 := hid (h3a rfl)
        gi_wp2
        go_roundw
        case rel => exact ⟨k + 1, c + 1, by have := HCK.out; omega, by omega, by go_num, by rw [hlen.out]; exact h5.out.1, hK.trans h5.out.2⟩
        case measure => simp [intOf]; omega
    · obtain rfl : k = n - 1 := by omega
      have hlt' : ¬ (c : Int) < (n : Int) := by omega
      have hge : (n : Int) ≤ (c : Int) := by omega
      gi_wp2
      go_end0
      rw [finTake_all (n - 1)] at hJs
      exact ⟨⟨_, rfl⟩, .inl hJs⟩
end Go.Proofs.Ytofpgkbcodopiaa
namespace Go.Proofs.Ytofpgkbcodopiaa
open Go.RowKit Go.Shelf
theorem itv_in (F : Fence) (m : Nat) (hf : F.fn 19) (hro : F.round = none) (a : Option Addr) (len cap : Nat) (w : World) :
    CallsIn F m Try.prog 19 #[.slice a len cap] w fun e w' => e = .returned (.func (.func 48) #[] #[.pointer (some ⟨w.heap.size, 0, none⟩)]) ∧ w' = w.alloc (.cells #[.slice a len cap] 25) := by
  refine callsIn_of_wp Try.func19 rfl hf ?_ hro
  simp only [Try.ntmps19, List.size_toArray, List.length_cons, List.length_nil, Nat.reduceAdd, Nat.reduceSub, Array.replicate_succ, Array.replicate_zero, List.push_toArray, List.append_toArray, List.nil_append, List.cons_append]
  gi_wp2
  go_ret
  exact ⟨rfl, rfl⟩
theorem itv_stops (F : Fence) (m : Nat) (hf : F.fn 48) (hro : F.round = none) (hm : 1 ≤ m) (Bs b n cap : Nat) (js : List (Int × Int)) (hn : n = js.length) (hl : n ≤ 1048576) (w : World) (hBs : Bs < w.heap.size) (hb : b < w.heap.size)
    (hc : w.cell? ⟨Bs, 0, none⟩ = some (.slice (some ⟨b, 0, none⟩) n cap)) (hI : ∀ j, j < n → w.cell? ⟨b, j * 2, none⟩ = some (.int .i64 (rd js j)) ∧ w.cell? ⟨b, j * 2 + 1, none⟩ = some (.int .i64 (rv js j))) :
    SeqStopsK F m Try.prog 48 #[.pointer (some ⟨Bs, 0, none⟩)] (fun x : Fin (n - 1) => itvA js x.1) (KeepB (fun g => g = b ∨ g = Bs)) (fun ys => ys = List.finRange (n - 1))
      (fun pre => ∃ k, k ≤ n - 1 ∧ pre = (List.finRange (n - 1)).take k) (n - 1) w := fun l J Jx W hW hA _ hY h0 => by
  exact itv1_in F m hf hro hm l Bs b n cap js hn hl J Jx hY (fun pre A B hj hg => hA pre A B none hj hg (fun r e => by cases e)) W ((hW.cell (p := ⟨Bs, 0, none⟩) hBs).trans hc)
    (fun j hj => ⟨(hW.cell (p := ⟨b, j * 2, none⟩) hb).trans (hI j hj).1, (hW.cell (p := ⟨b, j * 2 + 1, none⟩) hb).trans (hI j hj).2⟩) h0
end Go.Proofs.Ytofpgkbcodopiaa
namespace Go.Proofs.Ytofpgkbcodopiaa

/-- a reading of a stack with so many values -/
def okRd (z d v : Int) : Bool := decide (0 ≤ d ∧ d ≤ 100000 ∧ 0 ≤ v ∧ v < z)
def okF (lo hi : Int) : Bool := decide (0 ≤ lo ∧ lo ≤ hi ∧ hi ≤ 1000000)
/-- the least count, of low and more, and the greatest one, of high and less -/
def lstI (z way low : Int) : Int := low + (way - low) % z
def gstI (z way high : Int) : Int := high - (high - way) % z
/-- a count is possible -/
def posI (z way low high : Int) : Bool := decide (lstI z way low ≤ gstI z way high)
theorem gst_ge (z way low high : Int) (hz : 1 ≤ z) (h : lstI z way low ≤ high) : lstI z way low ≤ gstI z way high := by
  unfold lstI gstI at *
  have e : (high - way) % z = (high - (low + (way - low) % z)) % z := by
    apply (Int.emod_emod_of_dvd _ (Int.dvd_refl z)).symm.trans
    rw [Int.emod_emod_of_dvd _ (Int.dvd_refl z)]
    apply Int.emod_eq_emod_iff_emod_sub_eq_zero.2
    have : high - way - (high - (low + (way - low) % z)) = (way - low) % z - (way - low) := by omega
    rw [this]
    have := Int.emod_add_mul_ediv (way - low) z
    rw [show (way - low) % z - (way - low) = z * (-((way - low) / z)) by rw [Int.mul_neg]; omega]
    exact Int.mul_emod_right _ _
  rw [e]
  have : (high - (low + (way - low) % z)) % z ≤ high - (low + (way - low) % z) := by
    have h0 : 0 ≤ high - (low + (way - low) % z) := by omega
    have := Int.emod_add_mul_ediv (high - (low + (way - low) % z)) z
    have q := Int.ediv_nonneg h0 (show 0 ≤ z by omega)
    have := Int.mul_nonneg (show 0 ≤ z by omega) q
    omega
  omega
theorem gst_le (z way high : Int) (hz : 1 ≤ z) : gstI z way high ≤ high := by
  unfold gstI
  have := Int.emod_nonneg (high - way) (show z ≠ 0 by omega)
  omega
theorem pos_iff (z way low high : Int) (hz : 1 ≤ z) : posI z way low high = decide (lstI z way low ≤ high) := by
  unfold posI
  by_cases h : lstI z way low ≤ high
  · rw [decide_eq_true h, decide_eq_true (gst_ge z way low high hz h)]
  · have := gst_le z way high hz
    rw [decide_eq_false h, decide_eq_false (by omega)]
theorem mod_gap (z way low : Int) : (way % z - low) % z = (way - low) % z := by
  rw [Int.emod_sub_emod]
theorem mod_gap' (z way high : Int) : (high - way % z) % z = (high - way) % z := by
  rw [Int.sub_emod_emod]
/-- by how much it has been set back at least -/
def backI (z way low high : Int) : Int := if posI z way low high then 0 else (low - way) % z
theorem back_eq (z way low high : Int) (hz : 1 ≤ z) : (if z ≤ (low - way) % z + (high - low) then 0 else (low - way) % z) = backI z way low high := by
  unfold backI
  rw [pos_iff z way low high hz]
  unfold lstI
  have h1 := Int.emod_nonneg (way - low) (show z ≠ 0 by omega)
  have h2 := Int.emod_lt_of_pos (way - low) (show 0 < z by omega)
  have h3 := Int.emod_nonneg (low - way) (show z ≠ 0 by omega)
  have h4 := Int.emod_lt_of_pos (low - way) (show 0 < z by omega)
  have h5 : ((low - way) % z + (way - low) % z) % z = 0 := by
    rw [← Int.add_emod, show low - way + (way - low) = 0 by omega]; exact Int.zero_emod _
  have h6 : (low - way) % z + (way - low) % z = 0 ∨ (low - way) % z + (way - low) % z = z := by
    have := Int.emod_add_mul_ediv ((low - way) % z + (way - low) % z) z
    rw [h5] at this
    generalize ((low - way) % z + (way - low) % z) / z = q at this
    have q0 : 0 ≤ q := by
      by_cases hq : 0 ≤ q
      · exact hq
      · have := Int.mul_le_mul_of_nonneg_left (show q ≤ -1 by omega) (show 0 ≤ z by omega)
        omega
    have q1 : q ≤ 1 := by
      by_cases hq : q ≤ 1
      · exact hq
      · have := Int.mul_le_mul_of_nonneg_left (show 2 ≤ q by omega) (show 0 ≤ z by omega)
        omega
    have : q = 0 ∨ q = 1 := by omega
    rcases this with rfl | rfl <;> omega
  by_cases hp : low + (way - low) % z ≤ high
  · rw [decide_eq_true hp]
    simp only [if_true]
    split <;> omega
  · rw [decide_eq_false hp, if_neg (by omega)]
    simp
end Go.Proofs.Ytofpgkbcodopiaa
namespace Go.Proofs.Ytofpgkbcodopiaa
open Go.RowKit
set_option maxHeartbeats 1000000 in
theorem validStack_any (b n cap : Nat) (zs : List Int) (w : World) (h : Stk w b zs) (hn : n = zs.length) :
    Calls Try.prog 46 #[.slice (some ⟨b, 0, none⟩) n cap] w fun e w' => e = .returned (.bool (okL zs)) ∧ w = w' := by
  have hC := hid h.2.1
  have hZ := hid h.2.2.1
  have hl := h.2.2.2
  rw [← hn] at hl
  have hN := hid hn
  clear h hn
  by_cases h1 : n < 1
  · have hf := hid (okL_len0 zs (by rw [← hN.out]; exact h1))
    go_enter Try.func46, Try.ntmps46
    go_wp2
    go_ret
    exact ⟨by rw [hf.out]; rfl, rfl⟩
  by_cases h8 : 8 < n
  · have hf := hid (okL_len9 zs (by rw [← hN.out]; exact h8))
    go_enter Try.func46, Try.ntmps46
    go_wp2
    go_ret
    exact ⟨by rw [hf.out]; rfl, rfl⟩
  go_enter Try.func46, Try.ntmps46
  go_wp2
  go_loop [3, 16] (fun s i => ∃ k : Nat, k ≤ n ∧ i = .int .i64 k ∧ s = .int .i64 (szL (zs.take k)) ∧ inB zs k) (fun _ i => n - (intOf i).toNat)
  case atStart => exact ⟨0, Nat.zero_le _, rfl, rfl, inB_zero _⟩
  case round =>
    obtain ⟨k, hk, rfl, rfl, hin⟩ := hrel
    by_cases hlt : k < n
    · have hltz : k < zs.length := by rw [← hN.out]; exact hlt
      have hx := hC.out k hltz
      have hzb := hZ.out (zs[k]?.getD 0) (by simp [hltz])
      have HL := okL_low zs k hltz
      have HH := okL_high zs k hltz
      have HS := fun a b => szL_step zs k hltz (by rw [← hN.out]; omega) (inB_succ hin a b)
      have HT := hid (szL_take zs k hltz)
      have HI := fun a b => inB_succ hin a b
      obtain ⟨p, hp⟩ : ∃ p, p = szL (zs.take k) := ⟨_, rfl⟩
      obtain ⟨z, hz⟩ : ∃ z, z = zs[k]?.getD 0 := ⟨_, rfl⟩
      rw [← hz] at hx hzb HL HH HS HI
      rw [← hp] at HS
      have HT' : Hid (szL (zs.take (k + 1)) = p * z) := by rw [HT.out, ← hp, ← hz]; exact hid rfl
      clear HT hin
      have hHI := hid HI; have hHS := hid HS; have hHL := hid HL; have hHH := hid HH
      clear HI HS HL HH
      rw [← hp]
      have hp' := hid hp; have hz' := hid hz
      clear hp hz
      by_cases h2 : z < 2
      · have hf := hid (hHL.out h2)
        go_wp2
        go_ret
        exact ⟨by rw [hf.out]; rfl, rfl⟩
      by_cases h3 : 100 < z
      · have hf := hid (hHH.out h3)
        go_wp2
        go_ret
        exact ⟨by rw [hf.out]; rfl, rfl⟩
      obtain ⟨s1, s2, s3, s4⟩ := hHS.out (by omega) (by omega)
      have hi := hHI.out (by omega) (by omega)
      have hHi := hid hi
      clear hi
      go_wp2
      go_round
      case rel => exact ⟨k + 1, by omega, by go_num, by rw [HT'.out], hHi.out⟩
      case measure => simp [intOf]; omega
    · obtain rfl : k = n := by omega
      have hf : okL zs = decide (szL zs ≤ 1000000000000) := okL_end zs (by rw [← hN.out]; omega) (by rw [← hN.out]; omega) (by rw [← hN.out]; exact hin)
      have hz : zs.take k = zs := by rw [hN.out, List.take_length]
      have hf' := hid hf
      clear hf
      rw [hz]
      clear hz hin
      go_wp2
      go_ret
      exact ⟨by rw [hf'.out]; rfl, rfl⟩
theorem inr_any (n lo hi : Int) (w : World) :
    Calls Try.prog 24 #[.int .i64 n, .int .i64 lo, .int .i64 hi] w fun e w' => e = .returned (.bool (decide (lo ≤ n) && decide (n ≤ hi))) ∧ w = w' := by
  by_cases h : lo ≤ n
  · have h1 : decide (lo ≤ n) = true := by simpa using h
    go_enter Try.func24, Try.ntmps24
    go_wp2
    go_ret
    exact ⟨by simp [h], rfl⟩
  · have h1 : decide (lo ≤ n) = false := by simpa using h
    go_enter Try.func24, Try.ntmps24
    go_wp2
    go_ret
    exact ⟨by simp, rfl⟩
/-- the two ways of l00In -/
theorem inr_yes (n lo hi : Int) (w : World) (h : lo ≤ n ∧ n ≤ hi) : Calls Try.prog 24 #[.int .i64 n, .int .i64 lo, .int .i64 hi] w fun e w' => e = .returned (.bool true) ∧ w = w' :=
  (inr_any n lo hi w).mono fun _ _ ⟨he, hw⟩ => ⟨by rw [he]; simp [h.1, h.2], hw⟩
theorem inr_no (n lo hi : Int) (w : World) (h : n < lo ∨ hi < n) : Calls Try.prog 24 #[.int .i64 n, .int .i64 lo, .int .i64 hi] w fun e w' => e = .returned (.bool false) ∧ w = w' :=
  (inr_any n lo hi w).mono fun _ _ ⟨he, hw⟩ => ⟨by
    rw [he]
    have : ¬ (lo ≤ n ∧ n ≤ hi) := by omega
    have h2 : (decide (lo ≤ n) && decide (n ≤ hi)) = false := by simpa using fun a => by omega
    rw [h2], hw⟩
theorem min_any (a b : Int) (w : World) :
    Calls Try.prog 29 #[.int .i64 a, .int .i64 b] w fun e w' => e = .returned (.int .i64 (min a b)) ∧ w = w' := by
  by_cases h : a < b
  · have hm := hid (show min a b = a from by omega)
    go_enter Try.func29, Try.ntmps29
    go_wp2
    go_ret
    exact ⟨by rw [hm.out]; rfl, rfl⟩
  · have hm := hid (show min a b = b from by omega)
    go_enter Try.func29, Try.ntmps29
    go_wp2
    go_ret
    exact ⟨by rw [hm.out]; rfl, rfl⟩

/-- spec.l01Size of the first n bases, each within its bounds: the product, or one more than MaxCount. -/
def szC (zs : List Int) : Int := min (szL zs) 1000000000001
theorem szC_take (zs : List Int) (k : Nat) (hk : k < zs.length) (h : inB zs (k + 1)) :
    min (szC (zs.take k) * (zs[k]?.getD 0)) 1000000000001 = szC (zs.take (k + 1)) := by
  unfold szC
  rw [szL_take zs k hk]
  have a := (szL_bd zs k (by omega) (fun j hj => h j (by omega))).1
  have hz := h k (by omega)
  obtain ⟨p, hp⟩ : ∃ p, p = szL (zs.take k) := ⟨_, rfl⟩
  obtain ⟨z, hz'⟩ : ∃ z, z = zs[k]?.getD 0 := ⟨_, rfl⟩
  rw [← hp] at a; rw [← hz'] at hz; rw [← hp, ← hz']
  by_cases c : p ≤ 1000000000001
  · rw [show min p 1000000000001 = p from by omega]
  · have h1 : 1000000000001 * 1 ≤ p * z := Int.mul_le_mul (by omega) (by omega) (by omega) (by omega)
    have h2 : 1000000000001 * 2 ≤ 1000000000001 * z := Int.mul_le_mul_of_nonneg_left hz.1 (by omega)
    rw [show min p 1000000000001 = 1000000000001 from by omega]
    omega
theorem szC_zero (zs : List Int) : szC (zs.take 0) = 1 := by
  show min (szL []) 1000000000001 = 1
  rw [szL_nil]; omega
theorem szC_bd (zs : List Int) (k : Nat) (hk : k ≤ zs.length) (h : inB zs k) : 1 ≤ szC (zs.take k) ∧ szC (zs.take k) ≤ 1000000000001 := by
  have a := (szL_bd zs k hk h).1
  unfold szC
  omega
set_option maxHeartbeats 1000000 in
theorem l01Size_any (b n cap : Nat) (zs : List Int) (w : World) (h : Stk w b zs) (hn : n ≤ zs.length) (hin : inB zs n) :
    Calls Try.prog 25 #[.slice (some ⟨b, 0, none⟩) n cap] w fun e w' => e = .returned (.int .i64 (szC (zs.take n))) ∧ w = w' := by
  have hC := hid h.2.1
  have hl := Nat.le_trans hn h.2.2.2
  have hI := hid hin
  clear h hin
  go_enter Try.func25, Try.ntmps25
  go_wp2
  go_loop [3, 4] (fun s i => ∃ k : Nat, k ≤ n ∧ i = .int .i64 k ∧ s = .int .i64 (szC (zs.take k))) (fun _ i => n - (intOf i).toNat)
  case atStart => exact ⟨0, Nat.zero_le _, rfl, by rw [szC_zero]⟩
  case round =>
    obtain ⟨k, hk, rfl, rfl⟩ := hrel
    by_cases hlt : k < n
    · have hx := hC.out k (by omega)
      have hzb := hI.out k hlt
      have hb := szC_bd zs k (by omega) (fun j hj => hI.out j (by omega))
      have HT := hid (szC_take zs k (by omega) (fun j hj => hI.out j (by omega)))
      obtain ⟨p, hp⟩ : ∃ p, p = szC (zs.take k) := ⟨_, rfl⟩
      obtain ⟨z, hz⟩ : ∃ z, z = zs[k]?.getD 0 := ⟨_, rfl⟩
      rw [← hz] at hx hzb HT
      rw [← hp] at hb HT
      rw [← hp]
      have hp' := hid hp; have hz' := hid hz
      clear hp hz
      have s1 : p * z ≤ 100000000000100 := by
        have : p * z ≤ 1000000000001 * 100 := Int.mul_le_mul hb.2 hzb.2 (by omega) (by omega)
        omega
      have s2 : 0 ≤ p * z := Int.mul_nonneg (by omega) (by omega)
      go_wp2_with (go_at_call 29; refine (min_any _ _ _).mono ?_; rintro e w' ⟨rfl, rfl⟩)
      go_round
      case rel => exact ⟨k + 1, by omega, by go_num, by rw [← HT.out]⟩
      case measure => simp [intOf]; omega
    · obtain rfl : k = n := by omega
      go_wp2
      go_ret
      exact ⟨rfl, rfl⟩
theorem szC_ok (zs : List Int) : decide (szC zs ≤ 1000000000000) = decide (szL zs ≤ 1000000000000) := by
  by_cases c : szL zs ≤ 1000000000000
  · simp [c, show szC zs ≤ 1000000000000 from by unfold szC; omega]
  · simp [c, show ¬ szC zs ≤ 1000000000000 from by unfold szC; omega]
set_option maxHeartbeats 1000000 in
theorem l01Ok_any (b n cap : Nat) (zs : List Int) (w : World) (h : Stk w b zs) (hn : n = zs.length) :
    Calls Try.prog 43 #[.slice (some ⟨b, 0, none⟩) n cap] w fun e w' => e = .returned (.bool (okL zs)) ∧ w = w' := by
  have hS := hid h
  have hC := hid h.2.1
  have hZ := hid h.2.2.1
  have hl := h.2.2.2
  rw [← hn] at hl
  have hN := hid hn
  clear h hn
  by_cases h1 : n < 1
  · have hf := hid (okL_len0 zs (by rw [← hN.out]; exact h1))
    go_enter Try.func43, Try.ntmps43
    go_wp2_with (go_at_call 24; refine (inr_no _ _ _ _ (by omega)).mono ?_; rintro e w' ⟨rfl, rfl⟩)
    go_ret
    exact ⟨by rw [hf.out]; rfl, rfl⟩
  by_cases h8 : 8 < n
  · have hf := hid (okL_len9 zs (by rw [← hN.out]; exact h8))
    go_enter Try.func43, Try.ntmps43
    go_wp2_with (go_at_call 24; refine (inr_no _ _ _ _ (by omega)).mono ?_; rintro e w' ⟨rfl, rfl⟩)
    go_ret
    exact ⟨by rw [hf.out]; rfl, rfl⟩
  go_enter Try.func43, Try.ntmps43
  go_wp2_with (go_at_call 24; refine (inr_yes _ _ _ _ (by omega)).mono ?_; rintro e w' ⟨rfl, rfl⟩)
  go_loop [3] (fun i => ∃ k : Nat, k ≤ n ∧ i = .int .i64 k ∧ inB zs k) (fun i => n - (intOf i).toNat)
  case atStart => exact ⟨0, Nat.zero_le _, rfl, inB_zero _⟩
  case round =>
    obtain ⟨k, hk, rfl, hin⟩ := hrel
    by_cases hlt : k < n
    · have hltz : k < zs.length := by rw [← hN.out]; exact hlt
      have hx := hC.out k hltz
      have hzb := hZ.out (zs[k]?.getD 0) (by simp [hltz])
      have hHL := hid (okL_low zs k hltz)
      have hHH := hid (okL_high zs k hltz)
      have hHI := hid (fun a b => inB_succ hin a b)
      obtain ⟨z, hz⟩ : ∃ z, z = zs[k]?.getD 0 := ⟨_, rfl⟩
      rw [← hz] at hx hzb hHL hHH hHI
      have hz' := hid hz
      clear hz hin
      by_cases h2 : z < 2
      · have hf := hid (hHL.out h2)
        go_wp2
        go_ret
        exact ⟨by rw [hf.out]; rfl, rfl⟩
      by_cases h3 : 100 < z
      · have hf := hid (hHH.out h3)
        go_wp2
        go_ret
        exact ⟨by rw [hf.out]; rfl, rfl⟩
      have hHi := hid (hHI.out (by omega) (by omega))
      go_wp2
      go_round
      case rel => exact ⟨k + 1, by omega, by go_num, hHi.out⟩
      case measure => simp [intOf]; omega
    · obtain rfl : k = n := by omega
      rw [hN.out] at hin
      have hf' := hid ((okL_end zs (by rw [← hN.out]; omega) (by rw [← hN.out]; omega) hin).trans (szC_ok zs).symm)
      have hi' := hid hin
      have hz := hid (show zs.take k = zs by rw [hN.out, List.take_length])
      clear hin
      go_wp2_with (go_at_call 25; refine (l01Size_any _ _ _ zs _ hS.out (Nat.le_of_eq hN.out) (by rw [hN.out]; exact hi'.out)).mono ?_; rw [hz.out]; rintro e w' ⟨rfl, rfl⟩)
      go_ret
      exact ⟨by rw [hf'.out]; rfl, rfl⟩
end Go.Proofs.Ytofpgkbcodopiaa
namespace Go.Proofs.Ytofpgkbcodopiaa
open Go.RowKit Go.Shelf

attribute [local go_sem] Oper.semAt_some

set_option maxRecDepth 100000 in
set_option maxHeartbeats 2000000 in
/-- the closure: each wheel with its place, one after the other, for every body that keeps what lay below n₀ -/
theorem places1_in (F : Fence) (m : Nat) (hf : F.fn 60) (hro : F.round = none) (hm : 1 ≤ m) (l Bs n₀ b n cap : Nat) (zs : List Int) (hn : n = zs.length) (h8 : n ≤ 8) (hin : inB zs n) (hb : b < n₀) (J Jx : List (Fin n) → World → Prop)
    (hY : ∀ pre (x : Fin n) W, J pre W → pre.length < n → YieldAt F (m - 1) Try.prog l #[.int .i64 (x.1 : Int), .int .i64 (szL (zs.take x.1))] W fun e W' =>
      (e = .returned (.bool true) ∧ J (pre ++ [x]) W' ∧ Below n₀ W W') ∨ (e = .returned (.bool false) ∧ Jx (pre ++ [x]) W'))
    (W : World) (hBs : W.cell? ⟨Bs, 0, none⟩ = some (.slice (some ⟨b, 0, none⟩) n cap)) (hc : ∀ j, j < n → W.cell? ⟨b, j, none⟩ = some (.int .u8 (zs[j]?.getD 0))) (h0 : J [] W) :
    CallsIn F m Try.prog 60 #[.func (.yield l) #[] #[], .pointer (some ⟨Bs, 0, none⟩)] W fun e W' => (∃ v, e = .returned v) ∧
      ((∃ ys, ys = List.finRange n ∧ J ys W') ∨ (∃ pre, (∃ k, k ≤ n ∧ pre = (List.finRange n).take k) ∧ Jx pre W')) := by
  have hN := hid hn
  have hI := hid hin
  have hC := hid hc
  clear hn hin hc
  refine callsIn_of_wp Try.func60 rfl hf ?_ hro
  simp only [Try.ntmps60, List.size_toArray, List.length_cons, List.length_nil, Nat.reduceAdd, Nat.reduceSub, Array.replicate_succ, Array.replicate_zero, List.push_toArray, List.append_toArray, List.nil_append, List.cons_append]
  gi_wp2
  gi_loopw [3, 8] (fun p i wr => ∃ k : Nat, k ≤ n ∧ i = .int .i64 k ∧ p = .int .i64 (szL (zs.take k)) ∧ J ((List.finRange n).take k) wr ∧ Below n₀ W wr)
    (fun _ i _ => n - (intOf i).toNat)
  case atStart => exact ⟨0, Nat.zero_le _, rfl, rfl, h0, Below.refl _ _⟩
  case round =>
    obtain ⟨k, hk, rfl, rfl, hJs, hnx⟩ := hrel
    by_cases hlt : k < n
    · have hcx := (hnx.cell (p := ⟨b, k, none⟩) hb).trans (hC.out k hlt)
      have hzb := hI.out k hlt
      obtain ⟨s1, s2, s3, s4⟩ := szL_step zs k (by rw [← hN.out]; exact hlt) (by rw [← hN.out]; exact h8) (fun j hj => hI.out j (by omega))
      have HT := hid (szL_take zs k (by rw [← hN.out]; exact hlt))
      obtain ⟨fn, tmps, assign, body, hy, hR⟩ := hY _ ⟨k, hlt⟩ wr hJs (by rw [finTake_length n k hk]; exact hlt)
      have hlen := hid (finTake_succ n k hlt)
      dsimp only at hy
      obtain ⟨p, hp⟩ : ∃ p, p = szL (zs.take k) := ⟨_, rfl⟩
      obtain ⟨z, hz⟩ : ∃ z, z = zs[k]?.getD 0 := ⟨_, rfl⟩
      rw [← hp, ← hz] at HT s3 s4
      rw [← hp] at s1 s2 hy ⊢
      rw [← hz] at hcx hzb
      have hp' := hid hp; have hz' := hid hz
      clear hp hz
      gi_wp2
      refine hR.mono ?_
      rintro e W3 (⟨rfl, hJ3, hk3⟩ | ⟨rfl, hJx3⟩)
      · gi_wp2
        go_roundw
        case rel => exact ⟨k + 1, by omega, by simp, by rw [HT.out], by rw [hlen.out]; exact hJ3, hnx.trans hk3⟩
        case measure => simp [intOf]; omega
      · gi_wp2
        refine bodyPost_ret (results_none rfl _ _ _) rfl ?_
        exact ⟨⟨_, rfl⟩, .inr ⟨_, ⟨k + 1, by omega, hlen.out.symm⟩, hJx3⟩⟩
    · obtain rfl : k = n := by omega
      gi_wp2
      go_end0
      exact ⟨⟨_, rfl⟩, .inl ⟨_, (finTake_all k), hJs⟩⟩

set_option maxHeartbeats 1000000 in
theorem places_in (F : Fence) (m : Nat) (hf : F.fn 53) (hro : F.round = none) (a : Option Addr) (len cap : Nat) (w : World) :
    CallsIn F m Try.prog 53 #[.slice a len cap] w fun e w' => e = .returned (.func (.func 60) #[] #[.pointer (some ⟨w.heap.size, 0, none⟩)]) ∧ w' = w.alloc (.cells #[.slice a len cap] 24) := by
  refine callsIn_of_wp Try.func53 rfl hf ?_ hro
  simp only [Try.ntmps53, List.size_toArray, List.length_cons, List.length_nil, Nat.reduceAdd, Nat.reduceSub, Array.replicate_succ, Array.replicate_zero, List.push_toArray, List.append_toArray, List.nil_append, List.cons_append]
  gi_wp2
  go_ret
  exact ⟨rfl, rfl⟩

theorem places_stops (F : Fence) (m : Nat) (hf : F.fn 60) (hro : F.round = none) (hm : 1 ≤ m) (Bs n₀ b n cap : Nat) (zs : List Int) (hn : n = zs.length) (h8 : n ≤ 8) (hin : inB zs n) (w : World) (hBs : Bs < w.heap.size) (hn₀ : n₀ ≤ w.heap.size) (hb : b < n₀)
    (hc : w.cell? ⟨Bs, 0, none⟩ = some (.slice (some ⟨b, 0, none⟩) n cap)) (hI : ∀ j, j < n → w.cell? ⟨b, j, none⟩ = some (.int .u8 (zs[j]?.getD 0))) :
    SeqStopsK F m Try.prog 60 #[.pointer (some ⟨Bs, 0, none⟩)] (fun x : Fin n => #[Value.int .i64 (x.1 : Int), Value.int .i64 (szL (zs.take x.1))]) (Below n₀) (fun ys => ys = List.finRange n)
      (fun pre => ∃ k, k ≤ n ∧ pre = (List.finRange n).take k) n w := fun l J Jx W hW _ _ hY h0 => by
  have hc' := (hW.cell (p := ⟨Bs, 0, none⟩) hBs).trans hc
  exact places1_in F m hf hro hm l Bs n₀ b n cap zs hn h8 hin hb J Jx hY W hc' (fun j hj => (hW.cell (p := ⟨b, j, none⟩) (by show b < _; omega)).trans (hI j hj)) h0

set_option maxRecDepth 100000 in
set_option maxHeartbeats 4000000 in
/-- impl.place of a wheel that is there: the product of the bases before it -/
theorem place_in (F : Fence) (m : Nat) (hf1 : F.fn 61) (hf2 : F.fn 53) (hf3 : F.fn 60) (hro : F.round = none) (hm : 3 ≤ m)
    (b n cap k : Nat) (zs : List Int) (hn : n = zs.length) (h8 : n ≤ 8) (hin : inB zs n) (hk : k < n) (w : World) (hS : Stk w b zs) :
    CallsIn F m Try.prog 61 #[.slice (some ⟨b, 0, none⟩) n cap, .int .i64 (k : Int)] w fun e W' => e = .returned (.int .i64 (szL (zs.take k))) ∧ Below w.heap.size w W' := by
  have h1 : 1 ≤ m := by omega
  have hlt := hS.1
  have hC := hid hS.2.1
  have hI := hid hin
  have hN := hid hn
  clear hS hin hn
  refine callsIn_of_wp_marks Try.func61 rfl hf1 ?_ hro
  simp only [Try.ntmps61, List.size_toArray, List.length_cons, List.length_nil, Nat.reduceAdd, Nat.reduceSub, Array.replicate_succ, Array.replicate_zero, List.push_toArray, List.append_toArray, List.nil_append, List.cons_append]
  gi_wp2_with (gi_at_call 53; refine (places_in F (m - 1) hf2 hro _ _ _ _).mono ?_; rintro e w' ⟨rfl, rfl⟩)
  have bK := Boxed.new w 2 (.int .i64 (k : Int))
  have bR := Boxed.new (w.alloc (.cells #[.int .i64 (k : Int)] 2)) 2 (.int .i64 0)
  have bN := Boxed.new ((w.alloc (.cells #[.int .i64 (k : Int)] 2)).alloc (.cells #[.int .i64 0] 2)) 24 (.slice (some ⟨b, 0, none⟩) n cap)
  rw [World.size_alloc] at bR
  rw [World.size_alloc, World.size_alloc] at bN
  have hB0 : Below w.heap.size w (((w.alloc (.cells #[.int .i64 (k : Int)] 2)).alloc (.cells #[.int .i64 0] 2)).alloc (.cells #[.slice (some ⟨b, 0, none⟩) n cap] 24)) := (((Below.refl _ w).alloc (Nat.le_refl _) _).alloc (by simp) _).alloc (by simp; omega) _
  refine wpIn_rangeFunc_ownG hro h1 (gf := 60) (lb := #[.pointer (some ⟨w.heap.size + 1 + 1, 0, none⟩)]) rfl hf3 (enters_of Try.func60 (by kernel_rfl) rfl)
    (places_stops F (m - 1) hf3 hro (by omega) (w.heap.size + 1 + 1) w.heap.size b n cap zs hN.out h8 hI.out _ (by simp) (by simp; omega) hlt bN.cell (fun j hj => (hB0.cell (p := ⟨b, j, none⟩) hlt).trans (hC.out j (by rw [← hN.out]; exact hj)))) belowK_t (belowK_b (by simp; omega)) (Below.refl _ _) (fun _ => rfl)
    (fun pre W => ((∀ x ∈ pre, x.1 ≠ k) ∧ (W.cell? ⟨w.heap.size + 1, 0, none⟩ = some (.int .i64 0) ∧ W.frozen? ⟨w.heap.size + 1, 0, none⟩ = false) ∧ W.cell? ⟨w.heap.size, 0, none⟩ = some (.int .i64 (k : Int))) ∧ Below w.heap.size w W)
    (fun c pre W => (c = .ret ∧ W.cell? ⟨w.heap.size + 1, 0, none⟩ = some (.int .i64 (szL (zs.take k)))) ∧ Below w.heap.size w W)
    (OwnFrom.and (Own.from (fun s A B row hs hg hr => ⟨hs.1, ⟨cell_kept hs.2.1.1 hg hr, (frozen_kept hs.2.1.1 hg hr).trans hs.2.1.2⟩, cell_kept hs.2.2 hg hr⟩) _) (ownFrom_below (Nat.le_refl _) (by simp; omega)))
    (fun c => OwnFrom.and (Own.from (fun s A B row hs hg hr => ⟨hs.1, cell_kept hs.2 hg hr⟩) _) (ownFrom_below (Nat.le_refl _) (by simp; omega)))
    ⟨⟨by simp, ⟨(bR.alloc _).cell, (bR.alloc _).frozen⟩, ((bK.alloc _).alloc _).cell⟩, hB0⟩
    (fun x => { tmps := #[.slice (some ⟨b, 0, none⟩) n cap, .int .i64 (k : Int), undef, .pointer (some ⟨w.heap.size, 0, none⟩), .pointer (some ⟨w.heap.size + 1, 0, none⟩), .int .i64 (x.1 : Int), .int .i64 (szL (zs.take x.1)), .slice (some ⟨b, 0, none⟩) n cap, .func (.func 60) #[] #[.pointer (some ⟨w.heap.size + 1 + 1, 0, none⟩)], .int .i64 (x.1 : Int), .int .i64 (szL (zs.take x.1)), undef, undef, undef, undef], defers := [] }) ?assign ?body ?done ?stop
  case assign =>
    intro l x W K hK
    gi_wp2
    exact hK
  case body =>
    rintro l pre x W ⟨⟨hp, ⟨hcr, hfr⟩, hck⟩, hB⟩ _
    by_cases hx : x.1 = k
    · have he : ((x.1 : Int) == (k : Int)) = true := by simp [hx]
      have hX := hid hx
      clear hx
      gi_wp2
      exact ⟨(KeepsOthers.setCell _ _ _).from _, ⟨rfl, by rw [World.cell?_setCell_same' _ _ _ (by rw [hcr]; rfl), hX.out]⟩, hB.setCell (p := ⟨w.heap.size + 1, 0, none⟩) (by show _ ≤ w.heap.size + 1; omega) _⟩
    · have he : ((x.1 : Int) == (k : Int)) = false := by simp; omega
      have hX := hid hx
      clear hx
      gi_wp2
      exact ⟨KeepsFrom.refl _ _, Below.refl _ _, ⟨fun p hp' => (List.mem_append.1 hp').elim (hp p) (fun e => by simp at e; subst e; exact hX.out), ⟨hcr, hfr⟩, hck⟩, hB⟩
  case done =>
    rintro D ys W hD rfl ⟨⟨hne, _⟩, hB⟩ hK
    exact absurd rfl (hne ⟨k, hk⟩ (by simp))
  case stop =>
    rintro D c pre W hD ⟨j, hj, rfl⟩ ⟨⟨rfl, hcr⟩, hB⟩ hK
    gi_wp2
    refine ⟨by simp, .inl ⟨_, _, rfl, run_takeDeferred hK, ?_⟩⟩
    have hc5 := cell_kept hcr (grownBy_putObj' _ D (.deferred none)) (fun r e => by cases e; exact ⟨_, hK, rfl⟩)
    refine ⟨.int .i64 (szL (zs.take k)), ?_, rfl, hB.trans (belowK_b (w := w) (Nat.le_refl _) W D _ _ (by simp at hD; omega) hK rfl rfl)⟩
    simp [results, Try.f61, go_sem, hc5]
end Go.Proofs.Ytofpgkbcodopiaa
