/- The value of digits: the model's sum from the last wheel down; ValueOf and LastOf. -/
import Derived.Test.YtoenpfjnjpgbfaaSizes
import Derived.Test.YtoenpfjnjpgbfaaLawsD
namespace Go.Proofs.Ytoenpfjnjpgbfaa
open Go.RowKit

/-- what the model has reckoned when the wheels from k on are done -/
def horn (zs ds : List Int) (n k : Nat) (h : Int) : Prop := 0 ≤ h ∧ valL zs ds n = h * szL (zs.take k) + valL zs ds k
theorem horn_bd {zs ds : List Int} {n k : Nat} {h : Int} (H : horn zs ds n k h) (hk : k ≤ n) (hn : n ≤ zs.length) (h8 : zs.length ≤ 8) (hi : inB zs n) (hl : ltTo zs ds n) : h ≤ 10000000000000000 := by
  have a := (szL_bd zs k (by omega) (fun j hj => hi j (by omega))).1
  have b := (valL_bd zs ds k (by omega) (fun j hj => hi j (by omega)) (fun j hj => hl j (by omega))).1
  have c := (valL_bd zs ds n hn hi hl).2
  have d := szL_bd zs n hn hi
  have e := pow_bd n (by omega)
  have f : h * 1 ≤ h * szL (zs.take k) := Int.mul_le_mul_of_nonneg_left a H.1
  have g := H.2
  omega
theorem horn_step {zs ds : List Int} {n k : Nat} {h : Int} (H : horn zs ds n (k + 1) h) (hk : k + 1 ≤ n) (hn : n ≤ zs.length) (hi : inB zs n) (hl : ltTo zs ds n) :
    horn zs ds n k (h * zs[k]?.getD 0 + ds[k]?.getD 0) := by
  have hz := hi k (by omega)
  have hd := hl k (by omega)
  refine ⟨by have := Int.mul_nonneg H.1 (show 0 ≤ zs[k]?.getD 0 by omega); omega, ?_⟩
  rw [H.2, szL_take zs k (by omega)]
  show _ = _
  simp only [valL]
  rw [Int.add_mul, Int.mul_assoc, Int.mul_comm (szL (zs.take k)) (zs[k]?.getD 0)]
  omega
theorem horn_end {zs ds : List Int} {n : Nat} {h : Int} (H : horn zs ds n 0 h) : h = valL zs ds n := by
  have := H.2
  simp [szL, valL] at this
  omega

theorem Stk.take {w : World} {b : Nat} {zs : List Int} (h : Stk w b zs) (k : Nat) (hk : k ≤ zs.length) : Stk w b (zs.take k) :=
  ⟨h.1, fun j hj => by
    have hj' : j < k := by simpa using (Nat.lt_min.1 (by simpa using hj)).1
    rw [h.2.1 j (by omega)]; simp [hj'], fun z hz => h.2.2.1 z (List.mem_of_mem_take hz), by simp; have := h.2.2.2; omega⟩
theorem take_take' (zs : List Int) (j k : Nat) (h : j ≤ k) : (zs.take k).take j = zs.take j := by rw [List.take_take, Nat.min_eq_left h]
theorem valL_take (zs ds : List Int) (k : Nat) : ∀ j, j ≤ k → valL (zs.take k) ds j = valL zs ds j
  | 0, _ => rfl
  | j + 1, h => by
    simp only [valL]
    rw [valL_take zs ds k j (by omega), take_take' zs j k (by omega)]
theorem inB_take {zs : List Int} {n k : Nat} (h : inB zs n) (hk : k ≤ n) : inB (zs.take k) k := fun j hj => by
  have := h j (by omega)
  simpa [hj] using this
theorem ltTo_take {zs ds : List Int} {n k : Nat} (h : ltTo zs ds n) (hk : k ≤ n) : ltTo (zs.take k) ds k := fun j hj => by
  have := h j (by omega)
  simpa [hj] using this

def valueR (zs ds : List Int) : Int × Int := if okV zs ds then (valL zs ds zs.length, 0) else (0, 1)
theorem valueR_no {zs ds : List Int} (h : okV zs ds = false) : valueR zs ds = (0, 1) := by simp [valueR, h]
theorem valueR_yes {zs ds : List Int} (h : okV zs ds = true) : valueR zs ds = (valL zs ds zs.length, 0) := by simp [valueR, h]
def lastR (zs ds : List Int) (k : Int) : Int × Int := if okV zs ds then (if 0 ≤ k ∧ k ≤ zs.length then (valL zs ds k.toNat, 0) else (0, 2)) else (0, 1)
theorem lastR_no {zs ds : List Int} (k : Int) (h : okV zs ds = false) : lastR zs ds k = (0, 1) := by simp [lastR, h]
theorem lastR_out {zs ds : List Int} (k : Int) (h : okV zs ds = true) (hk : ¬ (0 ≤ k ∧ k ≤ zs.length)) : lastR zs ds k = (0, 2) := by simp only [lastR, h, if_true, if_neg hk]
theorem lastR_yes {zs ds : List Int} (k : Nat) (h : okV zs ds = true) (hk : k ≤ zs.length) : lastR zs ds (k : Int) = (valL zs ds k, 0) := by
  simp only [lastR, h, if_true]
  rw [if_pos (by omega), Int.toNat_natCast]

end Go.Proofs.Ytoenpfjnjpgbfaa
