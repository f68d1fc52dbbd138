/- SizeOf and PlaceOf: the program's and the model's answers. -/
import Derived.Test.YtbefbkklompcjaaDoorValue
namespace Go.Proofs.YtbefbkklompcjaaDoor
open Go.RowKit

def sizeR (zs : List Int) : Int × Int := if okL zs then (szL zs, 0) else (0, 1)
theorem sizeR_no {zs : List Int} (h : okL zs = false) : sizeR zs = (0, 1) := by simp [sizeR, h]
theorem sizeR_yes {zs : List Int} (h : okL zs = true) : sizeR zs = (szL zs, 0) := by simp [sizeR, h]
theorem szC_eq {zs : List Int} (h : szL zs ≤ 1000000000000) : szC zs = szL zs := by unfold szC; omega

def placeR (zs : List Int) (k : Int) : Int × Int := if okL zs then (if 0 ≤ k ∧ k < zs.length then (szL (zs.take k.toNat), 0) else (0, 2)) else (0, 1)
theorem placeR_no {zs : List Int} (k : Int) (h : okL zs = false) : placeR zs k = (0, 1) := by simp [placeR, h]
theorem placeR_out {zs : List Int} (k : Int) (h : okL zs = true) (hk : ¬ (0 ≤ k ∧ k < zs.length)) : placeR zs k = (0, 2) := by simp only [placeR, h, if_true, if_neg hk]
theorem placeR_yes {zs : List Int} (k : Nat) (h : okL zs = true) (hk : k < zs.length) : placeR zs (k : Int) = (szL (zs.take k), 0) := by
  simp only [placeR, h, if_true]
  rw [if_pos (by omega), Int.toNat_natCast]

end Go.Proofs.YtbefbkklompcjaaDoor
