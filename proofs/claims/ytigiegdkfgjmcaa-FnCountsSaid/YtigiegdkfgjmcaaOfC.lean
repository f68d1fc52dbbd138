/- DigitsOf: the answers of the program and of the model. -/
import Derived.Test.YtigiegdkfgjmcaaOf
import Derived.Test.YtigiegdkfgjmcaaCount
namespace Go.Proofs.Ytigiegdkfgjmcaa
open Go.RowKit

def dofR (zs : List Int) (v : Int) : List Int × Int := if okL zs then (if 0 ≤ v ∧ v < szL zs then (dgL zs v, 0) else ([0, 0, 0, 0, 0, 0, 0, 0], 2)) else ([0, 0, 0, 0, 0, 0, 0, 0], 1)
theorem dofR_no {zs : List Int} (v : Int) (h : okL zs = false) : dofR zs v = ([0, 0, 0, 0, 0, 0, 0, 0], 1) := by simp [dofR, h]
theorem dofR_out {zs : List Int} (v : Int) (h : okL zs = true) (hk : ¬ (0 ≤ v ∧ v < szL zs)) : dofR zs v = ([0, 0, 0, 0, 0, 0, 0, 0], 2) := by simp only [dofR, h, if_true, if_neg hk]
theorem dofR_yes {zs : List Int} (v : Int) (h : okL zs = true) (hk : 0 ≤ v ∧ v < szL zs) : dofR zs v = (dgL zs v, 0) := by simp only [dofR, h, if_true, if_pos hk]
theorem digits_any (b n cap : Nat) (zs : List Int) (hn : n = zs.length) (hv : okL zs = true) (v : Int) (h0 : 0 ≤ v) (h2 : v ≤ 1000000000000) (w : World) (hS : Stk w b zs) :
    Calls Try.prog 33 #[.slice (some ⟨b, 0, none⟩) n cap, .int .i64 v] w fun e W' => e = .returned (.agg #[.int .u8 (dg (dgL zs v) 0), .int .u8 (dg (dgL zs v) 1), .int .u8 (dg (dgL zs v) 2), .int .u8 (dg (dgL zs v) 3), .int .u8 (dg (dgL zs v) 4), .int .u8 (dg (dgL zs v) 5), .int .u8 (dg (dgL zs v) 6), .int .u8 (dg (dgL zs v) 7)]) ∧ Below w.heap.size w W' := by
  obtain ⟨_, h8, hin, _, _⟩ := okL_out hv
  exact callsIn_wide.1 (digits_in Fence.wide 8 trivial trivial trivial rfl (by omega) b n cap zs hn (by omega) (by rw [hn]; exact hin) v h0 h2 w hS)

end Go.Proofs.Ytigiegdkfgjmcaa
