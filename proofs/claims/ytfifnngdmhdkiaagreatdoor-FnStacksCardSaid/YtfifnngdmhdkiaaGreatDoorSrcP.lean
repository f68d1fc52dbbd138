/- Numbers drawn from bytes at once. -/
import Derived.Test.YtfifnngdmhdkiaaGreatDoorSrc
namespace Go.Proofs.YtfifnngdmhdkiaaGreatDoor
open Go.RowKit
theorem f6big_no (a : Option Addr) (len cap : Nat) (w : World) (h : len ≤ 4096) : Calls Tryz.prog 4 #[.slice a len cap] w fun e w' => e = .returned (.bool false) ∧ w' = w := by
  have d : ¬ (4096 : Int) < (len : Int) := by omega
  have h2 : (len : Int) ≤ 4096 := by omega
  clear h
  go_enter Tryz.func4, Tryz.ntmps4
  go_wp2_with fail
  go_ret
  exact ⟨by first | rfl | simp, rfl⟩
theorem f6big_yes (a : Option Addr) (len cap : Nat) (w : World) (h : 4096 < len) : Calls Tryz.prog 4 #[.slice a len cap] w fun e w' => e = .returned (.bool true) ∧ w' = w := by
  have h2 : (4096 : Int) < (len : Int) := by omega
  clear h
  go_enter Tryz.func4, Tryz.ntmps4
  go_wp2_with fail
  go_ret
  exact ⟨by first | rfl | simp, rfl⟩
end Go.Proofs.YtfifnngdmhdkiaaGreatDoor
