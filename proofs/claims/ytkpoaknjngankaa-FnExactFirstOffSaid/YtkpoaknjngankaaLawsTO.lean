/- The walks of laws over a train: ValidTrain. -/
import Derived.Test.YtkpoaknjngankaaValT
import Derived.Test.YtkpoaknjngankaaMade
import Derived.Test.YtkpoaknjngankaaOpenR
namespace Go.Proofs.Ytkpoaknjngankaa
open Go.RowKit
theorem szTrain_ok (a : Option Addr) (len cap : Nat) (w : World) (h : len ≤ 1048576) : Calls Try.prog 27 #[.slice a len cap, .int .i64 1048576] w fun e w' => e = .returned (.int .i64 (1048576 - len)) ∧ w = w' := by
  have h1 : (0 : Int) ≤ 1048576 - (len : Int) := by omega
  go_enter Try.func27, Try.ntmps27
  go_wp2
  go_ret
  exact ⟨rfl, rfl⟩
theorem szTrain_no (a : Option Addr) (len cap : Nat) (w : World) (h : 1048576 < len) (hl : len ≤ 9223372036854775807) : Calls Try.prog 27 #[.slice a len cap, .int .i64 1048576] w fun e w' => e = .returned (.int .i64 (-1)) ∧ w = w' := by
  have h1 : 1048576 - (len : Int) < 0 := by omega
  go_enter Try.func27, Try.ntmps27
  go_wp2
  go_ret
  exact ⟨rfl, rfl⟩
theorem GivesB.ofDrew {w : World} {v : Value} {e : Ending} {w' : World} (h : e = .returned v ∧ ∃ d, w' = w.drewN d) : GivesB w v e w' := ⟨h.1, by obtain ⟨d, rfl⟩ := h.2; exact below_drewN (Below.refl _ _) d⟩
theorem implVT_any (b n cap : Nat) (js : List (Int × Int)) (w : World) (hS : Pst w b js) (hn : n = js.length) (hbd : Bd16 js) :
    Calls Try.prog 56 #[.slice (some ⟨b, 0, none⟩) n cap] w (GivesB w (.bool (okT js))) := implValidTrain_any b n cap js w hS hn hbd
end Go.Proofs.Ytkpoaknjngankaa
