/- Numbers drawn from bytes at once. -/
import Derived.Test.YtdlcbfoghpoliaaSrc
namespace Go.Proofs.Ytdlcbfoghpoliaa
open Go.RowKit
set_option linter.unusedVariables false
set_option linter.unusedSimpArgs false
set_option maxRecDepth 100000 in
set_option maxHeartbeats 1000000 in
theorem p6Pick_any (a : Option Addr) (len cap : Nat) (zs : List Int) (n : Int) (w : World) (h : InB w a len zs) (hl : len ≤ 4096) (hn : n ≤ 4611686018427387904) :
    Calls Try.prog 8 #[.slice a len cap, .int .i64 n] w fun e w' => ∃ x : Int, 0 ≤ x ∧ (x < n ∨ n ≤ 1 ∧ x = 0) ∧ e = .returned (.int .i64 x) ∧ Below w.heap.size w w' := by
  have HF := hid (from_any a len cap zs w h hl)
  clear h
  go_enter Try.func8, Try.ntmps8
  go_wp2_with fail
  refine HF.out.mono ?_
  rintro e w1 ⟨rfl, hS, hB, _⟩
  have HP := hid (pick_any _ 0 zs n w1 hS (by omega) hn)
  have HB := hid hB
  clear hS hB
  go_wp2_with fail
  refine HP.out.mono ?_
  rintro e w2 ⟨x, j, x0, x1, rfl, _, _, _, hO⟩
  have HB2 := hid (HB.out.trans hO.2.2)
  clear hO
  go_wp2_with fail
  go_ret
  exact ⟨x, x0, x1, rfl, HB2.out⟩
theorem f6big_no (a : Option Addr) (len cap : Nat) (w : World) (h : len ≤ 4096) : Calls Try.prog 4 #[.slice a len cap] w fun e w' => e = .returned (.bool false) ∧ w' = w := by
  have d : ¬ (4096 : Int) < (len : Int) := by omega
  have h2 : (len : Int) ≤ 4096 := by omega
  clear h
  go_enter Try.func4, Try.ntmps4
  go_wp2_with fail
  go_ret
  exact ⟨by first | rfl | simp, rfl⟩
theorem f6big_yes (a : Option Addr) (len cap : Nat) (w : World) (h : 4096 < len) : Calls Try.prog 4 #[.slice a len cap] w fun e w' => e = .returned (.bool true) ∧ w' = w := by
  have h2 : (4096 : Int) < (len : Int) := by omega
  clear h
  go_enter Try.func4, Try.ntmps4
  go_wp2_with fail
  go_ret
  exact ⟨by first | rfl | simp, rfl⟩
end Go.Proofs.Ytdlcbfoghpoliaa
