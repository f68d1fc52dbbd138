/- Contracts of chapter 1 over the digits of values: stacks. -/
import Derived.Test.YtfifnngdmhdkiaaGreatDoorStM
import Derived.Test.YtfifnngdmhdkiaaGreatDoorCompS
import Derived.Test.YtfifnngdmhdkiaaGreatDoorOfS
import Derived.Test.YtfifnngdmhdkiaaGreatDoorOfC
import Derived.Test.YtfifnngdmhdkiaaGreatDoorMgP
import Derived.Test.YtfifnngdmhdkiaaGreatDoorLast
import Derived.Test.YtfifnngdmhdkiaaGreatDoorRatio
namespace Go.Proofs.YtfifnngdmhdkiaaGreatDoor
open Go.RowKit
set_option linter.unusedVariables false
set_option linter.unusedSimpArgs false
set_option maxHeartbeats 2000000 in
theorem cu_dof_i (B n cap : Nat) (Z : List Int) (hn : n = Z.length) (hc : n ≤ cap) (h : okL Z = true) (v : Int) (hv : 0 ≤ v ∧ v < szL Z)  (W : World) (hS : Stk W B Z) :
    Calls Tryz.prog 8 #[.slice (some ⟨B, 0, none⟩) n cap, .int .i64 v] W (GivesB W (.tuple #[.agg #[.int .u8 (dg (dgL Z v) 0), .int .u8 (dg (dgL Z v) 1), .int .u8 (dg (dgL Z v) 2), .int .u8 (dg (dgL Z v) 3), .int .u8 (dg (dgL Z v) 4), .int .u8 (dg (dgL Z v) 5), .int .u8 (dg (dgL Z v) 6), .int .u8 (dg (dgL Z v) 7)], .int .i64 0])) := by
  have := implDigitsOf_any B n cap Z v W hS hn hc
  rw [dofR_yes v h hv] at this
  exact this
set_option maxHeartbeats 2000000 in
theorem cu_up_i (B n cap : Nat) (Z : List Int) (hn : n = Z.length) (hc : n ≤ cap) (h : okL Z = true) (v : Int) (hv : 0 ≤ v ∧ v < szL Z)  (W : World) (hS : Stk W B Z) :
    Calls Tryz.prog 19 #[.slice (some ⟨B, 0, none⟩) n cap, .agg #[.int .u8 (dg (dgL Z v) 0), .int .u8 (dg (dgL Z v) 1), .int .u8 (dg (dgL Z v) 2), .int .u8 (dg (dgL Z v) 3), .int .u8 (dg (dgL Z v) 4), .int .u8 (dg (dgL Z v) 5), .int .u8 (dg (dgL Z v) 6), .int .u8 (dg (dgL Z v) 7)]] W (GivesB W (.tuple #[.agg #[.int .u8 (dg (dgL Z ((v + 1) % szL Z)) 0), .int .u8 (dg (dgL Z ((v + 1) % szL Z)) 1), .int .u8 (dg (dgL Z ((v + 1) % szL Z)) 2), .int .u8 (dg (dgL Z ((v + 1) % szL Z)) 3), .int .u8 (dg (dgL Z ((v + 1) % szL Z)) 4), .int .u8 (dg (dgL Z ((v + 1) % szL Z)) 5), .int .u8 (dg (dgL Z ((v + 1) % szL Z)) 6), .int .u8 (dg (dgL Z ((v + 1) % szL Z)) 7)], .int .i64 (movN (dgL Z ((v + 1) % szL Z)) (dgL Z v) Z.length), .int .i64 0])) := by
  have := implStepUp_any B n cap Z (dg (dgL Z v) 0) (dg (dgL Z v) 1) (dg (dgL Z v) 2) (dg (dgL Z v) 3) (dg (dgL Z v) 4) (dg (dgL Z v) 5) (dg (dgL Z v) 6) (dg (dgL Z v) 7) W hS hn hc (octL Z v h)
  rw [dgs_listC, step_of h hv (by omega)] at this
  exact this
set_option maxHeartbeats 2000000 in
theorem cu_com_i (B n cap : Nat) (Z : List Int) (hn : n = Z.length) (hc : n ≤ cap) (h : okL Z = true) (v : Int) (hv : 0 ≤ v ∧ v < szL Z)  (W : World) (hS : Stk W B Z) :
    Calls Tryz.prog 22 #[.slice (some ⟨B, 0, none⟩) n cap, .agg #[.int .u8 (dg (dgL Z v) 0), .int .u8 (dg (dgL Z v) 1), .int .u8 (dg (dgL Z v) 2), .int .u8 (dg (dgL Z v) 3), .int .u8 (dg (dgL Z v) 4), .int .u8 (dg (dgL Z v) 5), .int .u8 (dg (dgL Z v) 6), .int .u8 (dg (dgL Z v) 7)]] W (GivesB W (.tuple #[.agg #[.int .u8 (dg (dgL Z (szL Z - 1 - v)) 0), .int .u8 (dg (dgL Z (szL Z - 1 - v)) 1), .int .u8 (dg (dgL Z (szL Z - 1 - v)) 2), .int .u8 (dg (dgL Z (szL Z - 1 - v)) 3), .int .u8 (dg (dgL Z (szL Z - 1 - v)) 4), .int .u8 (dg (dgL Z (szL Z - 1 - v)) 5), .int .u8 (dg (dgL Z (szL Z - 1 - v)) 6), .int .u8 (dg (dgL Z (szL Z - 1 - v)) 7)], .int .i64 0])) := by
  have := implComplement_any B n cap Z (dg (dgL Z v) 0) (dg (dgL Z v) 1) (dg (dgL Z v) 2) (dg (dgL Z v) 3) (dg (dgL Z v) 4) (dg (dgL Z v) 5) (dg (dgL Z v) 6) (dg (dgL Z v) 7) W hS hn hc (octL Z v h)
  rw [dgs_listC, cmpR_of h hv] at this
  exact this
set_option maxHeartbeats 2000000 in
theorem cu_dof_s (B n cap : Nat) (Z : List Int) (hn : n = Z.length) (hc : n ≤ cap) (h : okL Z = true) (v : Int) (hv : 0 ≤ v ∧ v < szL Z)  (W : World) (hS : Stk W B Z) :
    Calls Tryz.prog 9 #[.slice (some ⟨B, 0, none⟩) n cap, .int .i64 v] W (GivesB W (.tuple #[.agg #[.int .u8 (dg (dgL Z v) 0), .int .u8 (dg (dgL Z v) 1), .int .u8 (dg (dgL Z v) 2), .int .u8 (dg (dgL Z v) 3), .int .u8 (dg (dgL Z v) 4), .int .u8 (dg (dgL Z v) 5), .int .u8 (dg (dgL Z v) 6), .int .u8 (dg (dgL Z v) 7)], .int .i64 0])) := by
  have := specDigitsOf_any B n cap Z v W hS hn hc
  rw [dofR_yes v h hv] at this
  exact this
set_option maxHeartbeats 2000000 in
theorem cu_up_s (B n cap : Nat) (Z : List Int) (hn : n = Z.length) (hc : n ≤ cap) (h : okL Z = true) (v : Int) (hv : 0 ≤ v ∧ v < szL Z)  (W : World) (hS : Stk W B Z) :
    Calls Tryz.prog 20 #[.slice (some ⟨B, 0, none⟩) n cap, .agg #[.int .u8 (dg (dgL Z v) 0), .int .u8 (dg (dgL Z v) 1), .int .u8 (dg (dgL Z v) 2), .int .u8 (dg (dgL Z v) 3), .int .u8 (dg (dgL Z v) 4), .int .u8 (dg (dgL Z v) 5), .int .u8 (dg (dgL Z v) 6), .int .u8 (dg (dgL Z v) 7)]] W (GivesB W (.tuple #[.agg #[.int .u8 (dg (dgL Z ((v + 1) % szL Z)) 0), .int .u8 (dg (dgL Z ((v + 1) % szL Z)) 1), .int .u8 (dg (dgL Z ((v + 1) % szL Z)) 2), .int .u8 (dg (dgL Z ((v + 1) % szL Z)) 3), .int .u8 (dg (dgL Z ((v + 1) % szL Z)) 4), .int .u8 (dg (dgL Z ((v + 1) % szL Z)) 5), .int .u8 (dg (dgL Z ((v + 1) % szL Z)) 6), .int .u8 (dg (dgL Z ((v + 1) % szL Z)) 7)], .int .i64 (movN (dgL Z ((v + 1) % szL Z)) (dgL Z v) Z.length), .int .i64 0])) := by
  have := specStepUp_any B n cap Z (dg (dgL Z v) 0) (dg (dgL Z v) 1) (dg (dgL Z v) 2) (dg (dgL Z v) 3) (dg (dgL Z v) 4) (dg (dgL Z v) 5) (dg (dgL Z v) 6) (dg (dgL Z v) 7) W hS hn hc (octL Z v h)
  rw [dgs_listC, step_of h hv (by omega)] at this
  exact this
set_option maxHeartbeats 2000000 in
theorem cu_com_s (B n cap : Nat) (Z : List Int) (hn : n = Z.length) (hc : n ≤ cap) (h : okL Z = true) (v : Int) (hv : 0 ≤ v ∧ v < szL Z)  (W : World) (hS : Stk W B Z) :
    Calls Tryz.prog 23 #[.slice (some ⟨B, 0, none⟩) n cap, .agg #[.int .u8 (dg (dgL Z v) 0), .int .u8 (dg (dgL Z v) 1), .int .u8 (dg (dgL Z v) 2), .int .u8 (dg (dgL Z v) 3), .int .u8 (dg (dgL Z v) 4), .int .u8 (dg (dgL Z v) 5), .int .u8 (dg (dgL Z v) 6), .int .u8 (dg (dgL Z v) 7)]] W (GivesB W (.tuple #[.agg #[.int .u8 (dg (dgL Z (szL Z - 1 - v)) 0), .int .u8 (dg (dgL Z (szL Z - 1 - v)) 1), .int .u8 (dg (dgL Z (szL Z - 1 - v)) 2), .int .u8 (dg (dgL Z (szL Z - 1 - v)) 3), .int .u8 (dg (dgL Z (szL Z - 1 - v)) 4), .int .u8 (dg (dgL Z (szL Z - 1 - v)) 5), .int .u8 (dg (dgL Z (szL Z - 1 - v)) 6), .int .u8 (dg (dgL Z (szL Z - 1 - v)) 7)], .int .i64 0])) := by
  have := specComplement_any B n cap Z (dg (dgL Z v) 0) (dg (dgL Z v) 1) (dg (dgL Z v) 2) (dg (dgL Z v) 3) (dg (dgL Z v) 4) (dg (dgL Z v) 5) (dg (dgL Z v) 6) (dg (dgL Z v) 7) W hS hn hc (octL Z v h)
  rw [dgs_listC, cmpR_of h hv] at this
  exact this
set_option maxHeartbeats 2000000 in
theorem cu_down_i (B n cap : Nat) (Z : List Int) (hn : n = Z.length) (hc : n ≤ cap) (h : okL Z = true) (v : Int) (hv : 0 ≤ v ∧ v < szL Z)  (W : World) (hS : Stk W B Z) :
    Calls Tryz.prog 21 #[.slice (some ⟨B, 0, none⟩) n cap, .agg #[.int .u8 (dg (dgL Z v) 0), .int .u8 (dg (dgL Z v) 1), .int .u8 (dg (dgL Z v) 2), .int .u8 (dg (dgL Z v) 3), .int .u8 (dg (dgL Z v) 4), .int .u8 (dg (dgL Z v) 5), .int .u8 (dg (dgL Z v) 6), .int .u8 (dg (dgL Z v) 7)]] W (GivesB W (.tuple #[.agg #[.int .u8 (dg (dgL Z ((v + -1) % szL Z)) 0), .int .u8 (dg (dgL Z ((v + -1) % szL Z)) 1), .int .u8 (dg (dgL Z ((v + -1) % szL Z)) 2), .int .u8 (dg (dgL Z ((v + -1) % szL Z)) 3), .int .u8 (dg (dgL Z ((v + -1) % szL Z)) 4), .int .u8 (dg (dgL Z ((v + -1) % szL Z)) 5), .int .u8 (dg (dgL Z ((v + -1) % szL Z)) 6), .int .u8 (dg (dgL Z ((v + -1) % szL Z)) 7)], .int .i64 (movN (dgL Z ((v + -1) % szL Z)) (dgL Z v) Z.length), .int .i64 0])) := by
  have := implStepDown_any B n cap Z (dg (dgL Z v) 0) (dg (dgL Z v) 1) (dg (dgL Z v) 2) (dg (dgL Z v) 3) (dg (dgL Z v) 4) (dg (dgL Z v) 5) (dg (dgL Z v) 6) (dg (dgL Z v) 7) W hS hn hc (octL Z v h)
  rw [dgs_listC, step_of h hv (by omega)] at this
  exact this
set_option maxHeartbeats 2000000 in
theorem cu_val_i (B n cap : Nat) (Z : List Int) (hn : n = Z.length) (hc : n ≤ cap) (h : okL Z = true) (v : Int) (hv : 0 ≤ v ∧ v < szL Z)  (W : World) (hS : Stk W B Z) :
    Calls Tryz.prog 10 #[.slice (some ⟨B, 0, none⟩) n cap, .agg #[.int .u8 (dg (dgL Z v) 0), .int .u8 (dg (dgL Z v) 1), .int .u8 (dg (dgL Z v) 2), .int .u8 (dg (dgL Z v) 3), .int .u8 (dg (dgL Z v) 4), .int .u8 (dg (dgL Z v) 5), .int .u8 (dg (dgL Z v) 6), .int .u8 (dg (dgL Z v) 7)]] W (GivesB W (.tuple #[.int .i64 v, .int .i64 0])) := by
  have := implValueOf_any B n cap Z (dg (dgL Z v) 0) (dg (dgL Z v) 1) (dg (dgL Z v) 2) (dg (dgL Z v) 3) (dg (dgL Z v) 4) (dg (dgL Z v) 5) (dg (dgL Z v) 6) (dg (dgL Z v) 7) W hS hn hc (octL Z v h)
  rw [dgs_listC, valueR_yes (okV_dgL Z v h), valL_of Z v h hv] at this
  exact this
set_option maxHeartbeats 2000000 in
theorem cu_siz_i (B n cap : Nat) (Z : List Int) (hn : n = Z.length) (hc : n ≤ cap) (h : okL Z = true) (v : Int) (hv : 0 ≤ v ∧ v < szL Z)  (W : World) (hS : Stk W B Z) :
    Calls Tryz.prog 7 #[.slice (some ⟨B, 0, none⟩) n cap] W (GivesB W (.tuple #[.int .i64 (szL Z), .int .i64 0])) := by
  have := implSizeOf_any B n cap Z W hS hn
  rw [sizeR_yes h] at this
  exact this
set_option maxHeartbeats 2000000 in
theorem cu_plc_i (B n cap : Nat) (Z : List Int) (hn : n = Z.length) (hc : n ≤ cap) (h : okL Z = true) (v : Int) (hv : 0 ≤ v ∧ v < szL Z) (k : Nat) (hk : k < Z.length) (W : World) (hS : Stk W B Z) :
    Calls Tryz.prog 24 #[.slice (some ⟨B, 0, none⟩) n cap, .int .i64 (k : Int)] W (GivesB W (.tuple #[.int .i64 (szL (Z.take k)), .int .i64 0])) := by
  have := implPlaceOf_any B n cap Z (k : Int) W hS hn hc
  rw [placeR_yes k h hk] at this
  exact this
set_option maxHeartbeats 2000000 in
theorem cu_lst_i (B n cap : Nat) (Z : List Int) (hn : n = Z.length) (hc : n ≤ cap) (h : okL Z = true) (v : Int) (hv : 0 ≤ v ∧ v < szL Z) (k : Nat) (hk : k ≤ Z.length) (hw : (Lit.int .i64 (k : Int)).wf = true) (W : World) (hS : Stk W B Z) :
    Calls Tryz.prog 25 #[.slice (some ⟨B, 0, none⟩) n cap, .agg #[.int .u8 (dg (dgL Z v) 0), .int .u8 (dg (dgL Z v) 1), .int .u8 (dg (dgL Z v) 2), .int .u8 (dg (dgL Z v) 3), .int .u8 (dg (dgL Z v) 4), .int .u8 (dg (dgL Z v) 5), .int .u8 (dg (dgL Z v) 6), .int .u8 (dg (dgL Z v) 7)], .int .i64 (k : Int)] W (GivesB W (.tuple #[.int .i64 (v % szL (Z.take k)), .int .i64 0])) := by
  have := implLastOf_any B n cap Z (dg (dgL Z v) 0) (dg (dgL Z v) 1) (dg (dgL Z v) 2) (dg (dgL Z v) 3) (dg (dgL Z v) 4) (dg (dgL Z v) 5) (dg (dgL Z v) 6) (dg (dgL Z v) 7) (k : Int) W hS hn hc (octL Z v h) hw
  rw [dgs_listC, lastR_yes k (okV_dgL Z v h) hk, last_of h k hk] at this
  exact this
end Go.Proofs.YtfifnngdmhdkiaaGreatDoor
