/- Contracts of chapter 1 over the digits of values. -/
import Derived.Test.YtigiegdkfgjmcaaCuM
import Derived.Test.YtigiegdkfgjmcaaAddT
import Derived.Test.YtigiegdkfgjmcaaMovesI
import Derived.Test.YtigiegdkfgjmcaaMovesS
import Derived.Test.YtigiegdkfgjmcaaCmpP
import Derived.Test.YtigiegdkfgjmcaaWayQ
import Derived.Test.YtigiegdkfgjmcaaNextS
import Derived.Test.YtigiegdkfgjmcaaOfS
import Derived.Test.YtigiegdkfgjmcaaOfC
import Derived.Test.YtigiegdkfgjmcaaVals
import Derived.Test.YtigiegdkfgjmcaaRatio
namespace Go.Proofs.Ytigiegdkfgjmcaa
open Go.RowKit
set_option linter.unusedVariables false
set_option linter.unusedSimpArgs false
theorem octL (Z : List Int) (v : Int) (h : okL Z = true) : Oct (dg (dgL Z v) 0) (dg (dgL Z v) 1) (dg (dgL Z v) 2) (dg (dgL Z v) 3) (dg (dgL Z v) 4) (dg (dgL Z v) 5) (dg (dgL Z v) 6) (dg (dgL Z v) 7) := by
  obtain ⟨_, _, hz, _, _⟩ := okL_out h
  have b := fun k hk => dgL_bd Z v hz k hk
  exact ⟨by have := b 0 (by omega); unfold dg; omega, by have := b 1 (by omega); unfold dg; omega, by have := b 2 (by omega); unfold dg; omega, by have := b 3 (by omega); unfold dg; omega, by have := b 4 (by omega); unfold dg; omega, by have := b 5 (by omega); unfold dg; omega, by have := b 6 (by omega); unfold dg; omega, by have := b 7 (by omega); unfold dg; omega⟩
set_option maxHeartbeats 2000000 in
theorem cu_add_i (B n cap : Nat) (Z : List Int) (hn : n = Z.length) (hc : n ≤ cap) (h : okL Z = true) (v : Int) (hv : 0 ≤ v ∧ v < szL Z) (c : Int) (hk : -1000000000000 ≤ c ∧ c ≤ 1000000000000) (W : World) (hS : Stk W B Z) :
    Calls Try.prog 9 #[.slice (some ⟨B, 0, none⟩) n cap, .agg #[.int .u8 (dg (dgL Z v) 0), .int .u8 (dg (dgL Z v) 1), .int .u8 (dg (dgL Z v) 2), .int .u8 (dg (dgL Z v) 3), .int .u8 (dg (dgL Z v) 4), .int .u8 (dg (dgL Z v) 5), .int .u8 (dg (dgL Z v) 6), .int .u8 (dg (dgL Z v) 7)], .int .i64 c] W (GivesB W (.tuple #[.agg #[.int .u8 (dg (dgL Z ((v + c) % szL Z)) 0), .int .u8 (dg (dgL Z ((v + c) % szL Z)) 1), .int .u8 (dg (dgL Z ((v + c) % szL Z)) 2), .int .u8 (dg (dgL Z ((v + c) % szL Z)) 3), .int .u8 (dg (dgL Z ((v + c) % szL Z)) 4), .int .u8 (dg (dgL Z ((v + c) % szL Z)) 5), .int .u8 (dg (dgL Z ((v + c) % szL Z)) 6), .int .u8 (dg (dgL Z ((v + c) % szL Z)) 7)], .int .i64 ((v + c) / szL Z), .int .i64 0])) := by
  have := implAddTo_any B n cap Z (dg (dgL Z v) 0) (dg (dgL Z v) 1) (dg (dgL Z v) 2) (dg (dgL Z v) 3) (dg (dgL Z v) 4) (dg (dgL Z v) 5) (dg (dgL Z v) 6) (dg (dgL Z v) 7) c W hS hn hc (octL Z v h)
  rw [dgs_listC, addR_of h hv hk] at this
  exact this
set_option maxHeartbeats 2000000 in
theorem cu_mov_i (B n cap : Nat) (Z : List Int) (hn : n = Z.length) (hc : n ≤ cap) (h : okL Z = true) (v : Int) (hv : 0 ≤ v ∧ v < szL Z) (c : Int) (hk : -1000000000000 ≤ c ∧ c ≤ 1000000000000) (W : World) (hS : Stk W B Z) :
    Calls Try.prog 11 #[.slice (some ⟨B, 0, none⟩) n cap, .agg #[.int .u8 (dg (dgL Z v) 0), .int .u8 (dg (dgL Z v) 1), .int .u8 (dg (dgL Z v) 2), .int .u8 (dg (dgL Z v) 3), .int .u8 (dg (dgL Z v) 4), .int .u8 (dg (dgL Z v) 5), .int .u8 (dg (dgL Z v) 6), .int .u8 (dg (dgL Z v) 7)], .int .i64 c] W (GivesB W (.tuple #[.agg #[.int .i64 (mg (mvL Z v c) 0), .int .i64 (mg (mvL Z v c) 1), .int .i64 (mg (mvL Z v c) 2), .int .i64 (mg (mvL Z v c) 3), .int .i64 (mg (mvL Z v c) 4), .int .i64 (mg (mvL Z v c) 5), .int .i64 (mg (mvL Z v c) 6), .int .i64 (mg (mvL Z v c) 7)], .int .i64 0])) := by
  have := implMovesOf_any B n cap Z (dg (dgL Z v) 0) (dg (dgL Z v) 1) (dg (dgL Z v) 2) (dg (dgL Z v) 3) (dg (dgL Z v) 4) (dg (dgL Z v) 5) (dg (dgL Z v) 6) (dg (dgL Z v) 7) c W hS hn hc (octL Z v h)
  rw [dgs_listC, movR_of h hv hk] at this
  exact this
set_option maxHeartbeats 2000000 in
theorem cu_way_i (B n cap : Nat) (Z : List Int) (hn : n = Z.length) (hc : n ≤ cap) (h : okL Z = true) (v : Int) (hv : 0 ≤ v ∧ v < szL Z) (u : Int) (g1 g2 : Int) (hr : wayR Z (dgL Z v) (dgL Z u) n = ((g1, g2), 0)) (W : World) (hS : Stk W B Z) :
    Calls Try.prog 14 #[.slice (some ⟨B, 0, none⟩) n cap, .agg #[.int .u8 (dg (dgL Z v) 0), .int .u8 (dg (dgL Z v) 1), .int .u8 (dg (dgL Z v) 2), .int .u8 (dg (dgL Z v) 3), .int .u8 (dg (dgL Z v) 4), .int .u8 (dg (dgL Z v) 5), .int .u8 (dg (dgL Z v) 6), .int .u8 (dg (dgL Z v) 7)], .agg #[.int .u8 (dg (dgL Z u) 0), .int .u8 (dg (dgL Z u) 1), .int .u8 (dg (dgL Z u) 2), .int .u8 (dg (dgL Z u) 3), .int .u8 (dg (dgL Z u) 4), .int .u8 (dg (dgL Z u) 5), .int .u8 (dg (dgL Z u) 6), .int .u8 (dg (dgL Z u) 7)]] W (GivesB W (.tuple #[.int .i64 g1, .int .i64 g2, .int .i64 0])) := by
  have := implWayTo_any B n cap Z (dg (dgL Z v) 0) (dg (dgL Z v) 1) (dg (dgL Z v) 2) (dg (dgL Z v) 3) (dg (dgL Z v) 4) (dg (dgL Z v) 5) (dg (dgL Z v) 6) (dg (dgL Z v) 7) (dg (dgL Z u) 0) (dg (dgL Z u) 1) (dg (dgL Z u) 2) (dg (dgL Z u) 3) (dg (dgL Z u) 4) (dg (dgL Z u) 5) (dg (dgL Z u) 6) (dg (dgL Z u) 7) W hS hn hc (octL Z v h) (octL Z u h)
  rw [dgs_listC, dgs_listC, hr] at this
  exact this
set_option maxHeartbeats 2000000 in
theorem cu_nxt_i (B n cap : Nat) (Z : List Int) (hn : n = Z.length) (hc : n ≤ cap) (h : okL Z = true) (v : Int) (hv : 0 ≤ v ∧ v < szL Z) (k : Nat) (x f : Int) (hr : nxtR Z (dgL Z v) (k : Int) x = (f, 0)) (W : World) (hS : Stk W B Z) :
    Calls Try.prog 18 #[.slice (some ⟨B, 0, none⟩) n cap, .agg #[.int .u8 (dg (dgL Z v) 0), .int .u8 (dg (dgL Z v) 1), .int .u8 (dg (dgL Z v) 2), .int .u8 (dg (dgL Z v) 3), .int .u8 (dg (dgL Z v) 4), .int .u8 (dg (dgL Z v) 5), .int .u8 (dg (dgL Z v) 6), .int .u8 (dg (dgL Z v) 7)], .int .i64 (k : Int), .int .i64 x] W (GivesB W (.tuple #[.int .i64 f, .int .i64 0])) := by
  have := implNextWith_any B n cap Z (dg (dgL Z v) 0) (dg (dgL Z v) 1) (dg (dgL Z v) 2) (dg (dgL Z v) 3) (dg (dgL Z v) 4) (dg (dgL Z v) 5) (dg (dgL Z v) 6) (dg (dgL Z v) 7) (k : Int) x W hS hn hc (octL Z v h)
  rw [dgs_listC, hr] at this
  exact this
set_option maxHeartbeats 2000000 in
theorem cu_dof_s (B n cap : Nat) (Z : List Int) (hn : n = Z.length) (hc : n ≤ cap) (h : okL Z = true) (v : Int) (hv : 0 ≤ v ∧ v < szL Z)  (W : World) (hS : Stk W B Z) :
    Calls Try.prog 7 #[.slice (some ⟨B, 0, none⟩) n cap, .int .i64 v] W (GivesB W (.tuple #[.agg #[.int .u8 (dg (dgL Z v) 0), .int .u8 (dg (dgL Z v) 1), .int .u8 (dg (dgL Z v) 2), .int .u8 (dg (dgL Z v) 3), .int .u8 (dg (dgL Z v) 4), .int .u8 (dg (dgL Z v) 5), .int .u8 (dg (dgL Z v) 6), .int .u8 (dg (dgL Z v) 7)], .int .i64 0])) := by
  have := specDigitsOf_any B n cap Z v W hS hn hc
  rw [dofR_yes v h hv] at this
  exact this
set_option maxHeartbeats 2000000 in
theorem cu_add_s (B n cap : Nat) (Z : List Int) (hn : n = Z.length) (hc : n ≤ cap) (h : okL Z = true) (v : Int) (hv : 0 ≤ v ∧ v < szL Z) (c : Int) (hk : -1000000000000 ≤ c ∧ c ≤ 1000000000000) (W : World) (hS : Stk W B Z) :
    Calls Try.prog 10 #[.slice (some ⟨B, 0, none⟩) n cap, .agg #[.int .u8 (dg (dgL Z v) 0), .int .u8 (dg (dgL Z v) 1), .int .u8 (dg (dgL Z v) 2), .int .u8 (dg (dgL Z v) 3), .int .u8 (dg (dgL Z v) 4), .int .u8 (dg (dgL Z v) 5), .int .u8 (dg (dgL Z v) 6), .int .u8 (dg (dgL Z v) 7)], .int .i64 c] W (GivesB W (.tuple #[.agg #[.int .u8 (dg (dgL Z ((v + c) % szL Z)) 0), .int .u8 (dg (dgL Z ((v + c) % szL Z)) 1), .int .u8 (dg (dgL Z ((v + c) % szL Z)) 2), .int .u8 (dg (dgL Z ((v + c) % szL Z)) 3), .int .u8 (dg (dgL Z ((v + c) % szL Z)) 4), .int .u8 (dg (dgL Z ((v + c) % szL Z)) 5), .int .u8 (dg (dgL Z ((v + c) % szL Z)) 6), .int .u8 (dg (dgL Z ((v + c) % szL Z)) 7)], .int .i64 ((v + c) / szL Z), .int .i64 0])) := by
  have := specAddTo_any B n cap Z (dg (dgL Z v) 0) (dg (dgL Z v) 1) (dg (dgL Z v) 2) (dg (dgL Z v) 3) (dg (dgL Z v) 4) (dg (dgL Z v) 5) (dg (dgL Z v) 6) (dg (dgL Z v) 7) c W hS hn hc (octL Z v h)
  rw [dgs_listC, addR_of h hv hk] at this
  exact this
set_option maxHeartbeats 2000000 in
theorem cu_mov_s (B n cap : Nat) (Z : List Int) (hn : n = Z.length) (hc : n ≤ cap) (h : okL Z = true) (v : Int) (hv : 0 ≤ v ∧ v < szL Z) (c : Int) (hk : -1000000000000 ≤ c ∧ c ≤ 1000000000000) (W : World) (hS : Stk W B Z) :
    Calls Try.prog 12 #[.slice (some ⟨B, 0, none⟩) n cap, .agg #[.int .u8 (dg (dgL Z v) 0), .int .u8 (dg (dgL Z v) 1), .int .u8 (dg (dgL Z v) 2), .int .u8 (dg (dgL Z v) 3), .int .u8 (dg (dgL Z v) 4), .int .u8 (dg (dgL Z v) 5), .int .u8 (dg (dgL Z v) 6), .int .u8 (dg (dgL Z v) 7)], .int .i64 c] W (GivesB W (.tuple #[.agg #[.int .i64 (mg (mvL Z v c) 0), .int .i64 (mg (mvL Z v c) 1), .int .i64 (mg (mvL Z v c) 2), .int .i64 (mg (mvL Z v c) 3), .int .i64 (mg (mvL Z v c) 4), .int .i64 (mg (mvL Z v c) 5), .int .i64 (mg (mvL Z v c) 6), .int .i64 (mg (mvL Z v c) 7)], .int .i64 0])) := by
  have := specMovesOf_any B n cap Z (dg (dgL Z v) 0) (dg (dgL Z v) 1) (dg (dgL Z v) 2) (dg (dgL Z v) 3) (dg (dgL Z v) 4) (dg (dgL Z v) 5) (dg (dgL Z v) 6) (dg (dgL Z v) 7) c W hS hn hc (octL Z v h)
  rw [dgs_listC, movR_of h hv hk] at this
  exact this
set_option maxHeartbeats 2000000 in
theorem cu_val_s (B n cap : Nat) (Z : List Int) (hn : n = Z.length) (hc : n ≤ cap) (h : okL Z = true) (v : Int) (hv : 0 ≤ v ∧ v < szL Z)  (W : World) (hS : Stk W B Z) :
    Calls Try.prog 17 #[.slice (some ⟨B, 0, none⟩) n cap, .agg #[.int .u8 (dg (dgL Z v) 0), .int .u8 (dg (dgL Z v) 1), .int .u8 (dg (dgL Z v) 2), .int .u8 (dg (dgL Z v) 3), .int .u8 (dg (dgL Z v) 4), .int .u8 (dg (dgL Z v) 5), .int .u8 (dg (dgL Z v) 6), .int .u8 (dg (dgL Z v) 7)]] W (GivesB W (.tuple #[.int .i64 v, .int .i64 0])) := by
  have := specValueOf_any B n cap Z (dg (dgL Z v) 0) (dg (dgL Z v) 1) (dg (dgL Z v) 2) (dg (dgL Z v) 3) (dg (dgL Z v) 4) (dg (dgL Z v) 5) (dg (dgL Z v) 6) (dg (dgL Z v) 7) W hS hn hc (octL Z v h)
  rw [dgs_listC, valueR_yes (okV_dgL Z v h), valL_of Z v h hv] at this
  exact this
set_option maxHeartbeats 2000000 in
theorem cu_way_s (B n cap : Nat) (Z : List Int) (hn : n = Z.length) (hc : n ≤ cap) (h : okL Z = true) (v : Int) (hv : 0 ≤ v ∧ v < szL Z) (u : Int) (g1 g2 : Int) (hr : wayR Z (dgL Z v) (dgL Z u) n = ((g1, g2), 0)) (W : World) (hS : Stk W B Z) :
    Calls Try.prog 15 #[.slice (some ⟨B, 0, none⟩) n cap, .agg #[.int .u8 (dg (dgL Z v) 0), .int .u8 (dg (dgL Z v) 1), .int .u8 (dg (dgL Z v) 2), .int .u8 (dg (dgL Z v) 3), .int .u8 (dg (dgL Z v) 4), .int .u8 (dg (dgL Z v) 5), .int .u8 (dg (dgL Z v) 6), .int .u8 (dg (dgL Z v) 7)], .agg #[.int .u8 (dg (dgL Z u) 0), .int .u8 (dg (dgL Z u) 1), .int .u8 (dg (dgL Z u) 2), .int .u8 (dg (dgL Z u) 3), .int .u8 (dg (dgL Z u) 4), .int .u8 (dg (dgL Z u) 5), .int .u8 (dg (dgL Z u) 6), .int .u8 (dg (dgL Z u) 7)]] W (GivesB W (.tuple #[.int .i64 g1, .int .i64 g2, .int .i64 0])) := by
  have := specWayTo_any B n cap Z (dg (dgL Z v) 0) (dg (dgL Z v) 1) (dg (dgL Z v) 2) (dg (dgL Z v) 3) (dg (dgL Z v) 4) (dg (dgL Z v) 5) (dg (dgL Z v) 6) (dg (dgL Z v) 7) (dg (dgL Z u) 0) (dg (dgL Z u) 1) (dg (dgL Z u) 2) (dg (dgL Z u) 3) (dg (dgL Z u) 4) (dg (dgL Z u) 5) (dg (dgL Z u) 6) (dg (dgL Z u) 7) W hS hn hc (octL Z v h) (octL Z u h)
  rw [dgs_listC, dgs_listC, hr] at this
  exact this
set_option maxHeartbeats 2000000 in
theorem cu_nxt_s (B n cap : Nat) (Z : List Int) (hn : n = Z.length) (hc : n ≤ cap) (h : okL Z = true) (v : Int) (hv : 0 ≤ v ∧ v < szL Z) (k : Nat) (x f : Int) (hr : nxtR Z (dgL Z v) (k : Int) x = (f, 0)) (W : World) (hS : Stk W B Z) :
    Calls Try.prog 19 #[.slice (some ⟨B, 0, none⟩) n cap, .agg #[.int .u8 (dg (dgL Z v) 0), .int .u8 (dg (dgL Z v) 1), .int .u8 (dg (dgL Z v) 2), .int .u8 (dg (dgL Z v) 3), .int .u8 (dg (dgL Z v) 4), .int .u8 (dg (dgL Z v) 5), .int .u8 (dg (dgL Z v) 6), .int .u8 (dg (dgL Z v) 7)], .int .i64 (k : Int), .int .i64 x] W (GivesB W (.tuple #[.int .i64 f, .int .i64 0])) := by
  have := specNextWith_any B n cap Z (dg (dgL Z v) 0) (dg (dgL Z v) 1) (dg (dgL Z v) 2) (dg (dgL Z v) 3) (dg (dgL Z v) 4) (dg (dgL Z v) 5) (dg (dgL Z v) 6) (dg (dgL Z v) 7) (k : Int) x W hS hn hc (octL Z v h)
  rw [dgs_listC, hr] at this
  exact this
set_option maxHeartbeats 2000000 in
theorem cu_siz_s (B n cap : Nat) (Z : List Int) (hn : n = Z.length) (hc : n ≤ cap) (h : okL Z = true) (v : Int) (hv : 0 ≤ v ∧ v < szL Z)  (W : World) (hS : Stk W B Z) :
    Calls Try.prog 13 #[.slice (some ⟨B, 0, none⟩) n cap] W (GivesB W (.tuple #[.int .i64 (szL Z), .int .i64 0])) := by
  have := specSizeOf_any B n cap Z W hS hn
  rw [sizeR_yes h] at this
  exact this
set_option maxHeartbeats 2000000 in
theorem cu_cmp_i (B n cap : Nat) (Z : List Int) (hn : n = Z.length) (hc : n ≤ cap) (h : okL Z = true) (v : Int) (hv : 0 ≤ v ∧ v < szL Z) (u : Int) (c : Int) (hr : cmpD Z (dgL Z v) (dgL Z u) n = (c, 0)) (W : World) (hS : Stk W B Z) :
    Calls Try.prog 16 #[.slice (some ⟨B, 0, none⟩) n cap, .agg #[.int .u8 (dg (dgL Z v) 0), .int .u8 (dg (dgL Z v) 1), .int .u8 (dg (dgL Z v) 2), .int .u8 (dg (dgL Z v) 3), .int .u8 (dg (dgL Z v) 4), .int .u8 (dg (dgL Z v) 5), .int .u8 (dg (dgL Z v) 6), .int .u8 (dg (dgL Z v) 7)], .agg #[.int .u8 (dg (dgL Z u) 0), .int .u8 (dg (dgL Z u) 1), .int .u8 (dg (dgL Z u) 2), .int .u8 (dg (dgL Z u) 3), .int .u8 (dg (dgL Z u) 4), .int .u8 (dg (dgL Z u) 5), .int .u8 (dg (dgL Z u) 6), .int .u8 (dg (dgL Z u) 7)]] W (GivesB W (.tuple #[.int .i64 c, .int .i64 0])) := by
  have := implCompareDigits_any B n cap Z (dg (dgL Z v) 0) (dg (dgL Z v) 1) (dg (dgL Z v) 2) (dg (dgL Z v) 3) (dg (dgL Z v) 4) (dg (dgL Z v) 5) (dg (dgL Z v) 6) (dg (dgL Z v) 7) (dg (dgL Z u) 0) (dg (dgL Z u) 1) (dg (dgL Z u) 2) (dg (dgL Z u) 3) (dg (dgL Z u) 4) (dg (dgL Z u) 5) (dg (dgL Z u) 6) (dg (dgL Z u) 7) W hS hn hc (octL Z v h) (octL Z u h)
  rw [dgs_listC, dgs_listC, hr] at this
  exact this
set_option maxHeartbeats 2000000 in
theorem cu_cnt_i (B n cap : Nat) (Z : List Int) (hn : n = Z.length) (hc : n ≤ cap) (h : okL Z = true) (v : Int) (hv : 0 ≤ v ∧ v < szL Z) (t x : Int) (k : Nat) (hk : k < Z.length) (hx : 0 ≤ x ∧ x < Z[k]?.getD 0) (ht : 0 ≤ t ∧ t < szL Z) (hl : v ≤ t) (W : World) (hS : Stk W B Z) :
    Calls Try.prog 20 #[.slice (some ⟨B, 0, none⟩) n cap, .int .i64 v, .int .i64 t, .int .i64 (k : Int), .int .i64 x] W (GivesB W (.tuple #[.int .i64 (belowF (szL (Z.take k)) (Z[k]?.getD 0) x (t + 1) - belowF (szL (Z.take k)) (Z[k]?.getD 0) x v), .int .i64 0])) := by
  have := implCountWith_any B n cap Z v t (k : Int) x W hS hn hc
  rw [cntR_yes v t k x h ⟨⟨⟨by omega, by omega⟩, by rw [Int.toNat_natCast]; exact hx⟩, hv, ht⟩ (by omega)] at this
  exact this
end Go.Proofs.Ytigiegdkfgjmcaa
