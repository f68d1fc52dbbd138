/- Readings, flows and possible counts; the model's. -/
import Derived.Test.YtocaogkbnlicjaaDoorFlowE
namespace Go.Proofs.YtocaogkbnlicjaaDoor
open Go.RowKit
theorem quiet_sm {P : Program} {f : FuncId} {args : Array Value} {w : World} {n : Nat} {v : Value}
    (h : Calls P f args (w.drewN n) fun e w' => e = .returned v ∧ w.drewN n = w') : Calls P f args (w.drewN n) fun e w'' => e = .returned v ∧ ∃ m, w'' = w.drewN m :=
  h.mono fun _ _ ⟨he, hm⟩ => ⟨he, n, hm.symm⟩
theorem l01Size_is (b n cap : Nat) (zs : List Int) (hn : n = zs.length) (hv : okL zs = true) (w : World) (h : Stk w b zs) :
    Calls Tryd.prog 103 #[.slice (some ⟨b, 0, none⟩) n cap] w fun e w' => e = .returned (.int .i64 (szL zs)) ∧ w = w' := by
  obtain ⟨_, _, hin, _, hs⟩ := okL_out hv
  have := l01Size_any b n cap zs w h (by omega) (by rw [hn]; exact hin)
  rwa [hn, List.take_length, show szC zs = szL zs from by unfold szC; omega, ← hn] at this
theorem tmod_up (a b : Int) : (a.tmod b + b) % b = a % b := by
  rw [Int.tmod_def, show a - b * a.tdiv b + b = a + b * (1 - a.tdiv b) by rw [Int.mul_sub]; omega, Int.add_mul_emod_self_left]
set_option maxHeartbeats 1000000 in
theorem l04Reading_any (bS n cap : Nat) (zs : List Int) (hn : n = zs.length) (hv : okL zs = true) (d x : Int) (w : World) (hS : Stk w bS zs) :
    Calls Tryd.prog 72 #[.slice (some ⟨bS, 0, none⟩) n cap, .agg #[.int .i64 d, .int .i64 x]] w (GivesB w (.bool (okRd (szL zs) d x))) := by
  have bel := hid (box2_bel w 81 (.int .i64 d) (.int .i64 x))
  by_cases h1 : d < 0 ∨ 100000 < d
  · have e : okRd (szL zs) d x = false := by rcases h1 with h | h; exact okRd_low h; exact okRd_high h
    rw [e]
    have HI := hid (fun w => inr_no d 0 100000 w h1)
    clear h1 e
    go_enter Tryd.func72, Tryd.ntmps72
    go_wp2_with fail
    go_quiet ((go_at_call 61; exact quiet_sm (HI.out _)))
    go_wp2_with fail
    go_ret
    exact ⟨rfl, below_drewN bel.out _⟩
  have HI := hid (fun w => inr_yes d 0 100000 w (by omega))
  rw [okRd_val (by omega) (by omega)]
  have HS := hid (fun k => (hS.below (bel.out) hS.1).below (below_drewN (Below.refl _ _) k) (Nat.lt_of_lt_of_le hS.1 bel.out.size))
  have HZ := hid (fun k => l01Size_is bS n cap zs hn hv _ (HS.out k))
  have HJ := hid (show ∀ w, Calls Tryd.prog 61 #[.int .i64 x, .int .i64 0, .int .i64 (szL zs - 1)] w fun e w' => e = .returned (.bool (decide (0 ≤ x ∧ x < szL zs))) ∧ w = w' from fun w => by
    by_cases h : 0 ≤ x ∧ x < szL zs
    · rw [decide_eq_true h]; exact inr_yes _ _ _ w (by omega)
    · rw [decide_eq_false h]; exact inr_no _ _ _ w (by omega))
  obtain ⟨_, _, _, z1, z2⟩ := okL_out hv
  obtain ⟨r, hr⟩ : ∃ r, decide (0 ≤ x ∧ x < szL zs) = r := ⟨_, rfl⟩
  rw [hr] at HJ ⊢
  obtain ⟨z, hz⟩ : ∃ z, szL zs = z := ⟨_, rfl⟩
  rw [hz] at HJ HZ z1 z2
  have tz : IntKind.i64.wrap (z - 1) = z - 1 := IntWalk.i64_in _ (by omega)
  clear hr hz hv hn hS h1
  go_enter Tryd.func72, Tryd.ntmps72
  go_wp2_with fail
  go_quiet ((first | (go_at_call 103; exact quiet_sm (HZ.out _)) | (go_at_call 61; with_reducible exact quiet_sm (HI.out _)) | (go_at_call 61; with_reducible exact quiet_sm (HJ.out _))))
  go_wp2_with fail
  go_ret
  exact ⟨rfl, below_drewN bel.out _⟩
def cnt3 (z way low high : Int) : Value := if lstI z way low ≤ high then .tuple #[.int .i64 (lstI z way low), .int .i64 (gstI z way high), .bool true] else .tuple #[.int .i64 0, .int .i64 0, .bool false]
theorem mul_any (x d : Int) (hx : -1000000 ≤ x ∧ x ≤ 1000000) (hd : 0 ≤ d ∧ d ≤ 100000) : -100000000000 ≤ x * d ∧ x * d ≤ 100000000000 := by
  have h1 := Int.mul_le_mul_of_nonneg_right hx.2 hd.1
  have h2 := Int.mul_le_mul_of_nonneg_left hd.2 (show (0 : Int) ≤ 1000000 by omega)
  have h3 := Int.mul_le_mul_of_nonneg_right hx.1 hd.1
  omega
end Go.Proofs.YtocaogkbnlicjaaDoor
