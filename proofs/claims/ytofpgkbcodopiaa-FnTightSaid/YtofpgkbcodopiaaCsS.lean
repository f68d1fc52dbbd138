/- Stories as told: the model's. -/
import Derived.Test.YtofpgkbcodopiaaCsM
import Derived.Test.YtofpgkbcodopiaaEndsT
import Derived.Test.YtofpgkbcodopiaaHeld
import Derived.OrdersHeld
import Derived.Deep.RegionHeld3
namespace Go.Proofs.Ytofpgkbcodopiaa
open Go.RowKit
set_option linter.unusedVariables false
set_option linter.unusedSimpArgs false
theorem has_any (b n cap : Nat) (ks : List Int) (hn : n = ks.length) (x : Int) (w : World) (h : Lst w b ks) :
    Calls Try.prog 36 #[.slice (some ⟨b, 0, none⟩) n cap, .int .i64 x] w fun e w' => e = .returned (.bool (hasL ks x)) ∧ w = w' := by
  have hC := hid h.2.1
  have hl := h.2.2.2
  rw [← hn] at hl
  have hN := hid hn
  clear h hn
  go_enter Try.func36, Try.ntmps36
  go_wp2_with fail
  go_loopw [5] (fun i wr => ∃ k : Nat, k ≤ n ∧ i = .int .i64 k ∧ (∀ j, j < k → lv ks j ≠ x) ∧ w = wr) (fun i _ => n - (intOf i).toNat)
  case atStart => exact ⟨0, Nat.zero_le _, rfl, fun j hj => by omega, rfl⟩
  case round =>
    obtain ⟨k, hk, rfl, hS, hw⟩ := hrel
    subst hw
    by_cases hlt : k < n
    · have hx1 := hC.out k (by rw [← hN.out]; exact hlt)
      have hlt' : (k : Int) < (n : Int) := by omega
      have HY := hid (fun e => hasL_at (ks := ks) (x := x) (j := k) (by rw [← hN.out]; exact hlt) e)
      have HS := hid hS
      obtain ⟨y, hy⟩ : ∃ y, lv ks k = y := ⟨_, rfl⟩
      rw [show ks[k]?.getD 0 = y from hy] at hx1
      rw [hy] at HY
      have HYY := hid hy
      clear hS hy
      by_cases e : y = x
      · have e1 : (y == x) = true := by simpa using e
        have HR := hid (HY.out e)
        clear e
        go_wp2_with fail
        go_ret
        exact ⟨by rw [HR.out]; first | rfl | simp, rfl⟩
      · have e1 : (y == x) = false := by simpa using e
        have HE := hid e
        clear e
        go_wp2_with fail
        go_roundw
        case rel => exact ⟨k + 1, by omega, by go_num, fun j hj => by
          rcases Nat.lt_or_ge j k with c | c
          · exact HS.out j c
          · obtain rfl : j = k := by omega
            rw [HYY.out]; exact HE.out, by first | rfl | trivial⟩
        case measure => simp [intOf]; omega
    · obtain rfl : k = n := by omega
      have HR := hid (hasL_none (ks := ks) (x := x) (fun j hj => hS j (by rw [hN.out]; exact hj)))
      clear hS
      go_wp2_with fail
      go_ret
      exact ⟨by rw [HR.out]; first | rfl | simp, rfl⟩
end Go.Proofs.Ytofpgkbcodopiaa
