/- A wheel that is there, a digit that it has: the program's and the model's. -/
import Derived.Test.YtgfdfnlbkljgeaaValid
namespace Go.Proofs.Ytgfdfnlbkljgeaa
open Go.RowKit
theorem hasWheel_yes (a : Option Addr) (n cap : Nat) (k : Int) (hk : 0 ≤ k ∧ k < n) (w : World) : Calls Try.prog 74 #[.slice a n cap, .int .i64 k] w fun e w' => e = .returned (.bool true) ∧ w = w' := by
  obtain ⟨j, rfl⟩ := Int.eq_ofNat_of_zero_le hk.1
  have h2 : j < n := by omega
  have h3 : decide (j < n) = true := by simp; exact h2
  clear hk
  go_enter Try.func74, Try.ntmps74
  go_wp2
  go_ret
  exact ⟨rfl, rfl⟩
theorem hasWheel_no (a : Option Addr) (n cap : Nat) (k : Int) (hk : ¬ (0 ≤ k ∧ k < n)) (w : World) : Calls Try.prog 74 #[.slice a n cap, .int .i64 k] w fun e w' => e = .returned (.bool false) ∧ w = w' := by
  by_cases h0 : 0 ≤ k
  · obtain ⟨j, rfl⟩ := Int.eq_ofNat_of_zero_le h0
    have h2 : n ≤ j := by omega
    have h3 : decide (j < n) = false := by simp; exact h2
    clear hk h0
    go_enter Try.func74, Try.ntmps74
    go_wp2
    go_ret
    exact ⟨rfl, rfl⟩
  · have h3 : decide (0 ≤ k) = false := by simp; omega
    have h4 : k < 0 := by omega
    clear hk
    go_enter Try.func74, Try.ntmps74
    go_wp2
    go_ret
    exact ⟨rfl, rfl⟩
theorem l01Wheel_yes (a : Option Addr) (n cap : Nat) (hn : n ≤ 1048576) (k : Int) (hk : 0 ≤ k ∧ k < n) (w : World) : Calls Try.prog 54 #[.slice a n cap, .int .i64 k] w fun e w' => e = .returned (.bool true) ∧ w = w' := by
  go_enter Try.func54, Try.ntmps54
  go_wp2_with (go_at_call 51; refine (inr_yes _ _ _ _ (by omega)).mono ?_; rintro e w' ⟨rfl, rfl⟩)
  go_ret
  exact ⟨rfl, rfl⟩
theorem l01Wheel_no (a : Option Addr) (n cap : Nat) (hn : n ≤ 1048576) (k : Int) (hk : ¬ (0 ≤ k ∧ k < n)) (w : World) : Calls Try.prog 54 #[.slice a n cap, .int .i64 k] w fun e w' => e = .returned (.bool false) ∧ w = w' := by
  go_enter Try.func54, Try.ntmps54
  go_wp2_with (go_at_call 51; refine (inr_no _ _ _ _ (by omega)).mono ?_; rintro e w' ⟨rfl, rfl⟩)
  go_ret
  exact ⟨rfl, rfl⟩
def hdB (zs : List Int) (k x : Int) : Prop := (0 ≤ k ∧ k < zs.length) ∧ 0 ≤ x ∧ x < zs[k.toNat]?.getD 0
theorem hasDigit_yes (b n cap : Nat) (zs : List Int) (k : Nat) (x : Int) (w : World) (h : Stk w b zs) (hn : n = zs.length) (hk : k < n) (hx : 0 ≤ x ∧ x < zs[k]?.getD 0) :
    Calls Try.prog 56 #[.slice (some ⟨b, 0, none⟩) n cap, .int .i64 (k : Int), .int .i64 x] w fun e w' => e = .returned (.bool true) ∧ w = w' := by
  have hc := h.2.1 k (by omega)
  have hzb := h.2.2.1 (zs[k]?.getD 0) (by simp [show k < zs.length from by omega])
  have hl : n ≤ 1048576 := by rw [hn]; exact h.2.2.2
  clear h hn
  obtain ⟨z, hz⟩ : ∃ z, z = zs[k]?.getD 0 := ⟨_, rfl⟩
  rw [← hz] at hc hzb hx
  clear hz
  obtain ⟨x, rfl⟩ := Int.eq_ofNat_of_zero_le hx.1
  have hx2 := hx.2
  clear hx
  have kn : (k : Int) < (n : Int) := by omega
  have d1 : decide ((x : Int) < z) = true := by simp; omega
  go_enter Try.func56, Try.ntmps56
  go_wp2_with (go_at_call 74; refine (hasWheel_yes _ _ _ _ (by omega) _).mono ?_; rintro e w' ⟨rfl, rfl⟩)
  go_ret
  exact ⟨rfl, rfl⟩
theorem hasDigit_no (b n cap : Nat) (zs : List Int) (k x : Int) (w : World) (h : Stk w b zs) (hn : n = zs.length) (hk : ¬ hdB zs k x) :
    Calls Try.prog 56 #[.slice (some ⟨b, 0, none⟩) n cap, .int .i64 k, .int .i64 x] w fun e w' => e = .returned (.bool false) ∧ w = w' := by
  have hl : n ≤ 1048576 := by rw [hn]; exact h.2.2.2
  by_cases hw : 0 ≤ k ∧ k < n
  · obtain ⟨k, rfl⟩ := Int.eq_ofNat_of_zero_le hw.1
    have hk' : k < n := by omega
    have hc := h.2.1 k (by omega)
    have hzb := h.2.2.1 (zs[k]?.getD 0) (by simp [show k < zs.length from by omega])
    have hkx : ¬ (0 ≤ x ∧ x < zs[k]?.getD 0) := fun hh => hk ⟨by omega, by rw [Int.toNat_natCast]; exact hh⟩
    clear h hn hk
    obtain ⟨z, hz⟩ : ∃ z, z = zs[k]?.getD 0 := ⟨_, rfl⟩
    rw [← hz] at hc hzb hkx
    clear hz
    have kn : (k : Int) < (n : Int) := by omega
    by_cases hx : 0 ≤ x
    · have d0 : decide (0 ≤ x) = true := by simp; omega
      have d1 : decide (x < z) = false := by simp; omega
      have d2 : z ≤ x := by omega
      clear hkx
      go_enter Try.func56, Try.ntmps56
      go_wp2_with (go_at_call 74; refine (hasWheel_yes _ _ _ _ (by omega) _).mono ?_; rintro e w' ⟨rfl, rfl⟩)
      go_ret
      exact ⟨rfl, rfl⟩
    · have d0 : decide (0 ≤ x) = false := by simp; omega
      have d2 : x < 0 := by omega
      clear hkx
      go_enter Try.func56, Try.ntmps56
      go_wp2_with (go_at_call 74; refine (hasWheel_yes _ _ _ _ (by omega) _).mono ?_; rintro e w' ⟨rfl, rfl⟩)
      go_ret
      exact ⟨rfl, rfl⟩
  · clear h hn hk
    go_enter Try.func56, Try.ntmps56
    go_wp2_with (go_at_call 74; refine (hasWheel_no _ _ _ _ hw _).mono ?_; rintro e w' ⟨rfl, rfl⟩)
    go_ret
    exact ⟨rfl, rfl⟩
end Go.Proofs.Ytgfdfnlbkljgeaa
