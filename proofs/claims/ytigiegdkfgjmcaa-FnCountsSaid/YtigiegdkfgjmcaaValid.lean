/- Validity of stacks: the program's and the model's answers are okL of the bases. -/
import Derived.Test.YtigiegdkfgjmcaaBase
namespace Go.Proofs.Ytigiegdkfgjmcaa
open Go.RowKit
set_option maxHeartbeats 1000000 in
theorem validStack_any (b n cap : Nat) (zs : List Int) (w : World) (h : Stk w b zs) (hn : n = zs.length) :
    Calls Try.prog 48 #[.slice (some ⟨b, 0, none⟩) n cap] w fun e w' => e = .returned (.bool (okL zs)) ∧ w = w' := by
  have hC := hid h.2.1
  have hZ := hid h.2.2.1
  have hl := h.2.2.2
  rw [← hn] at hl
  have hN := hid hn
  clear h hn
  by_cases h1 : n < 1
  · have hf := hid (okL_len0 zs (by rw [← hN.out]; exact h1))
    go_enter Try.func48, Try.ntmps48
    go_wp2
    go_ret
    exact ⟨by rw [hf.out]; rfl, rfl⟩
  by_cases h8 : 8 < n
  · have hf := hid (okL_len9 zs (by rw [← hN.out]; exact h8))
    go_enter Try.func48, Try.ntmps48
    go_wp2
    go_ret
    exact ⟨by rw [hf.out]; rfl, rfl⟩
  go_enter Try.func48, Try.ntmps48
  go_wp2
  go_loop [3, 16] (fun s i => ∃ k : Nat, k ≤ n ∧ i = .int .i64 k ∧ s = .int .i64 (szL (zs.take k)) ∧ inB zs k) (fun _ i => n - (intOf i).toNat)
  case atStart => exact ⟨0, Nat.zero_le _, rfl, rfl, inB_zero _⟩
  case round =>
    obtain ⟨k, hk, rfl, rfl, hin⟩ := hrel
    by_cases hlt : k < n
    · have hltz : k < zs.length := by rw [← hN.out]; exact hlt
      have hx := hC.out k hltz
      have hzb := hZ.out (zs[k]?.getD 0) (by simp [hltz])
      have HL := okL_low zs k hltz
      have HH := okL_high zs k hltz
      have HS := fun a b => szL_step zs k hltz (by rw [← hN.out]; omega) (inB_succ hin a b)
      have HT := hid (szL_take zs k hltz)
      have HI := fun a b => inB_succ hin a b
      obtain ⟨p, hp⟩ : ∃ p, p = szL (zs.take k) := ⟨_, rfl⟩
      obtain ⟨z, hz⟩ : ∃ z, z = zs[k]?.getD 0 := ⟨_, rfl⟩
      rw [← hz] at hx hzb HL HH HS HI
      rw [← hp] at HS
      have HT' : Hid (szL (zs.take (k + 1)) = p * z) := by rw [HT.out, ← hp, ← hz]; exact hid rfl
      clear HT hin
      have hHI := hid HI; have hHS := hid HS; have hHL := hid HL; have hHH := hid HH
      clear HI HS HL HH
      rw [← hp]
      have hp' := hid hp; have hz' := hid hz
      clear hp hz
      by_cases h2 : z < 2
      · have hf := hid (hHL.out h2)
        go_wp2
        go_ret
        exact ⟨by rw [hf.out]; rfl, rfl⟩
      by_cases h3 : 100 < z
      · have hf := hid (hHH.out h3)
        go_wp2
        go_ret
        exact ⟨by rw [hf.out]; rfl, rfl⟩
      obtain ⟨s1, s2, s3, s4⟩ := hHS.out (by omega) (by omega)
      have hi := hHI.out (by omega) (by omega)
      have hHi := hid hi
      clear hi
      go_wp2
      go_round
      case rel => exact ⟨k + 1, by omega, by go_num, by rw [HT'.out], hHi.out⟩
      case measure => simp [intOf]; omega
    · obtain rfl : k = n := by omega
      have hf : okL zs = decide (szL zs ≤ 1000000000000) := okL_end zs (by rw [← hN.out]; omega) (by rw [← hN.out]; omega) (by rw [← hN.out]; exact hin)
      have hz : zs.take k = zs := by rw [hN.out, List.take_length]
      have hf' := hid hf
      clear hf
      rw [hz]
      clear hz hin
      go_wp2
      go_ret
      exact ⟨by rw [hf'.out]; rfl, rfl⟩
theorem inr_any (n lo hi : Int) (w : World) :
    Calls Try.prog 27 #[.int .i64 n, .int .i64 lo, .int .i64 hi] w fun e w' => e = .returned (.bool (decide (lo ≤ n) && decide (n ≤ hi))) ∧ w = w' := by
  by_cases h : lo ≤ n
  · have h1 : decide (lo ≤ n) = true := by simpa using h
    go_enter Try.func27, Try.ntmps27
    go_wp2
    go_ret
    exact ⟨by simp [h], rfl⟩
  · have h1 : decide (lo ≤ n) = false := by simpa using h
    go_enter Try.func27, Try.ntmps27
    go_wp2
    go_ret
    exact ⟨by simp, rfl⟩
/-- the two ways of l00In -/
theorem inr_yes (n lo hi : Int) (w : World) (h : lo ≤ n ∧ n ≤ hi) : Calls Try.prog 27 #[.int .i64 n, .int .i64 lo, .int .i64 hi] w fun e w' => e = .returned (.bool true) ∧ w = w' :=
  (inr_any n lo hi w).mono fun _ _ ⟨he, hw⟩ => ⟨by rw [he]; simp [h.1, h.2], hw⟩
theorem inr_no (n lo hi : Int) (w : World) (h : n < lo ∨ hi < n) : Calls Try.prog 27 #[.int .i64 n, .int .i64 lo, .int .i64 hi] w fun e w' => e = .returned (.bool false) ∧ w = w' :=
  (inr_any n lo hi w).mono fun _ _ ⟨he, hw⟩ => ⟨by
    rw [he]
    have : ¬ (lo ≤ n ∧ n ≤ hi) := by omega
    have h2 : (decide (lo ≤ n) && decide (n ≤ hi)) = false := by simpa using fun a => by omega
    rw [h2], hw⟩
theorem min_any (a b : Int) (w : World) :
    Calls Try.prog 52 #[.int .i64 a, .int .i64 b] w fun e w' => e = .returned (.int .i64 (min a b)) ∧ w = w' := by
  by_cases h : a < b
  · have hm := hid (show min a b = a from by omega)
    go_enter Try.func52, Try.ntmps52
    go_wp2
    go_ret
    exact ⟨by rw [hm.out]; rfl, rfl⟩
  · have hm := hid (show min a b = b from by omega)
    go_enter Try.func52, Try.ntmps52
    go_wp2
    go_ret
    exact ⟨by rw [hm.out]; rfl, rfl⟩

/-- spec.l01Size of the first n bases, each within its bounds: the product, or one more than MaxCount. -/
def szC (zs : List Int) : Int := min (szL zs) 1000000000001
theorem szC_take (zs : List Int) (k : Nat) (hk : k < zs.length) (h : inB zs (k + 1)) :
    min (szC (zs.take k) * (zs[k]?.getD 0)) 1000000000001 = szC (zs.take (k + 1)) := by
  unfold szC
  rw [szL_take zs k hk]
  have a := (szL_bd zs k (by omega) (fun j hj => h j (by omega))).1
  have hz := h k (by omega)
  obtain ⟨p, hp⟩ : ∃ p, p = szL (zs.take k) := ⟨_, rfl⟩
  obtain ⟨z, hz'⟩ : ∃ z, z = zs[k]?.getD 0 := ⟨_, rfl⟩
  rw [← hp] at a; rw [← hz'] at hz; rw [← hp, ← hz']
  by_cases c : p ≤ 1000000000001
  · rw [show min p 1000000000001 = p from by omega]
  · have h1 : 1000000000001 * 1 ≤ p * z := Int.mul_le_mul (by omega) (by omega) (by omega) (by omega)
    have h2 : 1000000000001 * 2 ≤ 1000000000001 * z := Int.mul_le_mul_of_nonneg_left hz.1 (by omega)
    rw [show min p 1000000000001 = 1000000000001 from by omega]
    omega
theorem szC_zero (zs : List Int) : szC (zs.take 0) = 1 := by
  show min (szL []) 1000000000001 = 1
  rw [szL_nil]; omega
theorem szC_bd (zs : List Int) (k : Nat) (hk : k ≤ zs.length) (h : inB zs k) : 1 ≤ szC (zs.take k) ∧ szC (zs.take k) ≤ 1000000000001 := by
  have a := (szL_bd zs k hk h).1
  unfold szC
  omega
set_option maxHeartbeats 1000000 in
theorem l01Size_any (b n cap : Nat) (zs : List Int) (w : World) (h : Stk w b zs) (hn : n ≤ zs.length) (hin : inB zs n) :
    Calls Try.prog 24 #[.slice (some ⟨b, 0, none⟩) n cap] w fun e w' => e = .returned (.int .i64 (szC (zs.take n))) ∧ w = w' := by
  have hC := hid h.2.1
  have hl := Nat.le_trans hn h.2.2.2
  have hI := hid hin
  clear h hin
  go_enter Try.func24, Try.ntmps24
  go_wp2
  go_loop [3, 4] (fun s i => ∃ k : Nat, k ≤ n ∧ i = .int .i64 k ∧ s = .int .i64 (szC (zs.take k))) (fun _ i => n - (intOf i).toNat)
  case atStart => exact ⟨0, Nat.zero_le _, rfl, by rw [szC_zero]⟩
  case round =>
    obtain ⟨k, hk, rfl, rfl⟩ := hrel
    by_cases hlt : k < n
    · have hx := hC.out k (by omega)
      have hzb := hI.out k hlt
      have hb := szC_bd zs k (by omega) (fun j hj => hI.out j (by omega))
      have HT := hid (szC_take zs k (by omega) (fun j hj => hI.out j (by omega)))
      obtain ⟨p, hp⟩ : ∃ p, p = szC (zs.take k) := ⟨_, rfl⟩
      obtain ⟨z, hz⟩ : ∃ z, z = zs[k]?.getD 0 := ⟨_, rfl⟩
      rw [← hz] at hx hzb HT
      rw [← hp] at hb HT
      rw [← hp]
      have hp' := hid hp; have hz' := hid hz
      clear hp hz
      have s1 : p * z ≤ 100000000000100 := by
        have : p * z ≤ 1000000000001 * 100 := Int.mul_le_mul hb.2 hzb.2 (by omega) (by omega)
        omega
      have s2 : 0 ≤ p * z := Int.mul_nonneg (by omega) (by omega)
      go_wp2_with (go_at_call 52; refine (min_any _ _ _).mono ?_; rintro e w' ⟨rfl, rfl⟩)
      go_round
      case rel => exact ⟨k + 1, by omega, by go_num, by rw [← HT.out]⟩
      case measure => simp [intOf]; omega
    · obtain rfl : k = n := by omega
      go_wp2
      go_ret
      exact ⟨rfl, rfl⟩
theorem szC_ok (zs : List Int) : decide (szC zs ≤ 1000000000000) = decide (szL zs ≤ 1000000000000) := by
  by_cases c : szL zs ≤ 1000000000000
  · simp [c, show szC zs ≤ 1000000000000 from by unfold szC; omega]
  · simp [c, show ¬ szC zs ≤ 1000000000000 from by unfold szC; omega]
set_option maxHeartbeats 1000000 in
theorem l01Ok_any (b n cap : Nat) (zs : List Int) (w : World) (h : Stk w b zs) (hn : n = zs.length) :
    Calls Try.prog 26 #[.slice (some ⟨b, 0, none⟩) n cap] w fun e w' => e = .returned (.bool (okL zs)) ∧ w = w' := by
  have hS := hid h
  have hC := hid h.2.1
  have hZ := hid h.2.2.1
  have hl := h.2.2.2
  rw [← hn] at hl
  have hN := hid hn
  clear h hn
  by_cases h1 : n < 1
  · have hf := hid (okL_len0 zs (by rw [← hN.out]; exact h1))
    go_enter Try.func26, Try.ntmps26
    go_wp2_with (go_at_call 27; refine (inr_no _ _ _ _ (by omega)).mono ?_; rintro e w' ⟨rfl, rfl⟩)
    go_ret
    exact ⟨by rw [hf.out]; rfl, rfl⟩
  by_cases h8 : 8 < n
  · have hf := hid (okL_len9 zs (by rw [← hN.out]; exact h8))
    go_enter Try.func26, Try.ntmps26
    go_wp2_with (go_at_call 27; refine (inr_no _ _ _ _ (by omega)).mono ?_; rintro e w' ⟨rfl, rfl⟩)
    go_ret
    exact ⟨by rw [hf.out]; rfl, rfl⟩
  go_enter Try.func26, Try.ntmps26
  go_wp2_with (go_at_call 27; refine (inr_yes _ _ _ _ (by omega)).mono ?_; rintro e w' ⟨rfl, rfl⟩)
  go_loop [3] (fun i => ∃ k : Nat, k ≤ n ∧ i = .int .i64 k ∧ inB zs k) (fun i => n - (intOf i).toNat)
  case atStart => exact ⟨0, Nat.zero_le _, rfl, inB_zero _⟩
  case round =>
    obtain ⟨k, hk, rfl, hin⟩ := hrel
    by_cases hlt : k < n
    · have hltz : k < zs.length := by rw [← hN.out]; exact hlt
      have hx := hC.out k hltz
      have hzb := hZ.out (zs[k]?.getD 0) (by simp [hltz])
      have hHL := hid (okL_low zs k hltz)
      have hHH := hid (okL_high zs k hltz)
      have hHI := hid (fun a b => inB_succ hin a b)
      obtain ⟨z, hz⟩ : ∃ z, z = zs[k]?.getD 0 := ⟨_, rfl⟩
      rw [← hz] at hx hzb hHL hHH hHI
      have hz' := hid hz
      clear hz hin
      by_cases h2 : z < 2
      · have hf := hid (hHL.out h2)
        go_wp2
        go_ret
        exact ⟨by rw [hf.out]; rfl, rfl⟩
      by_cases h3 : 100 < z
      · have hf := hid (hHH.out h3)
        go_wp2
        go_ret
        exact ⟨by rw [hf.out]; rfl, rfl⟩
      have hHi := hid (hHI.out (by omega) (by omega))
      go_wp2
      go_round
      case rel => exact ⟨k + 1, by omega, by go_num, hHi.out⟩
      case measure => simp [intOf]; omega
    · obtain rfl : k = n := by omega
      rw [hN.out] at hin
      have hf' := hid ((okL_end zs (by rw [← hN.out]; omega) (by rw [← hN.out]; omega) hin).trans (szC_ok zs).symm)
      have hi' := hid hin
      have hz := hid (show zs.take k = zs by rw [hN.out, List.take_length])
      clear hin
      go_wp2_with (go_at_call 24; refine (l01Size_any _ _ _ zs _ hS.out (Nat.le_of_eq hN.out) (by rw [hN.out]; exact hi'.out)).mono ?_; rw [hz.out]; rintro e w' ⟨rfl, rfl⟩)
      go_ret
      exact ⟨by rw [hf'.out]; rfl, rfl⟩
end Go.Proofs.Ytigiegdkfgjmcaa
