/- SizeOf and PlaceOf: the program's and the model's answers. -/
import Derived.Test.YtigiegdkfgjmcaaValue
namespace Go.Proofs.Ytigiegdkfgjmcaa
open Go.RowKit

def sizeR (zs : List Int) : Int × Int := if okL zs then (szL zs, 0) else (0, 1)
theorem sizeR_no {zs : List Int} (h : okL zs = false) : sizeR zs = (0, 1) := by simp [sizeR, h]
theorem sizeR_yes {zs : List Int} (h : okL zs = true) : sizeR zs = (szL zs, 0) := by simp [sizeR, h]
theorem szC_eq {zs : List Int} (h : szL zs ≤ 1000000000000) : szC zs = szL zs := by unfold szC; omega

theorem l01Size_ok (b n cap : Nat) (zs : List Int) (w : World) (h : Stk w b zs) (hn : n = zs.length) (hv : okL zs = true) :
    Calls Try.prog 24 #[.slice (some ⟨b, 0, none⟩) n cap] w fun e w' => e = .returned (.int .i64 (szL zs)) ∧ w = w' := by
  obtain ⟨_, _, hin, _, hs⟩ := okL_out hv
  have := l01Size_any b n cap zs w h (by omega) (by rw [hn]; exact hin)
  rwa [hn, List.take_length, szC_eq hs, ← hn] at this
theorem l01Size_part (b n cap : Nat) (zs : List Int) (w : World) (h : Stk w b zs) (hn : n ≤ zs.length) (hv : okL zs = true) :
    Calls Try.prog 24 #[.slice (some ⟨b, 0, none⟩) n cap] w fun e w' => e = .returned (.int .i64 (szL (zs.take n))) ∧ w = w' := by
  obtain ⟨_, h8, hin, _, hs⟩ := okL_out hv
  have := l01Size_any b n cap zs w h hn (fun j hj => hin j (by omega))
  have hle : szL (zs.take n) ≤ szL zs := by
    have key : ∀ k, n + k ≤ zs.length → szL (zs.take n) ≤ szL (zs.take (n + k)) := by
      intro k
      induction k with
      | zero => intro _; exact Int.le_refl _
      | succ k ih =>
        intro hk
        have a := ih (by omega)
        have c := szL_mono zs (n + k) (by omega) (fun j hj => hin j (by omega))
        have d := (szL_bd zs (n + k) (by omega) (fun j hj => hin j (by omega))).1
        show _ ≤ szL (zs.take (n + k + 1))
        omega
    have := key (zs.length - n) (by omega)
    rwa [show n + (zs.length - n) = zs.length from by omega, List.take_length] at this
  rwa [show szC (zs.take n) = szL (zs.take n) from szC_eq (by omega)] at this

theorem specSizeOf_any (b n cap : Nat) (zs : List Int) (w : World) (h : Stk w b zs) (hn : n = zs.length) :
    Calls Try.prog 13 #[.slice (some ⟨b, 0, none⟩) n cap] w fun e w' => e = .returned (.tuple #[.int .i64 (sizeR zs).1, .int .i64 (sizeR zs).2]) ∧ Below w.heap.size w w' := by
  have H := hid h; have N := hid hn
  clear h hn
  cases hv : okL zs with
  | false =>
    rw [sizeR_no hv]
    have hv' := hid hv
    clear hv
    go_enter Try.func13, Try.ntmps13
    go_wp2_with (go_at_call 26; refine (l01Ok_any _ _ _ zs _ H.out N.out).mono ?_; rw [hv'.out]; rintro e w' ⟨rfl, rfl⟩)
    go_ret2
    exact ⟨rfl, Below.refl _ _⟩
  | true =>
    rw [sizeR_yes hv]
    have hv' := hid hv
    clear hv
    go_enter Try.func13, Try.ntmps13
    go_wp2_with (first | (go_at_call 26; refine (l01Ok_any _ _ _ zs _ H.out N.out).mono ?_; rw [hv'.out]; rintro e w' ⟨rfl, rfl⟩) | (go_at_call 24; refine (l01Size_ok _ _ _ zs _ H.out N.out hv'.out).mono ?_; rintro e w' ⟨rfl, rfl⟩))
    go_ret2
    exact ⟨rfl, Below.refl _ _⟩

def placeR (zs : List Int) (k : Int) : Int × Int := if okL zs then (if 0 ≤ k ∧ k < zs.length then (szL (zs.take k.toNat), 0) else (0, 2)) else (0, 1)
theorem placeR_no {zs : List Int} (k : Int) (h : okL zs = false) : placeR zs k = (0, 1) := by simp [placeR, h]
theorem placeR_out {zs : List Int} (k : Int) (h : okL zs = true) (hk : ¬ (0 ≤ k ∧ k < zs.length)) : placeR zs k = (0, 2) := by simp only [placeR, h, if_true, if_neg hk]
theorem placeR_yes {zs : List Int} (k : Nat) (h : okL zs = true) (hk : k < zs.length) : placeR zs (k : Int) = (szL (zs.take k), 0) := by
  simp only [placeR, h, if_true]
  rw [if_pos (by omega), Int.toNat_natCast]

theorem hasWheel_yes (a : Option Addr) (n cap : Nat) (k : Int) (hk : 0 ≤ k ∧ k < n) (w : World) : Calls Try.prog 56 #[.slice a n cap, .int .i64 k] w fun e w' => e = .returned (.bool true) ∧ w = w' := by
  obtain ⟨j, rfl⟩ := Int.eq_ofNat_of_zero_le hk.1
  have h2 : j < n := by omega
  have h3 : decide (j < n) = true := by simp; exact h2
  clear hk
  go_enter Try.func56, Try.ntmps56
  go_wp2
  go_ret
  exact ⟨rfl, rfl⟩
theorem hasWheel_no (a : Option Addr) (n cap : Nat) (k : Int) (hk : ¬ (0 ≤ k ∧ k < n)) (w : World) : Calls Try.prog 56 #[.slice a n cap, .int .i64 k] w fun e w' => e = .returned (.bool false) ∧ w = w' := by
  by_cases h0 : 0 ≤ k
  · obtain ⟨j, rfl⟩ := Int.eq_ofNat_of_zero_le h0
    have h2 : n ≤ j := by omega
    have h3 : decide (j < n) = false := by simp; exact h2
    clear hk h0
    go_enter Try.func56, Try.ntmps56
    go_wp2
    go_ret
    exact ⟨rfl, rfl⟩
  · have h3 : decide (0 ≤ k) = false := by simp; omega
    have h4 : k < 0 := by omega
    clear hk
    go_enter Try.func56, Try.ntmps56
    go_wp2
    go_ret
    exact ⟨rfl, rfl⟩
theorem l01Wheel_yes (a : Option Addr) (n cap : Nat) (hn : n ≤ 1048576) (k : Int) (hk : 0 ≤ k ∧ k < n) (w : World) : Calls Try.prog 47 #[.slice a n cap, .int .i64 k] w fun e w' => e = .returned (.bool true) ∧ w = w' := by
  go_enter Try.func47, Try.ntmps47
  go_wp2_with (go_at_call 27; refine (inr_yes _ _ _ _ (by omega)).mono ?_; rintro e w' ⟨rfl, rfl⟩)
  go_ret
  exact ⟨rfl, rfl⟩
theorem l01Wheel_no (a : Option Addr) (n cap : Nat) (hn : n ≤ 1048576) (k : Int) (hk : ¬ (0 ≤ k ∧ k < n)) (w : World) : Calls Try.prog 47 #[.slice a n cap, .int .i64 k] w fun e w' => e = .returned (.bool false) ∧ w = w' := by
  go_enter Try.func47, Try.ntmps47
  go_wp2_with (go_at_call 27; refine (inr_no _ _ _ _ (by omega)).mono ?_; rintro e w' ⟨rfl, rfl⟩)
  go_ret
  exact ⟨rfl, rfl⟩
theorem l01Place_any (b n cap k : Nat) (zs : List Int) (w : World) (h : Stk w b zs) (hn : n = zs.length) (hc : n ≤ cap) (hv : okL zs = true) (hk : k ≤ n) :
    Calls Try.prog 41 #[.slice (some ⟨b, 0, none⟩) n cap, .int .i64 (k : Int)] w fun e w' => e = .returned (.int .i64 (szL (zs.take k))) ∧ w = w' := by
  have H := hid h
  have V := hid hv
  have K := hid (show k ≤ zs.length by omega)
  have hkc : k ≤ cap := by omega
  clear h hv hn
  go_enter Try.func41, Try.ntmps41
  go_wp2_with (go_at_call 24; refine (l01Size_part _ _ _ zs _ H.out K.out V.out).mono ?_; rintro e w' ⟨rfl, rfl⟩)
  go_ret
  exact ⟨rfl, rfl⟩

end Go.Proofs.Ytigiegdkfgjmcaa
