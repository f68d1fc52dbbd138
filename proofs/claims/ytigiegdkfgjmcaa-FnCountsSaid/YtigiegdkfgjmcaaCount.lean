/- CountWith: the program's and the model's answers. -/
import Derived.Test.YtigiegdkfgjmcaaSizes
namespace Go.Proofs.Ytigiegdkfgjmcaa
open Go.RowKit

def hdB (zs : List Int) (k x : Int) : Prop := (0 ≤ k ∧ k < zs.length) ∧ 0 ≤ x ∧ x < zs[k.toNat]?.getD 0
/-- how many values less than e have a digit x on a wheel with the place p and the base z -/
def belowF (p z x e : Int) : Int := e / (p * z) * p + min (max (e % (p * z) - x * p) 0) p
theorem belowF_bd (p z x e : Int) (hp : 1 ≤ p) (hz : 2 ≤ z) (he : 0 ≤ e) : 0 ≤ belowF p z x e ∧ belowF p z x e ≤ e + p := by
  unfold belowF
  have hc : 1 * 1 ≤ p * z := Int.mul_le_mul hp (by omega) (by omega) (by omega)
  have h0 := Int.ediv_nonneg he (show 0 ≤ p * z by omega)
  have h1 : 0 ≤ e / (p * z) * p := Int.mul_nonneg h0 (by omega)
  have h2 : e / (p * z) * p ≤ e / (p * z) * (p * z) := Int.mul_le_mul_of_nonneg_left (by have : p * 1 ≤ p * z := Int.mul_le_mul_of_nonneg_left (by omega) (by omega); omega) h0
  have h3 := Int.ediv_mul_le e (show p * z ≠ 0 by omega)
  omega

theorem hasDigit_yes (b n cap : Nat) (zs : List Int) (k : Nat) (x : Int) (w : World) (h : Stk w b zs) (hn : n = zs.length) (hk : k < n) (hx : 0 ≤ x ∧ x < zs[k]?.getD 0) :
    Calls Try.prog 44 #[.slice (some ⟨b, 0, none⟩) n cap, .int .i64 (k : Int), .int .i64 x] w fun e w' => e = .returned (.bool true) ∧ w = w' := by
  have hc := h.2.1 k (by omega)
  have hzb := h.2.2.1 (zs[k]?.getD 0) (by simp [show k < zs.length from by omega])
  have hl : n ≤ 1048576 := by rw [hn]; exact h.2.2.2
  clear h hn
  obtain ⟨z, hz⟩ : ∃ z, z = zs[k]?.getD 0 := ⟨_, rfl⟩
  rw [← hz] at hc hzb hx
  clear hz
  obtain ⟨x, rfl⟩ := Int.eq_ofNat_of_zero_le hx.1
  have hx2 := hx.2
  clear hx
  have kn : (k : Int) < (n : Int) := by omega
  have d1 : decide ((x : Int) < z) = true := by simp; omega
  go_enter Try.func44, Try.ntmps44
  go_wp2_with (go_at_call 56; refine (hasWheel_yes _ _ _ _ (by omega) _).mono ?_; rintro e w' ⟨rfl, rfl⟩)
  go_ret
  exact ⟨rfl, rfl⟩
theorem hasDigit_no (b n cap : Nat) (zs : List Int) (k x : Int) (w : World) (h : Stk w b zs) (hn : n = zs.length) (hk : ¬ hdB zs k x) :
    Calls Try.prog 44 #[.slice (some ⟨b, 0, none⟩) n cap, .int .i64 k, .int .i64 x] w fun e w' => e = .returned (.bool false) ∧ w = w' := by
  have hl : n ≤ 1048576 := by rw [hn]; exact h.2.2.2
  by_cases hw : 0 ≤ k ∧ k < n
  · obtain ⟨k, rfl⟩ := Int.eq_ofNat_of_zero_le hw.1
    have hk' : k < n := by omega
    have hc := h.2.1 k (by omega)
    have hzb := h.2.2.1 (zs[k]?.getD 0) (by simp [show k < zs.length from by omega])
    have hkx : ¬ (0 ≤ x ∧ x < zs[k]?.getD 0) := fun hh => hk ⟨by omega, by rw [Int.toNat_natCast]; exact hh⟩
    clear h hn hk
    obtain ⟨z, hz⟩ : ∃ z, z = zs[k]?.getD 0 := ⟨_, rfl⟩
    rw [← hz] at hc hzb hkx
    clear hz
    have kn : (k : Int) < (n : Int) := by omega
    by_cases hx : 0 ≤ x
    · have d0 : decide (0 ≤ x) = true := by simp; omega
      have d1 : decide (x < z) = false := by simp; omega
      have d2 : z ≤ x := by omega
      clear hkx
      go_enter Try.func44, Try.ntmps44
      go_wp2_with (go_at_call 56; refine (hasWheel_yes _ _ _ _ (by omega) _).mono ?_; rintro e w' ⟨rfl, rfl⟩)
      go_ret
      exact ⟨rfl, rfl⟩
    · have d0 : decide (0 ≤ x) = false := by simp; omega
      have d2 : x < 0 := by omega
      clear hkx
      go_enter Try.func44, Try.ntmps44
      go_wp2_with (go_at_call 56; refine (hasWheel_yes _ _ _ _ (by omega) _).mono ?_; rintro e w' ⟨rfl, rfl⟩)
      go_ret
      exact ⟨rfl, rfl⟩
  · clear h hn hk
    go_enter Try.func44, Try.ntmps44
    go_wp2_with (go_at_call 56; refine (hasWheel_no _ _ _ _ hw _).mono ?_; rintro e w' ⟨rfl, rfl⟩)
    go_ret
    exact ⟨rfl, rfl⟩
theorem hasValue_yes (b n cap : Nat) (zs : List Int) (v : Int) (w : World) (h : Stk w b zs) (hn : n = zs.length) (hv : okL zs = true) (hx : 0 ≤ v ∧ v < szL zs) :
    Calls Try.prog 49 #[.slice (some ⟨b, 0, none⟩) n cap, .int .i64 v] w fun e w' => e = .returned (.bool true) ∧ Below w.heap.size w w' := by
  have hX := hid (size_any b n cap zs hn hv w h)
  clear h hn hv
  have d0 : decide (0 ≤ v) = true := by simp; omega
  have d1 : decide (v < szL zs) = true := by simp; omega
  go_enter Try.func49, Try.ntmps49
  go_wp2_with (go_at_call 32; refine hX.out.mono ?_; rintro e w' ⟨rfl, hB⟩)
  go_ret
  exact ⟨rfl, hB⟩
theorem hasValue_no (b n cap : Nat) (zs : List Int) (v : Int) (w : World) (h : Stk w b zs) (hn : n = zs.length) (hv : okL zs = true) (hx : ¬ (0 ≤ v ∧ v < szL zs)) :
    Calls Try.prog 49 #[.slice (some ⟨b, 0, none⟩) n cap, .int .i64 v] w fun e w' => e = .returned (.bool false) ∧ Below w.heap.size w w' := by
  have hX := hid (size_any b n cap zs hn hv w h)
  clear h hn hv
  by_cases h0 : 0 ≤ v
  · have d0 : decide (0 ≤ v) = true := by simp; omega
    have d1 : decide (v < szL zs) = false := by simp; omega
    have d2 : szL zs ≤ v := by omega
    clear hx
    go_enter Try.func49, Try.ntmps49
    go_wp2_with (go_at_call 32; refine hX.out.mono ?_; rintro e w' ⟨rfl, hB⟩)
    go_ret
    exact ⟨rfl, hB⟩
  · have d0 : decide (0 ≤ v) = false := by simp; omega
    clear hx
    go_enter Try.func49, Try.ntmps49
    go_wp2_with fail
    go_ret
    exact ⟨rfl, Below.refl _ _⟩
set_option maxHeartbeats 2000000 in
theorem countBelow_any (b n cap k : Nat) (zs : List Int) (x e : Int) (w : World) (h : Stk w b zs) (hn : n = zs.length) (hv : okL zs = true) (hk : k < n) (hx : 0 ≤ x ∧ x < zs[k]?.getD 0) (he : 0 ≤ e) (he2 : e ≤ 1000000000000) :
    Calls Try.prog 50 #[.slice (some ⟨b, 0, none⟩) n cap, .int .i64 e, .int .i64 (k : Int), .int .i64 x] w fun r w' => r = .returned (.int .i64 (belowF (szL (zs.take k)) (zs[k]?.getD 0) x e)) ∧ Below w.heap.size w w' := by
  obtain ⟨_, h8, hin, _, _⟩ := okL_out hv
  have HP := hid (fun (w : World) (hS : Stk w b zs) => place_any b n cap k zs hn (by omega) (by rw [hn]; exact hin) hk w hS)
  have HC := hid (fun (w : World) (hS : Stk w b zs) => cycle_any b n cap k zs hn (by omega) (by rw [hn]; exact hin) hk w hS)
  have hT := szL_take zs k (by omega)
  obtain ⟨s1, s2, s3, s4⟩ := szL_step zs k (by omega) h8 (fun j hj => hin j (by omega))
  have hzb := hin k (by omega)
  have HB := hid (belowF_bd (szL (zs.take k)) (zs[k]?.getD 0) x e s1 (by omega) he)
  have H := hid h
  have hbl := h.1
  clear h hn hv hin h8
  rw [hT] at HC
  clear hT
  obtain ⟨z, hz⟩ : ∃ z, z = zs[k]?.getD 0 := ⟨_, rfl⟩
  obtain ⟨p, hp⟩ : ∃ p, p = szL (zs.take k) := ⟨_, rfl⟩
  rw [← hz, ← hp] at HC s3 s4 HB
  rw [← hp] at HP s1 s2
  rw [← hz] at hx hzb
  rw [← hz, ← hp]
  clear hz hp
  obtain ⟨c, hc⟩ : ∃ c, c = p * z := ⟨_, rfl⟩
  have m0 := Int.emod_nonneg e (show c ≠ 0 by omega)
  have m1 := Int.emod_lt_of_pos e (show 0 < c by omega)
  have m2 : 0 ≤ x * p := Int.mul_nonneg hx.1 (by omega)
  have m3 : x * p ≤ 100 * 10000000000000000 := Int.mul_le_mul (by omega) s2 (by omega) (by omega)
  have m4 := Int.ediv_nonneg he (show 0 ≤ c by omega)
  have m5 : 0 ≤ e / c * p := Int.mul_nonneg m4 (by omega)
  have m6 : e / c * p ≤ e / c * c := Int.mul_le_mul_of_nonneg_left (by have : p * 1 ≤ p * z := Int.mul_le_mul_of_nonneg_left (by omega) (by omega); omega) m4
  have m7 := Int.ediv_mul_le e (show c ≠ 0 by omega)
  have m8 : e / c * p ≤ 1000000000000 := by omega
  have HF : Hid (belowF p z x e = e / c * p + min (max (e % c - x * p) 0) p) := by unfold belowF; rw [hc]; exact hid rfl
  rw [← hc] at HC s3 s4
  clear m6 m7 hc
  have K := hid (fun (q : Int) => show q < 0 → min (max q 0) p = 0 from by omega)
  have K2 := hid (fun (q : Int) => show 0 ≤ q → q ≤ p → min (max q 0) p = q from by omega)
  have K3 := hid (fun (q : Int) => show p < q → min (max q 0) p = p from by omega)
  by_cases hq : e % c - x * p < 0
  · have hm := hid (HF.out.trans (show _ = e / c * p by rw [K.out (e % c - x * p) hq, Int.add_zero]))
    go_enter Try.func50, Try.ntmps50
    go_wp2_with fail
    refine (HP.out w H.out).mono ?_
    rintro r w1 ⟨rfl, hB1⟩
    have hz1 := hB1.size
    go_wp2_with fail
    refine (HC.out w1 (H.out.below hB1 hbl)).mono ?_
    rintro r w2 ⟨rfl, hB2⟩
    go_wp2_with fail
    go_ret
    exact ⟨by rw [hm.out]; rfl, hB1.trans (hB2.mono (by omega))⟩
  by_cases hq2 : p < e % c - x * p
  · have hm := hid (HF.out.trans (show _ = e / c * p + p by rw [K3.out (e % c - x * p) hq2]))
    have hq3 : 0 ≤ e % c - x * p := by omega
    clear hq
    go_enter Try.func50, Try.ntmps50
    go_wp2_with fail
    refine (HP.out w H.out).mono ?_
    rintro r w1 ⟨rfl, hB1⟩
    have hz1 := hB1.size
    go_wp2_with fail
    refine (HC.out w1 (H.out.below hB1 hbl)).mono ?_
    rintro r w2 ⟨rfl, hB2⟩
    go_wp2_with fail
    go_ret
    exact ⟨by rw [hm.out]; rfl, hB1.trans (hB2.mono (by omega))⟩
  · have hm := hid (HF.out.trans (show _ = e / c * p + (e % c - x * p) by rw [K2.out (e % c - x * p) (by omega) (by omega)]))
    have hq3 : 0 ≤ e % c - x * p := by omega
    have hq4 : e % c - x * p ≤ p := by omega
    clear hq hq2
    go_enter Try.func50, Try.ntmps50
    go_wp2_with fail
    refine (HP.out w H.out).mono ?_
    rintro r w1 ⟨rfl, hB1⟩
    have hz1 := hB1.size
    go_wp2_with fail
    refine (HC.out w1 (H.out.below hB1 hbl)).mono ?_
    rintro r w2 ⟨rfl, hB2⟩
    go_wp2_with fail
    go_ret
    exact ⟨by rw [hm.out]; rfl, hB1.trans (hB2.mono (by omega))⟩
end Go.Proofs.Ytigiegdkfgjmcaa
