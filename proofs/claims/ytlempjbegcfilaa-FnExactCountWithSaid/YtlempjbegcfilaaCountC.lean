/- CountWith: the answers of the program and of the model. -/
import Derived.Test.YtlempjbegcfilaaCount
namespace Go.Proofs.Ytlempjbegcfilaa
open Go.RowKit

open Classical in
noncomputable def cntR (zs : List Int) (f t k x : Int) : Int × Int :=
  if okL zs then (if hdB zs k x ∧ (0 ≤ f ∧ f < szL zs) ∧ 0 ≤ t ∧ t < szL zs then (if t < f then (0, 0) else
    (belowF (szL (zs.take k.toNat)) (zs[k.toNat]?.getD 0) x (t + 1) - belowF (szL (zs.take k.toNat)) (zs[k.toNat]?.getD 0) x f, 0)) else (0, 2)) else (0, 1)
theorem cntR_no {zs : List Int} (f t k x : Int) (h : okL zs = false) : cntR zs f t k x = (0, 1) := by simp [cntR, h]
theorem cntR_out {zs : List Int} (f t k x : Int) (h : okL zs = true) (hk : ¬ (hdB zs k x ∧ (0 ≤ f ∧ f < szL zs) ∧ 0 ≤ t ∧ t < szL zs)) : cntR zs f t k x = (0, 2) := by simp only [cntR, h, if_true, if_neg hk]
theorem cntR_back {zs : List Int} (f t k x : Int) (h : okL zs = true) (hk : hdB zs k x ∧ (0 ≤ f ∧ f < szL zs) ∧ 0 ≤ t ∧ t < szL zs) (hb : t < f) : cntR zs f t k x = (0, 0) := by simp only [cntR, h, if_true, if_pos hk, if_pos hb]
theorem cntR_yes {zs : List Int} (f t : Int) (k : Nat) (x : Int) (h : okL zs = true) (hk : hdB zs k x ∧ (0 ≤ f ∧ f < szL zs) ∧ 0 ≤ t ∧ t < szL zs) (hb : ¬ t < f) :
    cntR zs f t k x = (belowF (szL (zs.take k)) (zs[k]?.getD 0) x (t + 1) - belowF (szL (zs.take k)) (zs[k]?.getD 0) x f, 0) := by
  simp only [cntR, h, if_true, if_pos hk, if_neg hb, Int.toNat_natCast]

set_option maxHeartbeats 2000000 in
theorem implCountWith_any (b n cap : Nat) (zs : List Int) (x1 x2 x3 x4 : Int) (w : World) (h : Stk w b zs) (hn : n = zs.length) (_ : n ≤ cap) :
    Calls Try.prog 28 #[.slice (some ⟨b, 0, none⟩) n cap, .int .i64 x1, .int .i64 x2, .int .i64 x3, .int .i64 x4] w fun e w' => e = .returned (.tuple #[.int .i64 (cntR zs x1 x2 x3 x4).1, .int .i64 (cntR zs x1 x2 x3 x4).2]) ∧ Below w.heap.size w w' := by
  have H := hid h; have N := hid hn
  have hbl := h.1
  cases hv : okL zs with
  | false =>
    rw [cntR_no _ _ _ _ hv]
    have V := hid hv
    clear h hn hv
    go_enter Try.func28, Try.ntmps28
    go_wp2_with (go_at_call 64; refine (validStack_any _ _ _ zs _ H.out N.out).mono ?_; rw [V.out]; rintro e w' ⟨rfl, rfl⟩)
    go_ret2
    exact ⟨rfl, Below.refl _ _⟩
  | true =>
    have V := hid hv
    by_cases hd : hdB zs x3 x4
    rotate_left
    · rw [cntR_out _ _ _ _ hv (fun hh => hd hh.1)]
      have HD := hid (hasDigit_no b n cap zs x3 x4 w h hn hd)
      clear h hn hv hd
      go_enter Try.func28, Try.ntmps28
      go_wp2_with (first | (go_at_call 64; refine (validStack_any _ _ _ zs _ H.out N.out).mono ?_; rw [V.out]; rintro e w' ⟨rfl, rfl⟩) | (go_at_call 58; refine HD.out.mono ?_; rintro e w' ⟨rfl, rfl⟩))
      go_ret2
      exact ⟨rfl, Below.refl _ _⟩
    obtain ⟨k, rfl⟩ := Int.eq_ofNat_of_zero_le hd.1.1
    have hk : k < n := by have := hd.1.2; omega
    have hx : 0 ≤ x4 ∧ x4 < zs[k]?.getD 0 := by have := hd.2; rwa [Int.toNat_natCast] at this
    have HD := hid (hasDigit_yes b n cap zs k x4 w h hn hk hx)
    by_cases hf : 0 ≤ x1 ∧ x1 < szL zs
    rotate_left
    · rw [cntR_out _ _ _ _ hv (fun hh => hf hh.2.1)]
      have HF := hid (hasValue_no b n cap zs x1 w h hn hv hf)
      clear h hn hv hd hf hx hk
      go_enter Try.func28, Try.ntmps28
      go_wp2_with (first | (go_at_call 64; refine (validStack_any _ _ _ zs _ H.out N.out).mono ?_; rw [V.out]; rintro e w' ⟨rfl, rfl⟩) | (go_at_call 58; refine HD.out.mono ?_; rintro e w' ⟨rfl, rfl⟩) | (go_at_call 65; refine HF.out.mono ?_; rintro e w1 ⟨rfl, hB1⟩))
      go_ret2
      exact ⟨rfl, hB1⟩
    have HF := hid (hasValue_yes b n cap zs x1 w h hn hv hf)
    by_cases ht : 0 ≤ x2 ∧ x2 < szL zs
    rotate_left
    · rw [cntR_out _ _ _ _ hv (fun hh => ht hh.2.2)]
      have HT := hid (fun (w : World) (hS : Stk w b zs) => hasValue_no b n cap zs x2 w hS hn hv ht)
      clear h hn hv hd hf hx hk ht
      go_enter Try.func28, Try.ntmps28
      go_wp2_with (first | (go_at_call 64; refine (validStack_any _ _ _ zs _ H.out N.out).mono ?_; rw [V.out]; rintro e w' ⟨rfl, rfl⟩) | (go_at_call 58; refine HD.out.mono ?_; rintro e w' ⟨rfl, rfl⟩) | (go_at_call 65; refine (HT.out _ (H.out.below hB1 hbl)).mono ?_; rintro e w2 ⟨rfl, hB2⟩) | (go_at_call 65; refine HF.out.mono ?_; rintro e w1 ⟨rfl, hB1⟩))
      go_ret2
      exact ⟨rfl, hB1.trans (hB2.mono hB1.size)⟩
    have HT := hid (fun (w : World) (hS : Stk w b zs) => hasValue_yes b n cap zs x2 w hS hn hv ht)
    by_cases hb : x2 < x1
    · rw [cntR_back _ _ _ _ hv ⟨hd, hf, ht⟩ hb]
      clear h hn hv hd hf hx hk ht
      go_enter Try.func28, Try.ntmps28
      go_wp2_with (first | (go_at_call 64; refine (validStack_any _ _ _ zs _ H.out N.out).mono ?_; rw [V.out]; rintro e w' ⟨rfl, rfl⟩) | (go_at_call 58; refine HD.out.mono ?_; rintro e w' ⟨rfl, rfl⟩) | (go_at_call 65; refine (HT.out _ (H.out.below hB1 hbl)).mono ?_; rintro e w2 ⟨rfl, hB2⟩) | (go_at_call 65; refine HF.out.mono ?_; rintro e w1 ⟨rfl, hB1⟩))
      go_ret2
      exact ⟨rfl, hB1.trans (hB2.mono hB1.size)⟩
    · rw [cntR_yes _ _ _ _ hv ⟨hd, hf, ht⟩ hb]
      have hs := (okL_out hv).2.2.2.2
      have CT := hid (fun (w : World) (hS : Stk w b zs) => countBelow_any b n cap k zs x4 (x2 + 1) w hS hn hv hk hx (by omega) (by omega))
      have CF := hid (fun (w : World) (hS : Stk w b zs) => countBelow_any b n cap k zs x4 x1 w hS hn hv hk hx (by omega) (by omega))
      obtain ⟨_, h8, hin, _, _⟩ := okL_out hv
      obtain ⟨s1, s2, s3, s4⟩ := szL_step zs k (by omega) h8 (fun j hj => hin j (by omega))
      have hzb := hin k (by omega)
      have B1 := belowF_bd (szL (zs.take k)) (zs[k]?.getD 0) x4 (x2 + 1) s1 (by omega) (by omega)
      have B2 := belowF_bd (szL (zs.take k)) (zs[k]?.getD 0) x4 x1 s1 (by omega) (by omega)
      obtain ⟨q1, hq1⟩ : ∃ q, q = belowF (szL (zs.take k)) (zs[k]?.getD 0) x4 (x2 + 1) := ⟨_, rfl⟩
      obtain ⟨q2, hq2⟩ : ∃ q, q = belowF (szL (zs.take k)) (zs[k]?.getD 0) x4 x1 := ⟨_, rfl⟩
      rw [← hq1] at CT B1
      rw [← hq2] at CF B2
      rw [← hq1, ← hq2]
      have b1 : 0 ≤ q1 ∧ q1 ≤ 20000000000000000 := by omega
      have b2 : 0 ≤ q2 ∧ q2 ≤ 20000000000000000 := by omega
      have hx2 : 0 ≤ x2 ∧ x2 ≤ 1000000000000 := by omega
      clear h hn hv hd hf hx hk ht hs hin h8 s1 s2 s3 s4 hzb B1 B2 hq1 hq2
      go_enter Try.func28, Try.ntmps28
      go_wp2_with (first | (go_at_call 64; refine (validStack_any _ _ _ zs _ H.out N.out).mono ?_; rw [V.out]; rintro e w' ⟨rfl, rfl⟩) | (go_at_call 58; refine HD.out.mono ?_; rintro e w' ⟨rfl, rfl⟩) | (go_at_call 65; refine (HT.out _ (H.out.below hB1 hbl)).mono ?_; rintro e w2 ⟨rfl, hB2⟩; have hz1 := hB1.size; have hz2 := hB2.size) | (go_at_call 65; refine HF.out.mono ?_; rintro e w1 ⟨rfl, hB1⟩))
      refine (CT.out w2 ((H.out.below hB1 hbl).below hB2 (by omega))).mono ?_
      rintro e w3 ⟨rfl, hB3⟩
      have hz3 := hB3.size
      go_wp2_with fail
      refine (CF.out w3 (((H.out.below hB1 hbl).below hB2 (by omega)).below hB3 (by omega))).mono ?_
      rintro e w4 ⟨rfl, hB4⟩
      go_wp2_with fail
      go_ret2
      exact ⟨rfl, hB1.trans ((hB2.mono (by omega)).trans ((hB3.mono (by omega)).trans (hB4.mono (by omega))))⟩

set_option maxHeartbeats 2000000 in
theorem l01Below_any (b n cap k : Nat) (zs : List Int) (x e : Int) (w : World) (h : Stk w b zs) (hn : n = zs.length) (hcap : n ≤ cap) (hv : okL zs = true) (hk : k < n) (hx : 0 ≤ x ∧ x < zs[k]?.getD 0) (he : 0 ≤ e) (he2 : e ≤ 1000000000000) :
    Calls Try.prog 63 #[.slice (some ⟨b, 0, none⟩) n cap, .int .i64 e, .int .i64 (k : Int), .int .i64 x] w fun r w' => r = .returned (.int .i64 (belowF (szL (zs.take k)) (zs[k]?.getD 0) x e)) ∧ Below w.heap.size w w' := by
  obtain ⟨_, h8, hin, _, _⟩ := okL_out hv
  have hc2 := h.2.1 k (by omega)
  have HP := hid (l01Place_any b n cap k zs w h hn hcap hv (by omega))
  obtain ⟨s1, s2, s3, s4⟩ := szL_step zs k (by omega) h8 (fun j hj => hin j (by omega))
  have hzb := hin k (by omega)
  clear h hn hv hin h8 hcap
  obtain ⟨z, hz⟩ : ∃ z, z = zs[k]?.getD 0 := ⟨_, rfl⟩
  obtain ⟨p, hp⟩ : ∃ p, p = szL (zs.take k) := ⟨_, rfl⟩
  rw [← hz] at hc2 hx hzb s3 s4
  rw [← hp] at HP s1 s2 s3 s4
  rw [← hz, ← hp]
  clear hz hp
  obtain ⟨c, hc⟩ : ∃ c, c = p * z := ⟨_, rfl⟩
  have m0 := Int.emod_nonneg e (show c ≠ 0 by omega)
  have m1 := Int.emod_lt_of_pos e (show 0 < c by omega)
  have m2 : 0 ≤ x * p := Int.mul_nonneg hx.1 (by omega)
  have m3 : x * p ≤ 100 * 10000000000000000 := Int.mul_le_mul (by omega) s2 (by omega) (by omega)
  have m4 := Int.ediv_nonneg he (show 0 ≤ c by omega)
  have m5 : 0 ≤ e / c * p := Int.mul_nonneg m4 (by omega)
  have m6 : e / c * p ≤ e / c * c := Int.mul_le_mul_of_nonneg_left (by have : p * 1 ≤ p * z := Int.mul_le_mul_of_nonneg_left (by omega) (by omega); omega) m4
  have m7 := Int.ediv_mul_le e (show c ≠ 0 by omega)
  have m8 : e / c * p ≤ 1000000000000 := by omega
  have HF : Hid (belowF p z x e = e / c * p + max 0 (min p (e % c - x * p))) := by
    unfold belowF; rw [← hc]
    exact hid (by omega)
  have HM := hid (fun w => min_any p (e % c - x * p) w)
  have HX := hid (fun w => max_any 0 (min p (e % c - x * p)) w)
  have m9 : max 0 (min p (e % c - x * p)) ≤ p ∧ 0 ≤ max 0 (min p (e % c - x * p)) := by omega
  have hcp : p * z = c := hc.symm
  have e0 : e.tdiv c = e / c := Int.tdiv_eq_ediv_of_nonneg he
  have e9 : e / c ≤ e := Int.ediv_le_self _ he
  have hc0 : c ≠ 0 := by omega
  have hc9 : 1 ≤ c ∧ c ≤ 10000000000000000 := by omega
  rw [HF.out]
  clear m6 m7 hc s3 s4
  go_enter Try.func63, Try.ntmps63
  go_wp2_with (first | (go_at_call 53; refine HP.out.mono ?_; rintro e w' ⟨rfl, rfl⟩) | (go_at_call 76; refine (HM.out _).mono ?_; rintro e w' ⟨rfl, rfl⟩) | (go_at_call 77; refine (HX.out _).mono ?_; rintro e w' ⟨rfl, rfl⟩))
  go_region_held3 (fun _ => True) (exact trivial) ((first | (go_at_call 76; refine (HM.out _).mono ?_; rintro e w' ⟨rfl, rfl⟩) | (go_at_call 77; refine (HX.out _).mono ?_; rintro e w' ⟨rfl, rfl⟩)))
  go_wp2_with fail
  go_ret
  exact ⟨by rw [IntWalk.i64_in (e / c) (by omega), IntWalk.i64_in (e / c * p) (by omega), IntWalk.i64_in _ (by omega)]; rfl, (Below.refl _ _).drew⟩

set_option maxHeartbeats 2000000 in
theorem specCountWith_any (b n cap : Nat) (zs : List Int) (x1 x2 x3 x4 : Int) (w : World) (h : Stk w b zs) (hn : n = zs.length) (hcap : n ≤ cap) :
    Calls Try.prog 27 #[.slice (some ⟨b, 0, none⟩) n cap, .int .i64 x1, .int .i64 x2, .int .i64 x3, .int .i64 x4] w fun e w' => e = .returned (.tuple #[.int .i64 (cntR zs x1 x2 x3 x4).1, .int .i64 (cntR zs x1 x2 x3 x4).2]) ∧ Below w.heap.size w w' := by
  have H := hid h; have N := hid hn
  have hn20 : n ≤ 1048576 := by rw [hn]; exact h.2.2.2
  cases hv : okL zs with
  | false =>
    rw [cntR_no _ _ _ _ hv]
    have V := hid hv
    clear h hn hv
    go_enter Try.func27, Try.ntmps27
    go_wp2_with (go_at_call 61; refine (l01Ok_any _ _ _ zs _ H.out N.out).mono ?_; rw [V.out]; rintro e w' ⟨rfl, rfl⟩)
    go_ret2
    exact ⟨rfl, Below.refl _ _⟩
  | true =>
    have V := hid hv
    by_cases hw : 0 ≤ x3 ∧ x3 < n
    rotate_left
    · rw [cntR_out _ _ _ _ hv (fun hh => hw (by have := hh.1.1; omega))]
      clear h hn hv
      go_enter Try.func27, Try.ntmps27
      go_wp2_with (first | (go_at_call 61; refine (l01Ok_any _ _ _ zs _ H.out N.out).mono ?_; rw [V.out]; rintro e w' ⟨rfl, rfl⟩) | (go_at_call 56; refine (l01Wheel_no _ _ _ hn20 _ hw _).mono ?_; rintro e w' ⟨rfl, rfl⟩))
      go_ret2
      exact ⟨rfl, Below.refl _ _⟩
    obtain ⟨k, rfl⟩ := Int.eq_ofNat_of_zero_le hw.1
    have hk : k < n := by omega
    have hcell := h.2.1 k (by omega)
    have hzb := h.2.2.1 (zs[k]?.getD 0) (by simp [show k < zs.length from by omega])
    by_cases hx : 0 ≤ x4 ∧ x4 < zs[k]?.getD 0
    rotate_left
    · rw [cntR_out _ _ _ _ hv (fun hh => hx (by have := hh.1.2; rwa [Int.toNat_natCast] at this))]
      clear h hn hv
      obtain ⟨z, hz⟩ : ∃ z, z = zs[k]?.getD 0 := ⟨_, rfl⟩
      rw [← hz] at hcell hzb hx
      clear hz
      go_enter Try.func27, Try.ntmps27
      go_wp2_with (first | (go_at_call 61; refine (l01Ok_any _ _ _ zs _ H.out N.out).mono ?_; rw [V.out]; rintro e w' ⟨rfl, rfl⟩) | (go_at_call 56; refine (l01Wheel_yes _ _ _ hn20 _ (by omega) _).mono ?_; rintro e w' ⟨rfl, rfl⟩) | (go_at_call 57; refine (inr_no _ _ _ _ (by omega)).mono ?_; rintro e w' ⟨rfl, rfl⟩))
      go_ret2
      exact ⟨rfl, Below.refl _ _⟩
    have hd : hdB zs (k : Int) x4 := ⟨by omega, by rw [Int.toNat_natCast]; exact hx⟩
    have hxk := hid hx
    have hs := okL_out hv
    have hs1 : szL zs ≤ 1000000000000 := hs.2.2.2.2
    have hs0 : 1 ≤ szL zs := by
      have := szL_bd zs zs.length (Nat.le_refl _) hs.2.2.1
      rw [List.take_length] at this
      exact this.1
    by_cases hf : 0 ≤ x1 ∧ x1 < szL zs
    rotate_left
    · rw [cntR_out _ _ _ _ hv (fun hh => hf hh.2.1)]
      clear h hn hv hd hs
      obtain ⟨z, hz⟩ : ∃ z, z = zs[k]?.getD 0 := ⟨_, rfl⟩
      rw [← hz] at hcell hzb hx
      clear hz
      go_enter Try.func27, Try.ntmps27
      go_wp2_with (first | (go_at_call 61; refine (l01Ok_any _ _ _ zs _ H.out N.out).mono ?_; rw [V.out]; rintro e w' ⟨rfl, rfl⟩) | (go_at_call 56; refine (l01Wheel_yes _ _ _ hn20 _ (by omega) _).mono ?_; rintro e w' ⟨rfl, rfl⟩) | (go_at_call 57; refine (inr_yes _ _ _ _ (by omega)).mono ?_; rintro e w' ⟨rfl, rfl⟩) | (go_at_call 57; refine (inr_no _ _ _ _ (by omega)).mono ?_; rintro e w' ⟨rfl, rfl⟩) | (go_at_call 62; refine (l01Size_ok _ _ _ zs _ H.out N.out V.out).mono ?_; rintro e w' ⟨rfl, rfl⟩))
      go_ret2
      exact ⟨rfl, Below.refl _ _⟩
    by_cases ht : 0 ≤ x2 ∧ x2 < szL zs
    rotate_left
    · rw [cntR_out _ _ _ _ hv (fun hh => ht hh.2.2)]
      clear h hn hv hd hs
      obtain ⟨z, hz⟩ : ∃ z, z = zs[k]?.getD 0 := ⟨_, rfl⟩
      rw [← hz] at hcell hzb hx
      clear hz
      go_enter Try.func27, Try.ntmps27
      go_wp2_with (first | (go_at_call 61; refine (l01Ok_any _ _ _ zs _ H.out N.out).mono ?_; rw [V.out]; rintro e w' ⟨rfl, rfl⟩) | (go_at_call 56; refine (l01Wheel_yes _ _ _ hn20 _ (by omega) _).mono ?_; rintro e w' ⟨rfl, rfl⟩) | (go_at_call 57; refine (inr_yes _ _ _ _ (by omega)).mono ?_; rintro e w' ⟨rfl, rfl⟩) | (go_at_call 57; refine (inr_no _ _ _ _ (by omega)).mono ?_; rintro e w' ⟨rfl, rfl⟩) | (go_at_call 62; refine (l01Size_ok _ _ _ zs _ H.out N.out V.out).mono ?_; rintro e w' ⟨rfl, rfl⟩))
      go_ret2
      exact ⟨rfl, Below.refl _ _⟩
    by_cases hb : x2 < x1
    · rw [cntR_back _ _ _ _ hv ⟨hd, hf, ht⟩ hb]
      clear h hn hv hd hs
      obtain ⟨z, hz⟩ : ∃ z, z = zs[k]?.getD 0 := ⟨_, rfl⟩
      rw [← hz] at hcell hzb hx
      clear hz
      go_enter Try.func27, Try.ntmps27
      go_wp2_with (first | (go_at_call 61; refine (l01Ok_any _ _ _ zs _ H.out N.out).mono ?_; rw [V.out]; rintro e w' ⟨rfl, rfl⟩) | (go_at_call 56; refine (l01Wheel_yes _ _ _ hn20 _ (by omega) _).mono ?_; rintro e w' ⟨rfl, rfl⟩) | (go_at_call 57; refine (inr_yes _ _ _ _ (by omega)).mono ?_; rintro e w' ⟨rfl, rfl⟩) | (go_at_call 57; refine (inr_no _ _ _ _ (by omega)).mono ?_; rintro e w' ⟨rfl, rfl⟩) | (go_at_call 62; refine (l01Size_ok _ _ _ zs _ H.out N.out V.out).mono ?_; rintro e w' ⟨rfl, rfl⟩))
      go_ret2
      exact ⟨rfl, Below.refl _ _⟩
    · rw [cntR_yes _ _ _ _ hv ⟨hd, hf, ht⟩ hb]
      have hbl := h.1
      have CT := hid (l01Below_any b n cap k zs x4 (x2 + 1) w h hn hcap hv hk hx (by omega) (by omega))
      have CF := hid (fun (w : World) (h : Stk w b zs) => l01Below_any b n cap k zs x4 x1 w h hn hcap hv hk hx (by omega) (by omega))
      obtain ⟨_, h8, hin, _, _⟩ := hs
      obtain ⟨s1, s2, s3, s4⟩ := szL_step zs k (by omega) h8 (fun j hj => hin j (by omega))
      have B1 := belowF_bd (szL (zs.take k)) (zs[k]?.getD 0) x4 (x2 + 1) s1 (by have := hin k (by omega); omega) (by omega)
      have B2 := belowF_bd (szL (zs.take k)) (zs[k]?.getD 0) x4 x1 s1 (by have := hin k (by omega); omega) (by omega)
      obtain ⟨q1, hq1⟩ : ∃ q, q = belowF (szL (zs.take k)) (zs[k]?.getD 0) x4 (x2 + 1) := ⟨_, rfl⟩
      obtain ⟨q2, hq2⟩ : ∃ q, q = belowF (szL (zs.take k)) (zs[k]?.getD 0) x4 x1 := ⟨_, rfl⟩
      rw [← hq1] at CT B1
      rw [← hq2] at CF B2
      rw [← hq1, ← hq2]
      have b1 : 0 ≤ q1 ∧ q1 ≤ 20000000000000000 := by omega
      have b2 : 0 ≤ q2 ∧ q2 ≤ 20000000000000000 := by omega
      have hx2 : 0 ≤ x2 ∧ x2 ≤ 1000000000000 := by omega
      clear h hn hv hd hin h8 s1 s2 s3 s4 B1 B2 hq1 hq2
      obtain ⟨z, hz⟩ : ∃ z, z = zs[k]?.getD 0 := ⟨_, rfl⟩
      rw [← hz] at hcell hzb hx
      clear hz
      go_enter Try.func27, Try.ntmps27
      go_wp2_with (first | (go_at_call 61; refine (l01Ok_any _ _ _ zs _ H.out N.out).mono ?_; rw [V.out]; rintro e w' ⟨rfl, rfl⟩) | (go_at_call 56; refine (l01Wheel_yes _ _ _ hn20 _ (by omega) _).mono ?_; rintro e w' ⟨rfl, rfl⟩) | (go_at_call 57; refine (inr_yes _ _ _ _ (by omega)).mono ?_; rintro e w' ⟨rfl, rfl⟩) | (go_at_call 57; refine (inr_no _ _ _ _ (by omega)).mono ?_; rintro e w' ⟨rfl, rfl⟩) | (go_at_call 62; refine (l01Size_ok _ _ _ zs _ H.out N.out V.out).mono ?_; rintro e w' ⟨rfl, rfl⟩))
      refine CT.out.mono ?_
      rintro e w1 ⟨rfl, hB1⟩
      have hz1 := hB1.size
      go_wp2_with fail
      refine (CF.out w1 (H.out.below hB1 hbl)).mono ?_
      rintro e w2 ⟨rfl, hB2⟩
      go_wp2_with fail
      go_ret2
      exact ⟨rfl, hB1.trans (hB2.mono (by omega))⟩
end Go.Proofs.Ytlempjbegcfilaa
