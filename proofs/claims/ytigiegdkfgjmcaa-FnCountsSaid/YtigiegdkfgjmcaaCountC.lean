/- CountWith: the answers of the program and of the model. -/
import Derived.Test.YtigiegdkfgjmcaaCount
namespace Go.Proofs.Ytigiegdkfgjmcaa
open Go.RowKit

open Classical in
noncomputable def cntR (zs : List Int) (f t k x : Int) : Int × Int :=
  if okL zs then (if hdB zs k x ∧ (0 ≤ f ∧ f < szL zs) ∧ 0 ≤ t ∧ t < szL zs then (if t < f then (0, 0) else
    (belowF (szL (zs.take k.toNat)) (zs[k.toNat]?.getD 0) x (t + 1) - belowF (szL (zs.take k.toNat)) (zs[k.toNat]?.getD 0) x f, 0)) else (0, 2)) else (0, 1)
theorem cntR_no {zs : List Int} (f t k x : Int) (h : okL zs = false) : cntR zs f t k x = (0, 1) := by simp [cntR, h]
theorem cntR_out {zs : List Int} (f t k x : Int) (h : okL zs = true) (hk : ¬ (hdB zs k x ∧ (0 ≤ f ∧ f < szL zs) ∧ 0 ≤ t ∧ t < szL zs)) : cntR zs f t k x = (0, 2) := by simp only [cntR, h, if_true, if_neg hk]
theorem cntR_back {zs : List Int} (f t k x : Int) (h : okL zs = true) (hk : hdB zs k x ∧ (0 ≤ f ∧ f < szL zs) ∧ 0 ≤ t ∧ t < szL zs) (hb : t < f) : cntR zs f t k x = (0, 0) := by simp only [cntR, h, if_true, if_pos hk, if_pos hb]
theorem cntR_yes {zs : List Int} (f t : Int) (k : Nat) (x : Int) (h : okL zs = true) (hk : hdB zs k x ∧ (0 ≤ f ∧ f < szL zs) ∧ 0 ≤ t ∧ t < szL zs) (hb : ¬ t < f) :
    cntR zs f t k x = (belowF (szL (zs.take k)) (zs[k]?.getD 0) x (t + 1) - belowF (szL (zs.take k)) (zs[k]?.getD 0) x f, 0) := by
  simp only [cntR, h, if_true, if_pos hk, if_neg hb, Int.toNat_natCast]

set_option maxHeartbeats 2000000 in
theorem implCountWith_any (b n cap : Nat) (zs : List Int) (x1 x2 x3 x4 : Int) (w : World) (h : Stk w b zs) (hn : n = zs.length) (_ : n ≤ cap) :
    Calls Try.prog 20 #[.slice (some ⟨b, 0, none⟩) n cap, .int .i64 x1, .int .i64 x2, .int .i64 x3, .int .i64 x4] w fun e w' => e = .returned (.tuple #[.int .i64 (cntR zs x1 x2 x3 x4).1, .int .i64 (cntR zs x1 x2 x3 x4).2]) ∧ Below w.heap.size w w' := by
  have H := hid h; have N := hid hn
  have hbl := h.1
  cases hv : okL zs with
  | false =>
    rw [cntR_no _ _ _ _ hv]
    have V := hid hv
    clear h hn hv
    go_enter Try.func20, Try.ntmps20
    go_wp2_with (go_at_call 48; refine (validStack_any _ _ _ zs _ H.out N.out).mono ?_; rw [V.out]; rintro e w' ⟨rfl, rfl⟩)
    go_ret2
    exact ⟨rfl, Below.refl _ _⟩
  | true =>
    have V := hid hv
    by_cases hd : hdB zs x3 x4
    rotate_left
    · rw [cntR_out _ _ _ _ hv (fun hh => hd hh.1)]
      have HD := hid (hasDigit_no b n cap zs x3 x4 w h hn hd)
      clear h hn hv hd
      go_enter Try.func20, Try.ntmps20
      go_wp2_with (first | (go_at_call 48; refine (validStack_any _ _ _ zs _ H.out N.out).mono ?_; rw [V.out]; rintro e w' ⟨rfl, rfl⟩) | (go_at_call 44; refine HD.out.mono ?_; rintro e w' ⟨rfl, rfl⟩))
      go_ret2
      exact ⟨rfl, Below.refl _ _⟩
    obtain ⟨k, rfl⟩ := Int.eq_ofNat_of_zero_le hd.1.1
    have hk : k < n := by have := hd.1.2; omega
    have hx : 0 ≤ x4 ∧ x4 < zs[k]?.getD 0 := by have := hd.2; rwa [Int.toNat_natCast] at this
    have HD := hid (hasDigit_yes b n cap zs k x4 w h hn hk hx)
    by_cases hf : 0 ≤ x1 ∧ x1 < szL zs
    rotate_left
    · rw [cntR_out _ _ _ _ hv (fun hh => hf hh.2.1)]
      have HF := hid (hasValue_no b n cap zs x1 w h hn hv hf)
      clear h hn hv hd hf hx hk
      go_enter Try.func20, Try.ntmps20
      go_wp2_with (first | (go_at_call 48; refine (validStack_any _ _ _ zs _ H.out N.out).mono ?_; rw [V.out]; rintro e w' ⟨rfl, rfl⟩) | (go_at_call 44; refine HD.out.mono ?_; rintro e w' ⟨rfl, rfl⟩) | (go_at_call 49; refine HF.out.mono ?_; rintro e w1 ⟨rfl, hB1⟩))
      go_ret2
      exact ⟨rfl, hB1⟩
    have HF := hid (hasValue_yes b n cap zs x1 w h hn hv hf)
    by_cases ht : 0 ≤ x2 ∧ x2 < szL zs
    rotate_left
    · rw [cntR_out _ _ _ _ hv (fun hh => ht hh.2.2)]
      have HT := hid (fun (w : World) (hS : Stk w b zs) => hasValue_no b n cap zs x2 w hS hn hv ht)
      clear h hn hv hd hf hx hk ht
      go_enter Try.func20, Try.ntmps20
      go_wp2_with (first | (go_at_call 48; refine (validStack_any _ _ _ zs _ H.out N.out).mono ?_; rw [V.out]; rintro e w' ⟨rfl, rfl⟩) | (go_at_call 44; refine HD.out.mono ?_; rintro e w' ⟨rfl, rfl⟩) | (go_at_call 49; refine (HT.out _ (H.out.below hB1 hbl)).mono ?_; rintro e w2 ⟨rfl, hB2⟩) | (go_at_call 49; refine HF.out.mono ?_; rintro e w1 ⟨rfl, hB1⟩))
      go_ret2
      exact ⟨rfl, hB1.trans (hB2.mono hB1.size)⟩
    have HT := hid (fun (w : World) (hS : Stk w b zs) => hasValue_yes b n cap zs x2 w hS hn hv ht)
    by_cases hb : x2 < x1
    · rw [cntR_back _ _ _ _ hv ⟨hd, hf, ht⟩ hb]
      clear h hn hv hd hf hx hk ht
      go_enter Try.func20, Try.ntmps20
      go_wp2_with (first | (go_at_call 48; refine (validStack_any _ _ _ zs _ H.out N.out).mono ?_; rw [V.out]; rintro e w' ⟨rfl, rfl⟩) | (go_at_call 44; refine HD.out.mono ?_; rintro e w' ⟨rfl, rfl⟩) | (go_at_call 49; refine (HT.out _ (H.out.below hB1 hbl)).mono ?_; rintro e w2 ⟨rfl, hB2⟩) | (go_at_call 49; refine HF.out.mono ?_; rintro e w1 ⟨rfl, hB1⟩))
      go_ret2
      exact ⟨rfl, hB1.trans (hB2.mono hB1.size)⟩
    · rw [cntR_yes _ _ _ _ hv ⟨hd, hf, ht⟩ hb]
      have hs := (okL_out hv).2.2.2.2
      have CT := hid (fun (w : World) (hS : Stk w b zs) => countBelow_any b n cap k zs x4 (x2 + 1) w hS hn hv hk hx (by omega) (by omega))
      have CF := hid (fun (w : World) (hS : Stk w b zs) => countBelow_any b n cap k zs x4 x1 w hS hn hv hk hx (by omega) (by omega))
      obtain ⟨_, h8, hin, _, _⟩ := okL_out hv
      obtain ⟨s1, s2, s3, s4⟩ := szL_step zs k (by omega) h8 (fun j hj => hin j (by omega))
      have hzb := hin k (by omega)
      have B1 := belowF_bd (szL (zs.take k)) (zs[k]?.getD 0) x4 (x2 + 1) s1 (by omega) (by omega)
      have B2 := belowF_bd (szL (zs.take k)) (zs[k]?.getD 0) x4 x1 s1 (by omega) (by omega)
      obtain ⟨q1, hq1⟩ : ∃ q, q = belowF (szL (zs.take k)) (zs[k]?.getD 0) x4 (x2 + 1) := ⟨_, rfl⟩
      obtain ⟨q2, hq2⟩ : ∃ q, q = belowF (szL (zs.take k)) (zs[k]?.getD 0) x4 x1 := ⟨_, rfl⟩
      rw [← hq1] at CT B1
      rw [← hq2] at CF B2
      rw [← hq1, ← hq2]
      have b1 : 0 ≤ q1 ∧ q1 ≤ 20000000000000000 := by omega
      have b2 : 0 ≤ q2 ∧ q2 ≤ 20000000000000000 := by omega
      have hx2 : 0 ≤ x2 ∧ x2 ≤ 1000000000000 := by omega
      clear h hn hv hd hf hx hk ht hs hin h8 s1 s2 s3 s4 hzb B1 B2 hq1 hq2
      go_enter Try.func20, Try.ntmps20
      go_wp2_with (first | (go_at_call 48; refine (validStack_any _ _ _ zs _ H.out N.out).mono ?_; rw [V.out]; rintro e w' ⟨rfl, rfl⟩) | (go_at_call 44; refine HD.out.mono ?_; rintro e w' ⟨rfl, rfl⟩) | (go_at_call 49; refine (HT.out _ (H.out.below hB1 hbl)).mono ?_; rintro e w2 ⟨rfl, hB2⟩; have hz1 := hB1.size; have hz2 := hB2.size) | (go_at_call 49; refine HF.out.mono ?_; rintro e w1 ⟨rfl, hB1⟩))
      refine (CT.out w2 ((H.out.below hB1 hbl).below hB2 (by omega))).mono ?_
      rintro e w3 ⟨rfl, hB3⟩
      have hz3 := hB3.size
      go_wp2_with fail
      refine (CF.out w3 (((H.out.below hB1 hbl).below hB2 (by omega)).below hB3 (by omega))).mono ?_
      rintro e w4 ⟨rfl, hB4⟩
      go_wp2_with fail
      go_ret2
      exact ⟨rfl, hB1.trans ((hB2.mono (by omega)).trans ((hB3.mono (by omega)).trans (hB4.mono (by omega))))⟩

end Go.Proofs.Ytigiegdkfgjmcaa
