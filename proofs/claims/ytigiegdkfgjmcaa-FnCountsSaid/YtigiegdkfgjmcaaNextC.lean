/- NextWith: rounding down, and the answers of the program and of the model. -/
import Derived.Test.YtigiegdkfgjmcaaFloor
import Derived.Test.YtigiegdkfgjmcaaCount
import Derived.Test.YtigiegdkfgjmcaaVals
import Derived.Test.YtigiegdkfgjmcaaLawsD
namespace Go.Proofs.Ytigiegdkfgjmcaa
open Go.RowKit

open Classical in
noncomputable def nxtR (zs ds : List Int) (k x : Int) : Int × Int :=
  if okV zs ds then (if hdB zs k x then (if ds[k.toNat]?.getD 0 = x then (0, 0) else
    ((if x - ds[k.toNat]?.getD 0 < 0 then x - ds[k.toNat]?.getD 0 + zs[k.toNat]?.getD 0 else x - ds[k.toNat]?.getD 0) * szL (zs.take k.toNat) - valL zs ds k.toNat, 0)) else (0, 2)) else (0, 1)
theorem nxtR_no {zs ds : List Int} (k x : Int) (h : okV zs ds = false) : nxtR zs ds k x = (0, 1) := by simp [nxtR, h]
theorem nxtR_out {zs ds : List Int} (k x : Int) (h : okV zs ds = true) (hk : ¬ hdB zs k x) : nxtR zs ds k x = (0, 2) := by simp only [nxtR, h, if_true, if_neg hk]
theorem nxtR_same {zs ds : List Int} (k : Nat) (x : Int) (h : okV zs ds = true) (hk : hdB zs k x) (hx : ds[k]?.getD 0 = x) : nxtR zs ds k x = (0, 0) := by simp only [nxtR, h, if_true, if_pos hk, Int.toNat_natCast, if_pos hx]
theorem nxtR_yes {zs ds : List Int} (k : Nat) (x : Int) (h : okV zs ds = true) (hk : hdB zs k x) (hx : ¬ ds[k]?.getD 0 = x) :
    nxtR zs ds k x = ((if x - ds[k]?.getD 0 < 0 then x - ds[k]?.getD 0 + zs[k]?.getD 0 else x - ds[k]?.getD 0) * szL (zs.take k) - valL zs ds k, 0) := by simp only [nxtR, h, if_true, if_pos hk, Int.toNat_natCast, if_neg hx]

theorem horn_any {zs ds : List Int} {n : Nat} (hn : n ≤ zs.length) (hi : inB zs n) (hl : ltTo zs ds n) : ∀ j k, k + j = n → ∃ g, horn zs ds n k g
  | 0, k, hk => ⟨0, Int.le_refl _, by obtain rfl : k = n := by omega
                                      omega⟩
  | j + 1, k, hk => by
    obtain ⟨g, hg⟩ := horn_any hn hi hl j (k + 1) (by omega)
    exact ⟨_, horn_step hg (by omega) hn hi hl⟩
theorem nxt_mod (g p z x d low : Int) (hp : 1 ≤ p) (hz : 2 ≤ z) (hx : 0 ≤ x ∧ x < z) (hd : 0 ≤ d ∧ d < z) (hl : 0 ≤ low ∧ low < p) (hxd : ¬ d = x) :
    (x * p - (g * (p * z) + (low + d * p))) % (p * z) = (if x - d < 0 then x - d + z else x - d) * p - low := by
  have hc : 0 < p * z := Int.mul_pos (by omega) (by omega)
  by_cases h : x - d < 0
  · rw [if_pos h]
    have a1 : 1 * p ≤ (x - d + z) * p := Int.mul_le_mul_of_nonneg_right (by omega) (by omega)
    have a2 : (x - d + z) * p ≤ (z - 1) * p := Int.mul_le_mul_of_nonneg_right (by omega) (by omega)
    have a3 : (z - 1) * p = p * z - p := by rw [Int.sub_mul, Int.mul_comm z p]; omega
    refine ((Int.ediv_emod_unique (q := -g - 1) hc).2 ⟨?_, by omega, by omega⟩).2
    rw [Int.mul_sub, Int.mul_neg, Int.add_mul, Int.sub_mul, Int.mul_comm z p, Int.mul_comm (p * z) g]
    omega
  · rw [if_neg h]
    have a1 : 1 * p ≤ (x - d) * p := Int.mul_le_mul_of_nonneg_right (by omega) (by omega)
    have a2 : (x - d) * p ≤ (z - 1) * p := Int.mul_le_mul_of_nonneg_right (by omega) (by omega)
    have a3 : (z - 1) * p = p * z - p := by rw [Int.sub_mul, Int.mul_comm z p]; omega
    refine ((Int.ediv_emod_unique (q := -g) hc).2 ⟨?_, by omega, by omega⟩).2
    rw [Int.mul_neg, Int.sub_mul, Int.mul_comm (p * z) g]
    omega
/-- the numbers that NextWith reckons with, and their bounds -/
theorem nxt_facts {zs ds : List Int} (k : Nat) (x : Int) (hv : okL zs = true) (hl : ltTo zs ds zs.length) (hk : k < zs.length) (hx : 0 ≤ x ∧ x < zs[k]?.getD 0) :
    ∃ p z d low V c : Int, p = szL (zs.take k) ∧ z = zs[k]?.getD 0 ∧ d = ds[k]?.getD 0 ∧ low = valL zs ds k ∧ V = valL zs ds zs.length ∧ c = szL (zs.take (k + 1)) ∧ c = p * z ∧
      (1 ≤ p ∧ p ≤ 10000000000000000) ∧ (2 ≤ z ∧ z ≤ 100) ∧ (0 ≤ d ∧ d < z) ∧ (0 ≤ low ∧ low < p) ∧ (0 ≤ V ∧ V ≤ 1000000000000) ∧ (1 ≤ c ∧ c ≤ 10000000000000000) ∧
      (0 ≤ x * p ∧ x * p ≤ 1000000000000000000) ∧
      (¬ d = x → (x * p - V) % c = (if x - d < 0 then x - d + z else x - d) * p - low) := by
  obtain ⟨_, h8, hin, _, hs⟩ := okL_out hv
  obtain ⟨s1, s2, s3, s4⟩ := szL_step zs k hk h8 (fun j hj => hin j (by omega))
  have hzb := hin k hk
  have b1 := valL_bd zs ds k (by omega) (fun j hj => hin j (by omega)) (fun j hj => hl j (by omega))
  have b2 := valL_bd zs ds zs.length (Nat.le_refl _) hin hl
  rw [List.take_length] at b2
  obtain ⟨g, hg⟩ := horn_any (Nat.le_refl _) hin hl (zs.length - (k + 1)) (k + 1) (by omega)
  have hg2 := hg.2
  have hT := szL_take zs k hk
  have hdl := hl k hk
  have m2 : 0 ≤ x * szL (zs.take k) := Int.mul_nonneg hx.1 (by omega)
  have m3 : x * szL (zs.take k) ≤ 100 * 10000000000000000 := Int.mul_le_mul (by omega) s2 (by omega) (by omega)
  refine ⟨_, _, _, _, _, _, rfl, rfl, rfl, rfl, rfl, rfl, hT, ⟨s1, s2⟩, hzb, hdl, b1, by omega, by rw [hT]; exact ⟨s3, s4⟩, ⟨m2, by omega⟩, fun hne => ?_⟩
  have := nxt_mod g (szL (zs.take k)) (zs[k]?.getD 0) x (ds[k]?.getD 0) (valL zs ds k) s1 hzb.1 hx hdl b1 hne
  rw [hT, hg2, hT]
  exact this
theorem Oc.cell {w : World} {g : Nat} {d0 d1 d2 d3 d4 d5 d6 d7 : Int} (h : Oc w g d0 d1 d2 d3 d4 d5 d6 d7) (k : Nat) (hk : k < 8) : w.cell? ⟨g, k, none⟩ = some (.int .u8 (([d0, d1, d2, d3, d4, d5, d6, d7] : List Int)[k]?.getD 0)) := by
  obtain ⟨f0, f1, f2, f3, f4, f5, f6, f7⟩ := h
  have q : k = 0 ∨ k = 1 ∨ k = 2 ∨ k = 3 ∨ k = 4 ∨ k = 5 ∨ k = 6 ∨ k = 7 := by omega
  rcases q with rfl | rfl | rfl | rfl | rfl | rfl | rfl | rfl <;> assumption

set_option maxRecDepth 100000 in
set_option maxHeartbeats 4000000 in
theorem implNextWith_any (b n cap : Nat) (zs : List Int) (d0 d1 d2 d3 d4 d5 d6 d7 x2 x3 : Int) (w : World) (h : Stk w b zs) (hn : n = zs.length) (_ : n ≤ cap) (ho : Oct d0 d1 d2 d3 d4 d5 d6 d7) :
    Calls Try.prog 18 #[.slice (some ⟨b, 0, none⟩) n cap, .agg #[.int .u8 d0, .int .u8 d1, .int .u8 d2, .int .u8 d3, .int .u8 d4, .int .u8 d5, .int .u8 d6, .int .u8 d7], .int .i64 x2, .int .i64 x3] w fun e w' => e = .returned (.tuple #[.int .i64 (nxtR zs [d0, d1, d2, d3, d4, d5, d6, d7] x2 x3).1, .int .i64 (nxtR zs [d0, d1, d2, d3, d4, d5, d6, d7] x2 x3).2]) ∧ Below w.heap.size w w' := by
  have N := hid hn; have HO := hid ho
  have hB0 : Below w.heap.size w (w.alloc (.cells #[.int .u8 d0, .int .u8 d1, .int .u8 d2, .int .u8 d3, .int .u8 d4, .int .u8 d5, .int .u8 d6, .int .u8 d7] 28)) := (Below.refl w.heap.size w).alloc (Nat.le_refl _) _
  have H1 := hid (h.below hB0 h.1)
  have hbl := h.1
  have oc := Oc.new w 28 d0 d1 d2 d3 d4 d5 d6 d7
  clear h ho
  have step : ∀ (v : Bool), okV zs [d0, d1, d2, d3, d4, d5, d6, d7] = v → Calls Try.prog 29 #[.slice (some ⟨b, 0, none⟩) n cap, .agg #[.int .u8 d0, .int .u8 d1, .int .u8 d2, .int .u8 d3, .int .u8 d4, .int .u8 d5, .int .u8 d6, .int .u8 d7]] (w.alloc (.cells #[.int .u8 d0, .int .u8 d1, .int .u8 d2, .int .u8 d3, .int .u8 d4, .int .u8 d5, .int .u8 d6, .int .u8 d7] 28)) fun e w' => e = .returned (.bool v) ∧ Below (w.heap.size + 1) (w.alloc (.cells #[.int .u8 d0, .int .u8 d1, .int .u8 d2, .int .u8 d3, .int .u8 d4, .int .u8 d5, .int .u8 d6, .int .u8 d7] 28)) w' := fun v hv => by
    have hX := validDigits_any _ n cap zs d0 d1 d2 d3 d4 d5 d6 d7 _ H1.out N.out HO.out
    rw [hv, World.size_alloc] at hX
    exact hX
  cases hv : okV zs [d0, d1, d2, d3, d4, d5, d6, d7] with
  | false =>
    rw [nxtR_no x2 x3 hv]
    have hX := hid (step _ hv)
    clear hv hn step
    go_enter Try.func18, Try.ntmps18
    go_wp2_with fail
    refine hX.out.mono ?_
    clear hX
    rintro e w1 ⟨rfl, hB1⟩
    go_wp2_with fail
    go_ret2
    exact ⟨rfl, hB0.trans (hB1.mono (by omega))⟩
  | true =>
    have hX := hid (step _ hv)
    by_cases hd : hdB zs x2 x3
    rotate_left
    · rw [nxtR_out x2 x3 hv hd]
      have HD := hid (fun (w : World) (hS : Stk w b zs) => hasDigit_no b n cap zs x2 x3 w hS hn hd)
      clear hv hn step hd
      go_enter Try.func18, Try.ntmps18
      go_wp2_with fail
      refine hX.out.mono ?_
      clear hX
      rintro e w1 ⟨rfl, hB1⟩
      go_wp2_with fail
      refine (HD.out w1 (H1.out.below hB1 (by omega))).mono ?_
      rintro e w' ⟨rfl, rfl⟩
      go_wp2_with fail
      go_ret2
      exact ⟨rfl, hB0.trans (hB1.mono (by omega))⟩
    obtain ⟨k, rfl⟩ := Int.eq_ofNat_of_zero_le hd.1.1
    have hk : k < n := by have := hd.1.2; omega
    have hx : 0 ≤ x3 ∧ x3 < zs[k]?.getD 0 := by have := hd.2; rwa [Int.toNat_natCast] at this
    have HD := hid (fun (w : World) (hS : Stk w b zs) => hasDigit_yes b n cap zs k x3 w hS hn hk hx)
    have V := hid hv
    obtain ⟨hv1, hv2⟩ := okV_out hv
    obtain ⟨_, h8, hin, _, _⟩ := okL_out hv1
    have hlt := okD_lt hv2 h8 (fun j hj => (oct_bd HO.out j hj).1)
    have hk8 : k < 8 := by omega
    by_cases hsame : ([d0, d1, d2, d3, d4, d5, d6, d7] : List Int)[k]?.getD 0 = x3
    · rw [nxtR_same k x3 hv hd hsame]
      have hdb := oct_bd HO.out k hk8
      rw [hsame] at hdb
      clear hv hn step hd hv1 hv2 hin hlt h8 hx
      go_enter Try.func18, Try.ntmps18
      go_wp2_with fail
      refine hX.out.mono ?_
      clear hX
      rintro e w1 ⟨rfl, hB1⟩
      have hcell := (oc.below hB1 (by omega)).cell k hk8
      rw [hsame] at hcell
      clear hsame
      go_wp2_with fail
      refine (HD.out w1 (H1.out.below hB1 (by omega))).mono ?_
      rintro e w' ⟨rfl, rfl⟩
      go_wp2_with fail
      go_ret2
      exact ⟨rfl, hB0.trans (hB1.mono (by omega))⟩
    · rw [nxtR_yes k x3 hv hd hsame]
      have HP := hid (fun (w : World) (hS : Stk w b zs) => place_any b n cap k zs hn (by omega) (by rw [hn]; exact hin) hk w hS)
      have HC := hid (fun (w : World) (hS : Stk w b zs) => cycle_any b n cap k zs hn (by omega) (by rw [hn]; exact hin) hk w hS)
      have HV := hid (fun (w : World) (hS : Stk w b zs) => value_any b n cap zs d0 d1 d2 d3 d4 d5 d6 d7 HO.out hv (by omega) w hS)
      rw [hn] at HV
      rw [← hn] at HV
      obtain ⟨p, z, d, low, V2, c, ep, ez, ed, el, eV, ec, ecp, bp, bz, bd, bl, bV, bc, bx, hmod⟩ := nxt_facts k x3 hv1 hlt (by omega) hx
      have hne : ¬ d = x3 := by rw [ed]; exact hsame
      have hm := hid (hmod hne)
      rw [← ep, ← ez, ← ed, ← el]
      rw [← ep] at HP
      rw [← ec] at HC
      rw [hn, ← eV, ← hn] at HV
      have FM := hid (fun w => floorMod_any (x3 * p - V2) c (by omega) bc w)
      rw [hm.out] at FM
      have hdx : (d == x3) = false := by simp; exact hne
      have ed2 := hid ed
      have hb2 : 0 ≤ x3 ∧ x3 < 100 := by omega
      obtain ⟨R, eR⟩ : ∃ R, R = (if x3 - d < 0 then x3 - d + z else x3 - d) * p - low := ⟨_, rfl⟩
      rw [← eR] at FM
      rw [← eR]
      clear hv hn step hd hv1 hv2 hin hlt h8 hx hsame hmod ep ez ed el eV ec ecp hm eR
      go_enter Try.func18, Try.ntmps18
      go_wp2_with fail
      refine hX.out.mono ?_
      clear hX
      rintro e w1 ⟨rfl, hB1⟩
      have hz1 := hB1.size
      simp only [World.size_alloc] at hz1
      have oc1 := oc.below hB1 (by omega)
      have hcell := oc1.cell k hk8
      rw [← ed2.out] at hcell
      have S1 := H1.out.below hB1 (by omega)
      go_wp2_with fail
      refine (HD.out w1 S1).mono ?_
      rintro e w' ⟨rfl, rfl⟩
      go_wp2_with fail
      refine (HP.out w1 S1).mono ?_
      rintro e w2 ⟨rfl, hB2⟩
      have hz2 := hB2.size
      have S2 := S1.below hB2 (by omega)
      have oc2 := oc1.below hB2 (by omega)
      go_wp2_with fail
      refine (HC.out w2 S2).mono ?_
      rintro e w3 ⟨rfl, hB3⟩
      have hz3 := hB3.size
      have S3 := S2.below hB3 (by omega)
      have oc3 := oc2.below hB3 (by omega)
      obtain ⟨f0, f1, f2, f3, f4, f5, f6, f7⟩ := oc3
      go_wp2_with fail
      refine (HV.out w3 S3).mono ?_
      rintro e w4 ⟨rfl, hB4⟩
      go_wp2_with fail
      refine (FM.out w4).mono ?_
      rintro e w' ⟨rfl, rfl⟩
      go_wp2_with fail
      go_ret2
      exact ⟨rfl, hB0.trans ((hB1.mono (by omega)).trans ((hB2.mono (by omega)).trans ((hB3.mono (by omega)).trans (hB4.mono (by omega)))))⟩
end Go.Proofs.Ytigiegdkfgjmcaa
