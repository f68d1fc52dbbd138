/- NextWith: the model's answers. -/
import Derived.Test.YtigiegdkfgjmcaaNextC
import Derived.Deep.RegionHeld3
namespace Go.Proofs.Ytigiegdkfgjmcaa
open Go.RowKit

set_option maxRecDepth 100000 in
set_option maxHeartbeats 4000000 in
theorem specNextWith_any (b n cap : Nat) (zs : List Int) (d0 d1 d2 d3 d4 d5 d6 d7 x2 x3 : Int) (w : World) (h : Stk w b zs) (hn : n = zs.length) (hc : n ≤ cap) (ho : Oct d0 d1 d2 d3 d4 d5 d6 d7) :
    Calls Try.prog 19 #[.slice (some ⟨b, 0, none⟩) n cap, .agg #[.int .u8 d0, .int .u8 d1, .int .u8 d2, .int .u8 d3, .int .u8 d4, .int .u8 d5, .int .u8 d6, .int .u8 d7], .int .i64 x2, .int .i64 x3] w fun e w' => e = .returned (.tuple #[.int .i64 (nxtR zs [d0, d1, d2, d3, d4, d5, d6, d7] x2 x3).1, .int .i64 (nxtR zs [d0, d1, d2, d3, d4, d5, d6, d7] x2 x3).2]) ∧ Below w.heap.size w w' := by
  have N := hid hn; have HO := hid ho
  have hn20 : n ≤ 1048576 := by rw [hn]; exact h.2.2.2
  have hB0 : Below w.heap.size w (w.alloc (.cells #[.int .u8 d0, .int .u8 d1, .int .u8 d2, .int .u8 d3, .int .u8 d4, .int .u8 d5, .int .u8 d6, .int .u8 d7] 28)) := (Below.refl w.heap.size w).alloc (Nat.le_refl _) _
  have H1 := hid (h.below hB0 h.1)
  have hbl := h.1
  have oc := Oc.new w 28 d0 d1 d2 d3 d4 d5 d6 d7
  clear h ho
  have step : ∀ (v : Bool), okV zs [d0, d1, d2, d3, d4, d5, d6, d7] = v → Calls Try.prog 36 #[.slice (some ⟨b, 0, none⟩) n cap, .agg #[.int .u8 d0, .int .u8 d1, .int .u8 d2, .int .u8 d3, .int .u8 d4, .int .u8 d5, .int .u8 d6, .int .u8 d7]] (w.alloc (.cells #[.int .u8 d0, .int .u8 d1, .int .u8 d2, .int .u8 d3, .int .u8 d4, .int .u8 d5, .int .u8 d6, .int .u8 d7] 28)) fun e w' => e = .returned (.bool v) ∧ Below (w.heap.size + 1) (w.alloc (.cells #[.int .u8 d0, .int .u8 d1, .int .u8 d2, .int .u8 d3, .int .u8 d4, .int .u8 d5, .int .u8 d6, .int .u8 d7] 28)) w' := fun v hv => by
    have hX := specValidDigits_any _ n cap zs d0 d1 d2 d3 d4 d5 d6 d7 _ H1.out N.out HO.out
    rw [hv, World.size_alloc] at hX
    exact hX
  cases hv : okV zs [d0, d1, d2, d3, d4, d5, d6, d7] with
  | false =>
    rw [nxtR_no x2 x3 hv]
    have hX := hid (step _ hv)
    clear hv hn step
    go_enter Try.func19, Try.ntmps19
    go_wp2_with fail
    refine hX.out.mono ?_
    clear hX
    rintro e w1 ⟨rfl, hB1⟩
    go_wp2_with fail
    go_ret2
    exact ⟨rfl, hB0.trans (hB1.mono (by omega))⟩
  | true =>
    have hX := hid (step _ hv)
    by_cases hw : 0 ≤ x2 ∧ x2 < n
    rotate_left
    · rw [nxtR_out x2 x3 hv (fun hh => hw (by have := hh.1; omega))]
      clear hv hn step
      go_enter Try.func19, Try.ntmps19
      go_wp2_with fail
      refine hX.out.mono ?_
      clear hX
      rintro e w1 ⟨rfl, hB1⟩
      go_wp2_with (go_at_call 47; refine (l01Wheel_no _ _ _ hn20 _ hw _).mono ?_; rintro e w' ⟨rfl, rfl⟩)
      go_ret2
      exact ⟨rfl, hB0.trans (hB1.mono (by omega))⟩
    obtain ⟨k, rfl⟩ := Int.eq_ofNat_of_zero_le hw.1
    have hk : k < n := by omega
    have hkn : k ≤ n := by omega
    have hkc : k ≤ cap := by omega
    have V := hid hv
    obtain ⟨hv1, hv2⟩ := okV_out hv
    have V1 := hid hv1
    obtain ⟨_, h8, hin, _, _⟩ := okL_out hv1
    have hzb := hin k (by omega)
    have hk8 : k < 8 := by omega
    have S0 := H1.out.2.1 k (by omega)
    by_cases hx : 0 ≤ x3 ∧ x3 < zs[k]?.getD 0
    rotate_left
    · rw [nxtR_out _ x3 hv (fun hh => hx (by have := hh.2; rwa [Int.toNat_natCast] at this))]
      obtain ⟨z, hz⟩ : ∃ z, z = zs[k]?.getD 0 := ⟨_, rfl⟩
      rw [← hz] at S0 hzb hx
      clear hv hn step hz hin hv1 hv2
      go_enter Try.func19, Try.ntmps19
      go_wp2_with fail
      refine hX.out.mono ?_
      clear hX
      rintro e w1 ⟨rfl, hB1⟩
      have hsc := (hB1.cell (p := ⟨b, k, none⟩) (by show b < _; omega)).trans S0
      clear S0
      go_wp2_with (first | (go_at_call 47; refine (l01Wheel_yes _ _ _ hn20 _ (by omega) _).mono ?_; rintro e w' ⟨rfl, rfl⟩) | (go_at_call 27; refine (inr_no _ _ _ _ (by omega)).mono ?_; rintro e w' ⟨rfl, rfl⟩))
      go_ret2
      exact ⟨rfl, hB0.trans (hB1.mono (by omega))⟩
    have hd : hdB zs (k : Int) x3 := ⟨by omega, by rw [Int.toNat_natCast]; exact hx⟩
    have hlt := okD_lt hv2 h8 (fun j hj => (oct_bd HO.out j hj).1)
    by_cases hsame : ([d0, d1, d2, d3, d4, d5, d6, d7] : List Int)[k]?.getD 0 = x3
    · rw [nxtR_same k x3 hv hd hsame]
      have hdb := oct_bd HO.out k hk8
      rw [hsame] at hdb
      obtain ⟨z, hz⟩ : ∃ z, z = zs[k]?.getD 0 := ⟨_, rfl⟩
      rw [← hz] at S0 hzb hx
      clear hv hn step hd hv1 hv2 hin hlt h8 hz
      go_enter Try.func19, Try.ntmps19
      go_wp2_with fail
      refine hX.out.mono ?_
      clear hX
      rintro e w1 ⟨rfl, hB1⟩
      have hcell := (oc.below hB1 (by omega)).cell k hk8
      rw [hsame] at hcell
      have hsc := (hB1.cell (p := ⟨b, k, none⟩) (by show b < _; omega)).trans S0
      clear hsame S0
      go_wp2_with (first | (go_at_call 47; refine (l01Wheel_yes _ _ _ hn20 _ (by omega) _).mono ?_; rintro e w' ⟨rfl, rfl⟩) | (go_at_call 27; refine (inr_yes _ _ _ _ (by omega)).mono ?_; rintro e w' ⟨rfl, rfl⟩))
      go_ret2
      exact ⟨rfl, hB0.trans (hB1.mono (by omega))⟩
    rw [nxtR_yes k x3 hv hd hsame]
    obtain ⟨p, z, d, low, V2, c, ep, ez, ed, el, eV, ec, ecp, bp, bz, bd, bl, bV, bc, bx, hmod⟩ := nxt_facts k x3 hv1 hlt (by omega) hx
    have hne : ¬ d = x3 := by rw [ed]; exact hsame
    have hm := hmod hne
    have m0 := Int.emod_nonneg (x3 * p - V2) (show c ≠ 0 by omega)
    have m1 := Int.emod_lt_of_pos (x3 * p - V2) (show 0 < c by omega)
    rw [hm] at m0 m1
    have HP := hid (fun (w : World) (hS : Stk w b zs) => l01Place_any b n cap k zs w hS hn hc hv1 (by omega))
    rw [← ep, ← ez, ← ed, ← el]
    rw [← ep] at HP
    rw [← ez] at S0 hzb hx
    have hdx : (d == x3) = false := by simp; exact hne
    have ed2 := hid ed
    have el2 := hid el
    by_cases hlo : x3 - d < 0
    · rw [if_pos hlo] at m0 m1 ⊢
      have hlo1 : decide (x3 - d < 0) = true := by simp; omega
      have hlo2 : x3 < d := by omega
      have hlo3 : decide (x3 < d) = true := by simp; omega
      obtain ⟨g, hg⟩ : ∃ g, g = (x3 - d + z) * p := ⟨_, rfl⟩
      have hg2 : (x3 - d + z) * p = g := hg.symm
      rw [← hg] at m0 m1 ⊢
      have hg3 : 0 ≤ g ∧ g ≤ 20000000000000000 := by omega
      clear hv hn step hd hv1 hv2 hin hlt h8 hsame hmod ep ez ed el eV ec ecp hm hg bx bV
      go_enter Try.func19, Try.ntmps19
      go_wp2_with fail
      refine hX.out.mono ?_
      clear hX
      rintro e w1 ⟨rfl, hB1⟩
      have hz1 := hB1.size
      simp only [World.size_alloc] at hz1
      have oc1 := oc.below hB1 (by omega)
      have oc1d : Oc w1.drew w.heap.size d0 d1 d2 d3 d4 d5 d6 d7 := oc1
      have hcell := oc1.cell k hk8
      rw [← ed2.out] at hcell
      have S1 := H1.out.below hB1 (by omega)
      have hsc := (hB1.cell (p := ⟨b, k, none⟩) (by show b < _; omega)).trans S0
      clear S0
      obtain ⟨f0, f1, f2, f3, f4, f5, f6, f7⟩ := oc1
      go_wp2_with (first | (go_at_call 47; refine (l01Wheel_yes _ _ _ hn20 _ (by omega) _).mono ?_; rintro e w' ⟨rfl, rfl⟩) | (go_at_call 27; refine (inr_yes _ _ _ _ (by omega)).mono ?_; rintro e w' ⟨rfl, rfl⟩) | (go_at_call 41; refine (HP.out _ S1).mono ?_; rintro e w' ⟨rfl, rfl⟩))
      go_region_held3 (fun w' => w'.cell? ⟨w.heap.size, 0, none⟩ = some (.int .u8 d0) ∧ w'.cell? ⟨w.heap.size, 1, none⟩ = some (.int .u8 d1) ∧ w'.cell? ⟨w.heap.size, 2, none⟩ = some (.int .u8 d2) ∧ w'.cell? ⟨w.heap.size, 3, none⟩ = some (.int .u8 d3) ∧ w'.cell? ⟨w.heap.size, 4, none⟩ = some (.int .u8 d4) ∧ w'.cell? ⟨w.heap.size, 5, none⟩ = some (.int .u8 d5) ∧ w'.cell? ⟨w.heap.size, 6, none⟩ = some (.int .u8 d6) ∧ w'.cell? ⟨w.heap.size, 7, none⟩ = some (.int .u8 d7)) (first | exact ⟨oc2.1, oc2.2.1, oc2.2.2.1, oc2.2.2.2.1, oc2.2.2.2.2.1, oc2.2.2.2.2.2.1, oc2.2.2.2.2.2.2.1, oc2.2.2.2.2.2.2.2⟩ | exact ⟨oc1d.1, oc1d.2.1, oc1d.2.2.1, oc1d.2.2.2.1, oc1d.2.2.2.2.1, oc1d.2.2.2.2.2.1, oc1d.2.2.2.2.2.2.1, oc1d.2.2.2.2.2.2.2⟩)
        ((first | (go_at_call 40; have hX := l01Value_ok b k cap zs d0 d1 d2 d3 d4 d5 d6 d7 HO.out V.out (by rw [← N.out]; exact hkn) w1.drew (S1.below (Below.refl _ w1).drew S1.1); rw [← el2.out] at hX; refine hX.mono ?_; clear hX; rintro e w2 ⟨rfl, hB2⟩; have oc2 := oc1d.below hB2 (by simp; omega))))
      go_wp2_with fail
      go_ret2
      exact ⟨by rw [IntWalk.i64_in g (by omega), IntWalk.i64_in (g - low) (by omega)]; rfl, hB0.trans ((hB1.mono (by omega)).trans (((Below.refl w.heap.size w1).drew).trans (hB2.mono (by simp; omega))))⟩
    · rw [if_neg hlo] at m0 m1 ⊢
      have hlo1 : decide (x3 - d < 0) = false := by simp; omega
      have hlo2 : d ≤ x3 := by omega
      have hlo3 : decide (x3 < d) = false := by simp; omega
      obtain ⟨g, hg⟩ : ∃ g, g = (x3 - d) * p := ⟨_, rfl⟩
      have hg2 : (x3 - d) * p = g := hg.symm
      rw [← hg] at m0 m1 ⊢
      have hg3 : 0 ≤ g ∧ g ≤ 20000000000000000 := by omega
      clear hv hn step hd hv1 hv2 hin hlt h8 hsame hmod ep ez ed el eV ec ecp hm hg bx bV
      go_enter Try.func19, Try.ntmps19
      go_wp2_with fail
      refine hX.out.mono ?_
      clear hX
      rintro e w1 ⟨rfl, hB1⟩
      have hz1 := hB1.size
      simp only [World.size_alloc] at hz1
      have oc1 := oc.below hB1 (by omega)
      have oc1d : Oc w1.drew w.heap.size d0 d1 d2 d3 d4 d5 d6 d7 := oc1
      have hcell := oc1.cell k hk8
      rw [← ed2.out] at hcell
      have S1 := H1.out.below hB1 (by omega)
      have hsc := (hB1.cell (p := ⟨b, k, none⟩) (by show b < _; omega)).trans S0
      clear S0
      obtain ⟨f0, f1, f2, f3, f4, f5, f6, f7⟩ := oc1
      go_wp2_with (first | (go_at_call 47; refine (l01Wheel_yes _ _ _ hn20 _ (by omega) _).mono ?_; rintro e w' ⟨rfl, rfl⟩) | (go_at_call 27; refine (inr_yes _ _ _ _ (by omega)).mono ?_; rintro e w' ⟨rfl, rfl⟩) | (go_at_call 41; refine (HP.out _ S1).mono ?_; rintro e w' ⟨rfl, rfl⟩))
      go_region_held3 (fun w' => w'.cell? ⟨w.heap.size, 0, none⟩ = some (.int .u8 d0) ∧ w'.cell? ⟨w.heap.size, 1, none⟩ = some (.int .u8 d1) ∧ w'.cell? ⟨w.heap.size, 2, none⟩ = some (.int .u8 d2) ∧ w'.cell? ⟨w.heap.size, 3, none⟩ = some (.int .u8 d3) ∧ w'.cell? ⟨w.heap.size, 4, none⟩ = some (.int .u8 d4) ∧ w'.cell? ⟨w.heap.size, 5, none⟩ = some (.int .u8 d5) ∧ w'.cell? ⟨w.heap.size, 6, none⟩ = some (.int .u8 d6) ∧ w'.cell? ⟨w.heap.size, 7, none⟩ = some (.int .u8 d7)) (first | exact ⟨oc2.1, oc2.2.1, oc2.2.2.1, oc2.2.2.2.1, oc2.2.2.2.2.1, oc2.2.2.2.2.2.1, oc2.2.2.2.2.2.2.1, oc2.2.2.2.2.2.2.2⟩ | exact ⟨oc1d.1, oc1d.2.1, oc1d.2.2.1, oc1d.2.2.2.1, oc1d.2.2.2.2.1, oc1d.2.2.2.2.2.1, oc1d.2.2.2.2.2.2.1, oc1d.2.2.2.2.2.2.2⟩)
        ((first | (go_at_call 40; have hX := l01Value_ok b k cap zs d0 d1 d2 d3 d4 d5 d6 d7 HO.out V.out (by rw [← N.out]; exact hkn) w1.drew (S1.below (Below.refl _ w1).drew S1.1); rw [← el2.out] at hX; refine hX.mono ?_; clear hX; rintro e w2 ⟨rfl, hB2⟩; have oc2 := oc1d.below hB2 (by simp; omega))))
      go_wp2_with fail
      go_ret2
      exact ⟨by rw [IntWalk.i64_in g (by omega), IntWalk.i64_in (g - low) (by omega)]; rfl, hB0.trans ((hB1.mono (by omega)).trans (((Below.refl w.heap.size w1).drew).trans (hB2.mono (by simp; omega))))⟩
end Go.Proofs.Ytigiegdkfgjmcaa
