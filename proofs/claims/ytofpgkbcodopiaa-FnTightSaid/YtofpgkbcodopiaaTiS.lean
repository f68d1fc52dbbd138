/- The tightest flow; the model's. -/
import Derived.Test.YtofpgkbcodopiaaTiI
import Derived.Test.YtofpgkbcodopiaaCount
import Derived.OrdersHeld
import Derived.Deep.RegionHeld3
namespace Go.Proofs.Ytofpgkbcodopiaa
open Go.RowKit
set_option linter.unusedVariables false
set_option linter.unusedSimpArgs false
def C4 (W : World) (b k c : Nat) (a u a' u' : Int) : Prop :=
  b < W.heap.size ∧ W.cell? ⟨b, k * 2, none⟩ = some (.int .i64 a) ∧ W.cell? ⟨b, k * 2 + 1, none⟩ = some (.int .i64 u) ∧ W.cell? ⟨b, c * 2, none⟩ = some (.int .i64 a') ∧ W.cell? ⟨b, c * 2 + 1, none⟩ = some (.int .i64 u')
theorem C4.below {W W' : World} {b k c n : Nat} {a u a' u' : Int} (h : C4 W b k c a u a' u') (hb : Below n W W') (hn : b < n) : C4 W' b k c a u a' u' :=
  ⟨Nat.lt_of_lt_of_le h.1 hb.size, (hb.cell (p := ⟨b, k * 2, none⟩) hn).trans h.2.1, (hb.cell (p := ⟨b, k * 2 + 1, none⟩) hn).trans h.2.2.1, (hb.cell (p := ⟨b, c * 2, none⟩) hn).trans h.2.2.2.1, (hb.cell (p := ⟨b, c * 2 + 1, none⟩) hn).trans h.2.2.2.2⟩
theorem tmin_any (a b : Int) (w : World) : Calls Try.prog 29 #[.int .i64 a, .int .i64 b] w fun e w' => e = .returned (.int .i64 (min a b)) ∧ w = w' := by
  by_cases h : a < b
  · have hm := hid (show min a b = a from by omega)
    go_enter Try.func29, Try.ntmps29
    go_wp2
    go_ret
    exact ⟨by rw [hm.out]; rfl, rfl⟩
  · have hm := hid (show min a b = b from by omega)
    go_enter Try.func29, Try.ntmps29
    go_wp2
    go_ret
    exact ⟨by rw [hm.out]; rfl, rfl⟩
set_option maxRecDepth 100000 in
set_option maxHeartbeats 4000000 in
theorem specTi_log (bS nS capS : Nat) (zs : List Int) (hnS : nS = zs.length) (b n cap : Nat) (js : List (Int × Int)) (hn : n = js.length) (most : Int) (w : World) (hS : Stk w bS zs) (hR : Rst w b js) (hg : okG zs js = false) :
    Calls Try.prog 7 #[.slice (some ⟨bS, 0, none⟩) nS capS, .slice (some ⟨b, 0, none⟩) n cap, .int .i64 most] w (GivesB w (.tuple #[.agg #[.int .i64 (tiR zs js most).1.1, .int .i64 (tiR zs js most).1.2], .int .i64 (tiR zs js most).2])) := by
  have hle := hR.2.2
  rw [← hn] at hle
  have hbl := hR.1
  have hbs := hS.1
  have hN := hid hn
  obtain ⟨V, hV⟩ : ∃ V, V = w.alloc (.cells #[.int .i64 0, .int .i64 0] 27) := ⟨_, rfl⟩
  have sV : V.heap.size = w.heap.size + 1 := by rw [hV]; simp
  have bV : Below w.heap.size w V := by rw [hV]; exact (Below.refl _ w).alloc (Nat.le_refl _) _
  have r2 : Row V w.heap.size 27 [.int .i64 0, .int .i64 0] := by rw [hV]; exact Row.new w _ _
  have HVL := hid (l04Ok_any bS nS capS zs hnS b n cap js hn V (hS.below bV hbs) (hR.below bV hbl))
  have HS := hid hS
  have HR := hid hR
  have HV := hid hV
  have BV := hid bV
  have R2 := hid r2
  rw [tiR_log hg]
  rw [hg] at HVL
  clear hg hS hR hn hnS bV r2 hV
  go_enter Try.func7, Try.ntmps7
  go_wp2_with fail
  rw [← HV.out]
  refine HVL.out.mono ?_
  rintro e w1 ⟨rfl, hB1⟩
  have hz1 := hB1.size
  rw [sV] at hB1 hz1
  have q2 := R2.out.below hB1 (by omega)
  have e0 := q2.cell 0; have e1 := q2.cell 1; have f0 := q2.frozen 0; have f1 := q2.frozen 1
  simp only [List.getElem?_cons_zero, List.getElem?_cons_succ] at e0 e1
  go_wp2_with fail
  have s2 := (q2.set 0 (.int .i64 0)).set 1 (.int .i64 0)
  have k0 := s2.cell 0; have k1 := s2.cell 1
  simp only [List.set_cons_zero, List.set_cons_succ, List.getElem?_cons_zero, List.getElem?_cons_succ] at k0 k1
  exact bodyPost_ret (v := .tuple #[.agg #[.int .i64 0, .int .i64 0], .int .i64 1]) (by simp [results, Try.results7, go_sem, k0, k1]) rfl ⟨rfl, ((BV.out.trans (hB1.mono (by omega))).setCell (p := ⟨w.heap.size, 0, none⟩) (Nat.le_refl _) _).setCell (p := ⟨w.heap.size, 1, none⟩) (Nat.le_refl _) _⟩
set_option maxRecDepth 100000 in
set_option maxHeartbeats 4000000 in
theorem specTi_most (bS nS capS : Nat) (zs : List Int) (hnS : nS = zs.length) (b n cap : Nat) (js : List (Int × Int)) (hn : n = js.length) (most : Int) (w : World) (hS : Stk w bS zs) (hR : Rst w b js) (hg : okG zs js = true) (hm : ¬ (0 ≤ most ∧ most ≤ 1000000)) :
    Calls Try.prog 7 #[.slice (some ⟨bS, 0, none⟩) nS capS, .slice (some ⟨b, 0, none⟩) n cap, .int .i64 most] w (GivesB w (.tuple #[.agg #[.int .i64 (tiR zs js most).1.1, .int .i64 (tiR zs js most).1.2], .int .i64 (tiR zs js most).2])) := by
  have hle := hR.2.2
  rw [← hn] at hle
  have hbl := hR.1
  have hbs := hS.1
  have hN := hid hn
  obtain ⟨V, hV⟩ : ∃ V, V = w.alloc (.cells #[.int .i64 0, .int .i64 0] 27) := ⟨_, rfl⟩
  have sV : V.heap.size = w.heap.size + 1 := by rw [hV]; simp
  have bV : Below w.heap.size w V := by rw [hV]; exact (Below.refl _ w).alloc (Nat.le_refl _) _
  have r2 : Row V w.heap.size 27 [.int .i64 0, .int .i64 0] := by rw [hV]; exact Row.new w _ _
  have HVL := hid (l04Ok_any bS nS capS zs hnS b n cap js hn V (hS.below bV hbs) (hR.below bV hbl))
  have HS := hid hS
  have HR := hid hR
  have HV := hid hV
  have BV := hid bV
  have R2 := hid r2
  rw [tiR_most hg hm]
  rw [hg] at HVL
  have HI := hid (fun w => inr_no most 0 1000000 w (by omega))
  clear hg hS hR hn hnS bV r2 hV hm
  go_enter Try.func7, Try.ntmps7
  go_wp2_with fail
  rw [← HV.out]
  refine HVL.out.mono ?_
  rintro e w1 ⟨rfl, hB1⟩
  have hz1 := hB1.size
  rw [sV] at hB1 hz1
  have q2 := R2.out.below hB1 (by omega)
  have e0 := q2.cell 0; have e1 := q2.cell 1; have f0 := q2.frozen 0; have f1 := q2.frozen 1
  simp only [List.getElem?_cons_zero, List.getElem?_cons_succ] at e0 e1
  go_wp2_with fail
  refine (HI.out _).mono ?_
  rintro e w' ⟨rfl, rfl⟩
  go_wp2_with fail
  have s2 := (q2.set 0 (.int .i64 0)).set 1 (.int .i64 0)
  have k0 := s2.cell 0; have k1 := s2.cell 1
  simp only [List.set_cons_zero, List.set_cons_succ, List.getElem?_cons_zero, List.getElem?_cons_succ] at k0 k1
  exact bodyPost_ret (v := .tuple #[.agg #[.int .i64 0, .int .i64 0], .int .i64 2]) (by simp [results, Try.results7, go_sem, k0, k1]) rfl ⟨rfl, ((BV.out.trans (hB1.mono (by omega))).setCell (p := ⟨w.heap.size, 0, none⟩) (Nat.le_refl _) _).setCell (p := ⟨w.heap.size, 1, none⟩) (Nat.le_refl _) _⟩
set_option maxRecDepth 100000 in
set_option maxHeartbeats 4000000 in
theorem specTi_main (bS nS capS : Nat) (zs : List Int) (hnS : nS = zs.length) (b n cap : Nat) (js : List (Int × Int)) (hn : n = js.length) (most : Int) (w : World) (hS : Stk w bS zs) (hR : Rst w b js) (hcapS : nS ≤ capS) (hg : okG zs js = true) (hm0 : 0 ≤ most) (hm9 : most ≤ 1000000) :
    Calls Try.prog 7 #[.slice (some ⟨bS, 0, none⟩) nS capS, .slice (some ⟨b, 0, none⟩) n cap, .int .i64 most] w (GivesB w (.tuple #[.agg #[.int .i64 (tiR zs js most).1.1, .int .i64 (tiR zs js most).1.2], .int .i64 (tiR zs js most).2])) := by
  have hle := hR.2.2
  rw [← hn] at hle
  have hbl := hR.1
  have hbs := hS.1
  have hN := hid hn
  obtain ⟨V, hV⟩ : ∃ V, V = w.alloc (.cells #[.int .i64 0, .int .i64 0] 27) := ⟨_, rfl⟩
  have sV : V.heap.size = w.heap.size + 1 := by rw [hV]; simp
  have bV : Below w.heap.size w V := by rw [hV]; exact (Below.refl _ w).alloc (Nat.le_refl _) _
  have r2 : Row V w.heap.size 27 [.int .i64 0, .int .i64 0] := by rw [hV]; exact Row.new w _ _
  have HVL := hid (l04Ok_any bS nS capS zs hnS b n cap js hn V (hS.below bV hbs) (hR.below bV hbl))
  have HS := hid hS
  have HR := hid hR
  have HV := hid hV
  have BV := hid bV
  have R2 := hid r2
  rw [hg] at HVL
  have HG := hid hg
  have HI := hid (fun w => inr_yes most 0 1000000 w ⟨hm0, hm9⟩)
  have HDY := hid (fun x => okG_dy hg x)
  have hv1 := (okG_out hg).1
  have HZ := hid (And.intro (okL_out hv1).2.2.2.1 (okL_out hv1).2.2.2.2)
  have HSZ := hid (fun w1 (h : Stk w1 bS zs) => l01Size_is bS nS capS zs hnS hv1 w1 h)
  have HCN := hid (fun (a u b' v hi : Int) (h : -1000000000000 ≤ v - u ∧ v - u ≤ 1000000000000) (hd : 0 ≤ b' - a ∧ b' - a ≤ 100000) (hh : 0 ≤ hi ∧ hi ≤ 1000000) (W : World) (s : Stk W bS zs) => l04Counts_any bS nS capS zs hnS hv1 a u b' v 0 hi h hd (by omega) hh W s)
  obtain ⟨Z, hZ⟩ : ∃ Z, szL zs = Z := ⟨_, rfl⟩
  have HYES := hid (fun h => tiR_yes HG.out ⟨hm0, hm9⟩ (by rw [hZ]; exact h))
  have HNO := hid (fun h => tiR_none HG.out ⟨hm0, hm9⟩ (by rw [hZ]; exact h))
  rw [hZ] at HZ HSZ HCN HYES
  rw [← hN.out] at HYES HNO
  have hz0 := HZ.out.1
  have hz9 := HZ.out.2
  clear hg hS hR hn hnS bV r2 hV hv1 hZ hcapS
  go_enter Try.func7, Try.ntmps7
  go_wp2_with fail
  rw [← HV.out]
  refine HVL.out.mono ?_
  rintro e w1 ⟨rfl, hB1⟩
  have hz1 := hB1.size
  rw [sV] at hB1 hz1
  have q2 := R2.out.below hB1 (by omega)
  have e0 := q2.cell 0; have e1 := q2.cell 1; have f0 := q2.frozen 0; have f1 := q2.frozen 1
  simp only [List.getElem?_cons_zero, List.getElem?_cons_succ] at e0 e1
  go_wp2_with fail
  refine (HI.out _).mono ?_
  rintro e w' ⟨rfl, rfl⟩
  go_wp2_with fail
  refine (HSZ.out w1 (HS.out.below (BV.out.trans (hB1.mono (by omega))) hbs)).mono ?_
  rintro e w' ⟨rfl, rfl⟩
  have b1 : Below w.heap.size w (w1.alloc (.cells #[.int .i64 0, .int .i64 0] 27)) := (BV.out.trans (hB1.mono (by omega))).alloc (by omega) _
  have rF0 := hid (Row.new w1 27 [.int .i64 0, .int .i64 0])
  have rQ0 := hid (q2.alloc (.cells #[.int .i64 0, .int .i64 0] 27))
  have B1 := hid b1
  clear e0 e1 f0 f1 q2 b1 hB1
  go_wp2_with fail
  go_loopw [10] (fun i wr => ∃ k c : Nat, c = k + 1 ∧ k ≤ n - 1 ∧ i = .int .i64 (c : Int) ∧ Row wr w1.heap.size 27 [.int .i64 0, .int .i64 (hiP Z js ((List.finRange (n - 1)).take k))] ∧ Row wr w.heap.size 27 [.int .i64 0, .int .i64 0] ∧ Below w.heap.size w wr) (fun i _ => n - (intOf i).toNat)
  case atStart => exact ⟨0, 1, rfl, Nat.zero_le _, rfl, rF0.out, rQ0.out, B1.out⟩
  case round =>
    obtain ⟨k, c, hck, hk, rfl, rF, rQ, hB⟩ := hrel
    have HCK := hid hck
    have hc0 : (0 : Int) ≤ (c : Int) := by omega
    have hzr := hB.size
    by_cases hlt : k < n - 1
    · have hlt' : (c : Int) < (n : Int) := by omega
      have hcn : c < n := by omega
      have hkn : k < n := by omega
      have hk0 : (0 : Int) ≤ (k : Int) := by omega
      have e1 : (c : Int) - 1 = (k : Int) := by omega
      have tk : IntKind.i64.wrap (k : Int) = (k : Int) := IntWalk.i64_in _ (by omega)
      have hlen := hid (finTake_succ (n - 1) k hlt)
      have dy : 1 ≤ dyI js k ∧ dyI js k ≤ 100000 ∧ -1000000000000 ≤ wyI js k ∧ wyI js k ≤ 1000000000000 := HDY.out ⟨k, by have := hN.out; omega⟩
      have hb9 := hk_bd (z := Z) (js := js) (k := k) HZ.out dy.1
      have hsn := hid (show hiP Z js ((List.finRange (n - 1)).take k ++ [⟨k, hlt⟩]) = max (hiP Z js ((List.finRange (n - 1)).take k)) (hkI Z js k) from hiP_snoc Z js _ ⟨k, hlt⟩)
      have hhb := hiP_bd (m := n - 1) (js := js) HZ.out (fun x => (HDY.out ⟨x.1, by have := hN.out; have := x.2; omega⟩).1) ((List.finRange (n - 1)).take k)
      have x0 := (hB.cell (p := ⟨b, k * 2, none⟩) hbl).trans (HR.out.2.1 k (by rw [← hN.out]; omega)).1
      have x1 := (hB.cell (p := ⟨b, k * 2 + 1, none⟩) hbl).trans (HR.out.2.1 k (by rw [← hN.out]; omega)).2
      have y0 := (hB.cell (p := ⟨b, c * 2, none⟩) hbl).trans (HR.out.2.1 c (by rw [← hN.out]; omega)).1
      have y1 := (hB.cell (p := ⟨b, c * 2 + 1, none⟩) hbl).trans (HR.out.2.1 c (by rw [← hN.out]; omega)).2
      have hHK : hkI Z js k = (lstI Z (wyI js k) 0 + dyI js k - 1) / dyI js k := rfl
      have hLS : lstI Z (wyI js k) 0 = wyI js k % Z := by simp [lstI]
      have hl9 := lst_bd (z := Z) (way := wyI js k) HZ.out.1
      have hdd : rd js c - rd js k = dyI js k := by rw [hck]; rfl
      have hww : rv js c - rv js k = wyI js k := by rw [hck]; rfl
      obtain ⟨a, ha⟩ : ∃ y, rd js k = y := ⟨_, rfl⟩
      obtain ⟨u, hu⟩ : ∃ y, rv js k = y := ⟨_, rfl⟩
      obtain ⟨a', ha'⟩ : ∃ y, rd js c = y := ⟨_, rfl⟩
      obtain ⟨u', hu'⟩ : ∃ y, rv js c = y := ⟨_, rfl⟩
      rw [ha] at x0 hdd
      rw [hu] at x1 hww
      rw [ha'] at y0 hdd
      rw [hu'] at y1 hww
      obtain ⟨HK, hHKe⟩ : ∃ y, hkI Z js k = y := ⟨_, rfl⟩
      rw [hHKe] at hHK hb9 hsn
      rw [hLS] at hHK hl9
      obtain ⟨d, hd⟩ : ∃ y, dyI js k = y := ⟨_, rfl⟩
      obtain ⟨wy, hwy⟩ : ∃ y, wyI js k = y := ⟨_, rfl⟩
      rw [hd] at hHK hdd dy
      rw [hwy] at hHK hl9 hww dy
      obtain ⟨L, hL⟩ : ∃ y, wy % Z = y := ⟨_, rfl⟩
      rw [hL] at hHK hl9
      obtain ⟨h, hh⟩ : ∃ y, hiP Z js ((List.finRange (n - 1)).take k) = y := ⟨_, rfl⟩
      rw [hh] at rF hsn hhb
      obtain ⟨M, hM⟩ : ∃ y, max h HK = y := ⟨_, rfl⟩
      rw [hM] at hsn
      have HMM := hid (fun w => l04Mod_any wy Z (by omega) (by omega) w)
      rw [hL] at HMM
      have HMX := hid (fun w => max_any h HK w)
      rw [hM] at HMX
      have HDD := hid hdd
      have HWW := hid hww
      have w1' : IntKind.i64.wrap (a' - a) = d := by rw [HDD.out]; exact IntWalk.i64_in _ (by omega)
      have w2' : IntKind.i64.wrap (u' - u) = wy := by rw [HWW.out]; exact IntWalk.i64_in _ (by omega)
      have HHK := hid hHK
      have n1 : IntKind.i64.wrap (L + d) = L + d := IntWalk.i64_in _ (by omega)
      have n2 : IntKind.i64.wrap (L + d - 1) = L + d - 1 := IntWalk.i64_in _ (by omega)
      have td : (L + d - 1).tdiv d = HK := by rw [HHK.out]; exact Int.tdiv_eq_ediv_of_nonneg (by omega)
      have nd : d ≠ 0 := by omega
      have n3 : IntKind.i64.wrap HK = HK := IntWalk.i64_in _ (by omega)
      have RFk := hid rF
      have RQk := hid rQ
      have BK := hid hB
      have RR := hid (HR.out.below hB hbl)
      clear ha hu ha' hu' hHKe hd hwy hL hh hM hdd hww hHK hLS rF rQ hB hck HCN HYES HNO HZ HSZ HI HDY
      go_wp2_with fail
      go_quiet (fail)
      obtain ⟨X1, hX1⟩ : ∃ X, X = wr.drewN nq := ⟨_, rfl⟩
      have bX1 : Below wr.heap.size wr X1 := by rw [hX1]; exact below_drewN (Below.refl _ _) _
      rw [← hX1]
      have x1b := (bX1.cell (p := ⟨b, k * 2 + 1, none⟩) RR.out.1).trans x1
      have y1b := (bX1.cell (p := ⟨b, c * 2 + 1, none⟩) RR.out.1).trans y1
      clear hX1 x0 x1 y0 y1
      go_wp2_with fail
      go_quiet ((go_at_call 26; exact quiet_sm (HMM.out _)))
      obtain ⟨X2, hX2⟩ : ∃ X, X = X1.drewN nq := ⟨_, rfl⟩
      have bX2 : Below wr.heap.size wr X2 := by rw [hX2]; exact below_drewN bX1 _
      rw [← hX2]
      clear hX2 x1b y1b bX1
      go_wp2_with fail
      have rF' := (RFk.out.below bX2 RFk.out.lt).below ((Below.refl X2.heap.size X2).drew) (by have := bX2.size; have := RFk.out.lt; omega)
      have rQ' := (RQk.out.below bX2 RQk.out.lt).below ((Below.refl X2.heap.size X2).drew) (by have := bX2.size; have := RQk.out.lt; omega)
      have bX' := ((BK.out.trans (bX2.mono hzr))).trans (((Below.refl X2.heap.size X2).drew).mono (Nat.le_trans hzr bX2.size))
      skip
      refine wp_region_held (S := fun _ : World => True) (by kernel_rfl) ?_
      change wpAnyH _ _ _ _ _ _ _ _ (World.drew _)
      have fq0 := rF'.cell 0; have fq1 := rF'.cell 1; have ff1 := rF'.frozen 1
      simp only [List.getElem?_cons_zero, List.getElem?_cons_succ] at fq0 fq1
      refine wpAnyH_takeD (some 62) (i := 0) (v := ?_) rfl rfl (by kernel_rfl) (by kernel_rfl) (by kernel_rfl) (fun _ _ _ h => h) (.inl ⟨by kernel_rfl, ?_⟩) trivial ?_
      rotate_left
      · intro w' _; go_simp; try with_reducible rfl
      try simp only [Act.put, List.setIfInBounds_toArray, List.set_cons_zero, List.set_cons_succ]
      refine wpAnyH_takeD (some 64) (i := 2) (v := ?_) rfl rfl (by kernel_rfl) (by kernel_rfl) (by kernel_rfl) (fun _ _ _ h => h) (.inl ⟨by kernel_rfl, ?_⟩) trivial ?_
      rotate_left
      · intro w' _; go_simp; try with_reducible rfl
      try simp only [Act.put, List.setIfInBounds_toArray, List.set_cons_zero, List.set_cons_succ]
      refine wpAnyH_takeD (some 65) (i := 3) (v := ?_) rfl rfl (by kernel_rfl) (by kernel_rfl) (by kernel_rfl) (fun _ _ _ h => h) (.inl ⟨by kernel_rfl, ?_⟩) trivial ?_
      rotate_left
      · intro w' _; go_simp; try with_reducible rfl
      try simp only [Act.put, List.setIfInBounds_toArray, List.set_cons_zero, List.set_cons_succ]
      refine wpAnyH_takeD (some 66) (i := 4) (v := ?_) rfl rfl (by kernel_rfl) (by kernel_rfl) (by kernel_rfl) (fun _ _ _ h => h) (.inl ⟨by kernel_rfl, ?_⟩) trivial ?_
      rotate_left
      · intro w' _; go_simp; try with_reducible rfl
      try simp only [Act.put, List.setIfInBounds_toArray, List.set_cons_zero, List.set_cons_succ]
      refine wpAnyH_takeD (some 67) (i := 5) (v := ?_) rfl rfl (by kernel_rfl) (by kernel_rfl) (by kernel_rfl) (fun _ _ _ h => h) (.inl ⟨by kernel_rfl, ?_⟩) trivial ?_
      rotate_left
      · intro w' _; go_simp; try with_reducible rfl
      try simp only [Act.put, List.setIfInBounds_toArray, List.set_cons_zero, List.set_cons_succ]
      refine wpAnyH_takeD (some 68) (i := 6) (v := ?_) rfl rfl (by kernel_rfl) (by kernel_rfl) (by kernel_rfl) (fun _ _ _ h => h) (.inl ⟨by kernel_rfl, ?_⟩) trivial ?_
      rotate_left
      · intro w' _; go_simp; try with_reducible rfl
      try simp only [Act.put, List.setIfInBounds_toArray, List.set_cons_zero, List.set_cons_succ]
      refine wpAnyH_takeD (some 69) (i := 7) (v := ?_) rfl rfl (by kernel_rfl) (by kernel_rfl) (by kernel_rfl) (fun _ _ _ h => h) (.inl ⟨by kernel_rfl, ?_⟩) trivial ?_
      rotate_left
      · intro w' _; go_simp; try with_reducible rfl
      try simp only [Act.put, List.setIfInBounds_toArray, List.set_cons_zero, List.set_cons_succ]
      refine wpAnyH_all (rs := [1]) (by kernel_rfl) (by simp) ?_
      intro i hi; simp only [List.mem_singleton] at hi; subst hi
      refine wpOp_step rfl (fun K hK => ?_)
      go_simp
      refine hK _ _ ⟨trivial, ?_⟩
      try simp only [Act.put, List.setIfInBounds_toArray, List.set_cons_zero, List.set_cons_succ]
      refine wpAnyH_all (rs := [8]) (by kernel_rfl) (by simp) ?_
      intro i hi; simp only [List.mem_singleton] at hi; subst hi
      refine wpOp_step rfl (fun K hK => ?_)
      go_simp
      with_reducible refine (HMX.out _).mono ?_
      rintro e v8 ⟨rfl, rfl⟩
      refine hK _ _ ⟨trivial, ?_⟩
      try simp only [Act.put, List.setIfInBounds_toArray, List.set_cons_zero, List.set_cons_succ]
      refine wpAnyH_takeD (some 71) (i := 9) (v := ?_) rfl rfl (by kernel_rfl) (by kernel_rfl) (by kernel_rfl) (fun _ _ _ h => h) (.inl ⟨by kernel_rfl, ?_⟩) trivial ?_
      rotate_left
      · intro w' _; go_simp; try with_reducible rfl
      try simp only [Act.put, List.setIfInBounds_toArray, List.set_cons_zero, List.set_cons_succ]
      refine wpAnyH_all (rs := [10]) (by kernel_rfl) (by simp) ?_
      intro i hi; simp only [List.mem_singleton] at hi; subst hi
      refine wpOp_step rfl (fun K hK => ?_)
      go_simp
      refine hK _ _ ⟨trivial, ?_⟩
      try simp only [Act.put, List.setIfInBounds_toArray, List.set_cons_zero, List.set_cons_succ]
      refine wpAnyH_done (by kernel_rfl) ?_ _
      have RF2 := hid (rF'.set 1 (.int .i64 M))
      have RQ2 := hid (rQ'.other (a := ⟨w1.heap.size, 1, none⟩) (by show w1.heap.size ≠ w.heap.size; omega) (.int .i64 M))
      have BX2 := hid (bX'.setCell (p := ⟨w1.heap.size, 1, none⟩) (by show w.heap.size ≤ w1.heap.size; omega) (.int .i64 M))
      clear fq0 fq1 ff1 rF' rQ' bX'
      go_wp2_with fail
      go_roundw
      case rel => exact ⟨k + 1, c + 1, by have := HCK.out; omega, by omega, by go_num, by rw [hlen.out, hsn.out]; exact RF2.out, RQ2.out, BX2.out⟩
      case measure => simp [intOf]; omega
    · obtain rfl : k = n - 1 := by omega
      have hge : ¬ (c : Int) < (n : Int) := by omega
      have hge' : (n : Int) ≤ (c : Int) := by omega
      rw [finTake_all (n - 1)] at rF
      have hgeH := hiP_ge Z js (List.finRange (n - 1))
      have HALL := hid (fun x : Fin (n - 1) => hiP_all Z js x)
      have hhb := hiP_bd (m := n - 1) (js := js) HZ.out (fun x => (HDY.out ⟨x.1, by have := hN.out; have := x.2; omega⟩).1) (List.finRange (n - 1))
      obtain ⟨H, hH⟩ : ∃ y, hiP Z js (List.finRange (n - 1)) = y := ⟨_, rfl⟩
      rw [hH] at rF hgeH HALL HYES HNO hhb
      have h1 := rF.cell 1
      have e0 := rQ.cell 0; have e1 := rQ.cell 1; have f0 := rQ.frozen 0; have f1 := rQ.frozen 1
      simp only [List.getElem?_cons_zero, List.getElem?_cons_succ] at h1 e0 e1
      by_cases hmm : H ≤ most
      rotate_left
      · have HNOr := hid (HNO.out (by omega))
        have hd0 : most < H := by omega
        rw [HNOr.out]
        clear hH hck HYES HNO HALL hmm
        go_wp2_with fail
        have s2 := (rQ.set 0 (.int .i64 0)).set 1 (.int .i64 0)
        have k0 := s2.cell 0; have k1 := s2.cell 1
        simp only [List.set_cons_zero, List.set_cons_succ, List.getElem?_cons_zero, List.getElem?_cons_succ] at k0 k1
        exact bodyPost_ret (v := .tuple #[.agg #[.int .i64 0, .int .i64 0], .int .i64 6]) (by simp [results, Try.results7, go_sem, k0, k1]) rfl ⟨by rw [HNOr.out], ((hB).setCell (p := ⟨w.heap.size, 0, none⟩) (Nat.le_refl _) _).setCell (p := ⟨w.heap.size, 1, none⟩) (Nat.le_refl _) _⟩
      · have HRES := hid (HYES.out hmm)
        have hd0 : ¬ most < H := by omega
        have HLO := hid (loP_bd (m := n - 1) (js := js) hgeH HZ.out (fun x => (HDY.out ⟨x.1, by have := hN.out; have := x.2; omega⟩).1) HALL.out)
        rw [HRES.out]
        have RF0 := hid rF
        have RQ0 := hid rQ
        have B0 := hid hB
        clear hH hck HYES HNO e0 e1 f0 f1 rF rQ hB
        obtain ⟨wo, hwo⟩ : ∃ z, z = wr := ⟨_, rfl⟩
        rw [← hwo] at RF0 RQ0 B0 h1 hzr ⊢
        clear hwo
        go_wp2_with fail
        clear h1
        go_loopw [13, 14] (fun lo i wr => ∃ k c : Nat, c = k + 1 ∧ k ≤ n - 1 ∧ lo = .int .i64 (loP Z js H ((List.finRange (n - 1)).take k)) ∧ i = .int .i64 (c : Int) ∧ Row wr w1.heap.size 27 [.int .i64 0, .int .i64 H] ∧ Row wr w.heap.size 27 [.int .i64 0, .int .i64 0] ∧ Below w.heap.size w wr) (fun _ i _ => n - (intOf i).toNat)
        case atStart => exact ⟨0, 1, rfl, Nat.zero_le _, rfl, rfl, RF0.out, RQ0.out, B0.out⟩
        case round =>
          obtain ⟨k, c, hck, hk, rfl, rfl, rF, rQ, hB⟩ := hrel
          have HCK := hid hck
          have hc0 : (0 : Int) ≤ (c : Int) := by omega
          have hzr := hB.size
          by_cases hlt : k < n - 1
          · have hlt' : (c : Int) < (n : Int) := by omega
            have hcn : c < n := by omega
            have hkn : k < n := by omega
            have hk0 : (0 : Int) ≤ (k : Int) := by omega
            have e1 : (c : Int) - 1 = (k : Int) := by omega
            have tk : IntKind.i64.wrap (k : Int) = (k : Int) := IntWalk.i64_in _ (by omega)
            have hlen := hid (finTake_succ (n - 1) k hlt)
            have dy : 1 ≤ dyI js k ∧ dyI js k ≤ 100000 ∧ -1000000000000 ≤ wyI js k ∧ wyI js k ≤ 1000000000000 := HDY.out ⟨k, by have := hN.out; omega⟩
            have hKH : hkI Z js k ≤ H := HALL.out ⟨k, hlt⟩
            have hg9 := gst_bd (z := Z) (js := js) (k := k) (H := H) HZ.out dy.1 hKH
            have hl9 := lk_bd (z := Z) (js := js) (k := k) (H := H) HZ.out dy.1 hKH
            have hle9 := hk_le (z := Z) (js := js) (k := k) (H := H) HZ.out.1 dy.1 hKH
            have hlo := HLO.out ((List.finRange (n - 1)).take k)
            have hsn := hid (show loP Z js H ((List.finRange (n - 1)).take k ++ [⟨k, hlt⟩]) = min (loP Z js H ((List.finRange (n - 1)).take k)) (lkI Z js H k) from loP_snoc Z js H _ ⟨k, hlt⟩)
            have hmul : 0 ≤ H * dyI js k ∧ H * dyI js k ≤ 1000000000000 := by
              have h1 := Int.mul_le_mul_of_nonneg_right (show H ≤ 1000000 by omega) (show 0 ≤ dyI js k by omega)
              have h2 := Int.mul_nonneg hgeH (show 0 ≤ dyI js k by omega)
              omega
            have hdd : rd js c - rd js k = dyI js k := by rw [hck]; rfl
            have hww : rv js c - rv js k = wyI js k := by rw [hck]; rfl
            have cc : C4 wr b k c (rd js k) (rv js k) (rd js c) (rv js c) := ⟨Nat.lt_of_lt_of_le hbl hzr, (hB.cell (p := ⟨b, k * 2, none⟩) hbl).trans (HR.out.2.1 k (by rw [← hN.out]; omega)).1, (hB.cell (p := ⟨b, k * 2 + 1, none⟩) hbl).trans (HR.out.2.1 k (by rw [← hN.out]; omega)).2, (hB.cell (p := ⟨b, c * 2, none⟩) hbl).trans (HR.out.2.1 c (by rw [← hN.out]; omega)).1, (hB.cell (p := ⟨b, c * 2 + 1, none⟩) hbl).trans (HR.out.2.1 c (by rw [← hN.out]; omega)).2⟩
            have HCX := hid (fun W (s : Stk W bS zs) => HCN.out (rd js k) (rv js k) (rd js c) (rv js c) H (by rw [hww]; exact ⟨dy.2.2.1, dy.2.2.2⟩) (by rw [hdd]; omega) ⟨hgeH, by omega⟩ W s)
            have sS := HS.out.below hB hbs
            have hLK : lkI Z js H k = gstI Z (wyI js k) (H * dyI js k) / dyI js k := rfl
            rw [hww, hdd, Int.zero_mul, show cnt3 Z (wyI js k) 0 (H * dyI js k) = .tuple #[.int .i64 (lstI Z (wyI js k) 0), .int .i64 (gstI Z (wyI js k) (H * dyI js k)), .bool true] from if_pos hle9] at HCX
            obtain ⟨LK, hLKe⟩ : ∃ y, lkI Z js H k = y := ⟨_, rfl⟩
            rw [hLKe] at hLK hl9 hsn
            obtain ⟨G, hG⟩ : ∃ y, gstI Z (wyI js k) (H * dyI js k) = y := ⟨_, rfl⟩
            rw [hG] at HCX hLK hg9
            obtain ⟨L, hL⟩ : ∃ y, lstI Z (wyI js k) 0 = y := ⟨_, rfl⟩
            rw [hL] at HCX
            obtain ⟨d, hd⟩ : ∃ y, dyI js k = y := ⟨_, rfl⟩
            rw [hd] at hLK dy hdd hmul hg9
            obtain ⟨a, ha⟩ : ∃ y, rd js k = y := ⟨_, rfl⟩
            obtain ⟨u, hu⟩ : ∃ y, rv js k = y := ⟨_, rfl⟩
            obtain ⟨a', ha'⟩ : ∃ y, rd js c = y := ⟨_, rfl⟩
            obtain ⟨u', hu'⟩ : ∃ y, rv js c = y := ⟨_, rfl⟩
            rw [ha, hu, ha', hu'] at HCX cc
            rw [ha, ha'] at hdd
            obtain ⟨h, hh⟩ : ∃ y, loP Z js H ((List.finRange (n - 1)).take k) = y := ⟨_, rfl⟩
            rw [hh] at hlo hsn ⊢
            obtain ⟨M, hM⟩ : ∃ y, min h LK = y := ⟨_, rfl⟩
            rw [hM] at hsn
            have HMN := hid (fun w => tmin_any h LK w)
            rw [hM] at HMN
            obtain ⟨d1, d2, _, _⟩ := dy
            have HDD := hid hdd
            have HLKq := hid hLK
            have w1' : IntKind.i64.wrap (a' - a) = d := by rw [HDD.out]; exact IntWalk.i64_in _ (by omega)
            have td : G.tdiv d = LK := by rw [HLKq.out]; exact Int.tdiv_eq_ediv_of_nonneg (by omega)
            have nd : d ≠ 0 := by omega
            have n3 : IntKind.i64.wrap LK = LK := IntWalk.i64_in _ (by omega)
            have bW := hB
            clear hLK hG hd ha hu ha' hu' hLKe hL hh hM hdd hww hle9 hck HCN HZ HSZ HI HDY HLO HALL hB
            go_wp2_with fail
            refine wp_region_held (S := fun W' : World => C4 W' b k c a u a' u' ∧ Row W' w1.heap.size 27 [.int .i64 0, .int .i64 H]) (by kernel_rfl) ?_
            change wpAnyH _ _ _ _ _ _ _ _ (World.drew _)
            obtain ⟨W0, hW0⟩ : ∃ X, X = World.drew (wr) := ⟨_, rfl⟩
            have hD0 : Below (wr).heap.size (wr) W0 := by rw [hW0]; exact (Below.refl _ _).drew
            replace cc := cc.below hD0 cc.1
            replace rF := rF.below hD0 rF.lt
            replace sS := sS.below hD0 sS.1
            replace rQ := rQ.below hD0 rQ.lt
            have bW0 := bW.trans (hD0.mono bW.size)
            have bR : Below W0.heap.size W0 W0 := Below.refl _ _
            rw [← hW0]
            clear hW0 hD0
            have l_cc := cc.1
            have l_rF := rF.lt
            have l_sS := sS.1
            have l_rQ := rQ.lt
            have hS0 : (fun W' : World => C4 W' b k c a u a' u' ∧ Row W' w1.heap.size 27 [.int .i64 0, .int .i64 H]) W0 := ⟨cc, rF⟩
            refine wpAnyH_takeD (some 86) (i := 0) (v := ?_) rfl rfl (by kernel_rfl) (by kernel_rfl) (by kernel_rfl) (fun _ _ _ h => h) (.inl ⟨by kernel_rfl, ?_⟩) hS0 ?_
            rotate_left
            · intro w' hw'; go_simp; try with_reducible rfl
            try simp only [Act.put, List.setIfInBounds_toArray, List.set_cons_zero, List.set_cons_succ]
            refine wpAnyH_takeD (some 87) (i := 1) (v := ?_) rfl rfl (by kernel_rfl) (by kernel_rfl) (by kernel_rfl) (fun _ _ _ h => h) (.inl ⟨by kernel_rfl, ?_⟩) hS0 ?_
            rotate_left
            · intro w' hw'; go_simp; try with_reducible rfl
            try simp only [Act.put, List.setIfInBounds_toArray, List.set_cons_zero, List.set_cons_succ]
            refine wpAnyH_takeD (some 88) (i := 2) (v := ?_) rfl rfl (by kernel_rfl) (by kernel_rfl) (by kernel_rfl) (fun _ _ _ h => h) (.inl ⟨by kernel_rfl, ?_⟩) hS0 ?_
            rotate_left
            · intro w' hw'; go_simp; try with_reducible rfl
            try simp only [Act.put, List.setIfInBounds_toArray, List.set_cons_zero, List.set_cons_succ]
            refine wpAnyH_takeD (some 89) (i := 3) (v := ?_) rfl rfl (by kernel_rfl) (by kernel_rfl) (by kernel_rfl) (fun _ _ _ h => h) (.inl ⟨by kernel_rfl, ?_⟩) hS0 ?_
            rotate_left
            · intro w' hw'; go_simp; try with_reducible rfl
            try simp only [Act.put, List.setIfInBounds_toArray, List.set_cons_zero, List.set_cons_succ]
            refine wpAnyH_takeD (some 90) (i := 4) (v := ?_) rfl rfl (by kernel_rfl) (by kernel_rfl) (by kernel_rfl) (fun _ _ _ h => h) (.inl ⟨by kernel_rfl, ?_⟩) hS0 ?_
            rotate_left
            · intro w' hw'; obtain ⟨_, g0, g1, g2, g3⟩ := hw'.1; have hrow1 := hw'.2; have e1x0 := Row.cell hrow1 0; have e1x1 := Row.cell hrow1 1; simp only [List.getElem?_cons_zero, List.getElem?_cons_succ] at e1x0 e1x1; clear hrow1; clear hw'; go_simp; try with_reducible rfl
            try simp only [Act.put, List.setIfInBounds_toArray, List.set_cons_zero, List.set_cons_succ]
            refine wpAnyH_takeD (some 91) (i := 5) (v := ?_) rfl rfl (by kernel_rfl) (by kernel_rfl) (by kernel_rfl) (fun _ _ _ h => h) (.inl ⟨by kernel_rfl, ?_⟩) hS0 ?_
            rotate_left
            · intro w' hw'; obtain ⟨_, g0, g1, g2, g3⟩ := hw'.1; have hrow1 := hw'.2; have e1x0 := Row.cell hrow1 0; have e1x1 := Row.cell hrow1 1; simp only [List.getElem?_cons_zero, List.getElem?_cons_succ] at e1x0 e1x1; clear hrow1; clear hw'; go_simp; try with_reducible rfl
            try simp only [Act.put, List.setIfInBounds_toArray, List.set_cons_zero, List.set_cons_succ]
            refine wpAnyH_takeD (some 92) (i := 6) (v := ?_) rfl rfl (by kernel_rfl) (by kernel_rfl) (by kernel_rfl) (fun _ _ _ h => h) (.inl ⟨by kernel_rfl, ?_⟩) hS0 ?_
            rotate_left
            · intro w' hw'; go_simp; try with_reducible rfl
            try simp only [Act.put, List.setIfInBounds_toArray, List.set_cons_zero, List.set_cons_succ]
            refine wpAnyH_takeD (some 93) (i := 7) (v := ?_) rfl rfl (by kernel_rfl) (by kernel_rfl) (by kernel_rfl) (fun _ _ _ h => h) (.inl ⟨by kernel_rfl, ?_⟩) hS0 ?_
            rotate_left
            · intro w' hw'; go_simp; try with_reducible rfl
            try simp only [Act.put, List.setIfInBounds_toArray, List.set_cons_zero, List.set_cons_succ]
            refine wpAnyH_takeD (some 94) (i := 8) (v := ?_) rfl rfl (by kernel_rfl) (by kernel_rfl) (by kernel_rfl) (fun _ _ _ h => h) (.inl ⟨by kernel_rfl, ?_⟩) hS0 ?_
            rotate_left
            · intro w' hw'; obtain ⟨_, g0, g1, g2, g3⟩ := hw'.1; have hrow1 := hw'.2; have e1x0 := Row.cell hrow1 0; have e1x1 := Row.cell hrow1 1; simp only [List.getElem?_cons_zero, List.getElem?_cons_succ] at e1x0 e1x1; clear hrow1; clear hw'; go_simp; try with_reducible rfl
            try simp only [Act.put, List.setIfInBounds_toArray, List.set_cons_zero, List.set_cons_succ]
            refine wpAnyH_takeD (some 95) (i := 9) (v := ?_) rfl rfl (by kernel_rfl) (by kernel_rfl) (by kernel_rfl) (fun _ _ _ h => h) (.inl ⟨by kernel_rfl, ?_⟩) hS0 ?_
            rotate_left
            · intro w' hw'; obtain ⟨_, g0, g1, g2, g3⟩ := hw'.1; have hrow1 := hw'.2; have e1x0 := Row.cell hrow1 0; have e1x1 := Row.cell hrow1 1; simp only [List.getElem?_cons_zero, List.getElem?_cons_succ] at e1x0 e1x1; clear hrow1; clear hw'; go_simp; try with_reducible rfl
            try simp only [Act.put, List.setIfInBounds_toArray, List.set_cons_zero, List.set_cons_succ]
            refine wpAnyH_takeD (some 96) (i := 10) (v := ?_) rfl rfl (by kernel_rfl) (by kernel_rfl) (by kernel_rfl) (fun _ _ _ h => h) (.inl ⟨by kernel_rfl, ?_⟩) hS0 ?_
            rotate_left
            · intro w' hw'; obtain ⟨_, g0, g1, g2, g3⟩ := hw'.1; have hrow1 := hw'.2; have e1x0 := Row.cell hrow1 0; have e1x1 := Row.cell hrow1 1; simp only [List.getElem?_cons_zero, List.getElem?_cons_succ] at e1x0 e1x1; clear hrow1; clear hw'; go_simp; try with_reducible rfl
            try simp only [Act.put, List.setIfInBounds_toArray, List.set_cons_zero, List.set_cons_succ]
            refine wpAnyH_all (rs := [11]) (by kernel_rfl) (by simp) ?_
            intro i hi; simp only [List.mem_cons, List.not_mem_nil, or_false] at hi
            subst hi
            refine wpOp_step rfl (fun K hK => ?_)
            go_simp
            with_reducible refine (HCX.out W0 sS).mono ?_
            rintro e v1 ⟨rfl, hB1⟩
            replace cc := cc.below hB1 cc.1
            replace rF := rF.below hB1 rF.lt
            replace sS := sS.below hB1 sS.1
            replace rQ := rQ.below hB1 rQ.lt
            replace bR := bR.trans (hB1.mono bR.size)
            have hS1 : (fun W' : World => C4 W' b k c a u a' u' ∧ Row W' w1.heap.size 27 [.int .i64 0, .int .i64 H]) v1 := ⟨cc, rF⟩
            refine hK _ _ ⟨hS1, ?_⟩
            try simp only [Act.put, List.setIfInBounds_toArray, List.set_cons_zero, List.set_cons_succ]
            clear hB1 hK K hS0
            refine wpAnyH_takeD (some 85) (i := 12) (v := ?_) rfl rfl (by kernel_rfl) (by kernel_rfl) (by kernel_rfl) (fun _ _ _ h => h) (.inl ⟨by kernel_rfl, ?_⟩) hS1 ?_
            rotate_left
            · intro w' hw'; go_simp; try with_reducible rfl
            try simp only [Act.put, List.setIfInBounds_toArray, List.set_cons_zero, List.set_cons_succ]
            refine wpAnyH_takeD (some 98) (i := 13) (v := ?_) rfl rfl (by kernel_rfl) (by kernel_rfl) (by kernel_rfl) (fun _ _ _ h => h) (.inl ⟨by kernel_rfl, ?_⟩) hS1 ?_
            rotate_left
            · intro w' hw'; go_simp; try with_reducible rfl
            try simp only [Act.put, List.setIfInBounds_toArray, List.set_cons_zero, List.set_cons_succ]
            refine wpAnyH_takeD (some 99) (i := 14) (v := ?_) rfl rfl (by kernel_rfl) (by kernel_rfl) (by kernel_rfl) (fun _ _ _ h => h) (.inl ⟨by kernel_rfl, ?_⟩) hS1 ?_
            rotate_left
            · intro w' hw'; go_simp; try with_reducible rfl
            try simp only [Act.put, List.setIfInBounds_toArray, List.set_cons_zero, List.set_cons_succ]
            refine wpAnyH_takeD (some 100) (i := 15) (v := ?_) rfl rfl (by kernel_rfl) (by kernel_rfl) (by kernel_rfl) (fun _ _ _ h => h) (.inl ⟨by kernel_rfl, ?_⟩) hS1 ?_
            rotate_left
            · intro w' hw'; go_simp; try with_reducible rfl
            try simp only [Act.put, List.setIfInBounds_toArray, List.set_cons_zero, List.set_cons_succ]
            refine wpAnyH_takeD (some 15) (i := 16) (v := ?_) rfl rfl (by kernel_rfl) (by kernel_rfl) (by kernel_rfl) (fun _ _ _ h => h) (.inl ⟨by kernel_rfl, ?_⟩) hS1 ?_
            rotate_left
            · intro w' hw'; go_simp; try with_reducible rfl
            try simp only [Act.put, List.setIfInBounds_toArray, List.set_cons_zero, List.set_cons_succ]
            refine wpAnyH_takeD (some 16) (i := 17) (v := ?_) rfl rfl (by kernel_rfl) (by kernel_rfl) (by kernel_rfl) (fun _ _ _ h => h) (.inl ⟨by kernel_rfl, ?_⟩) hS1 ?_
            rotate_left
            · intro w' hw'; go_simp; try with_reducible rfl
            try simp only [Act.put, List.setIfInBounds_toArray, List.set_cons_zero, List.set_cons_succ]
            refine wpAnyH_takeD (some 17) (i := 18) (v := ?_) rfl rfl (by kernel_rfl) (by kernel_rfl) (by kernel_rfl) (fun _ _ _ h => h) (.inl ⟨by kernel_rfl, ?_⟩) hS1 ?_
            rotate_left
            · intro w' hw'; go_simp; try with_reducible rfl
            try simp only [Act.put, List.setIfInBounds_toArray, List.set_cons_zero, List.set_cons_succ]
            refine wpAnyH_done (by kernel_rfl) ?_ _
            have rF2 := rF
            have q0 := cc.2.1; have q2 := cc.2.2.2.1
            obtain ⟨X, hX⟩ : ∃ X, X = v1 := ⟨_, rfl⟩
            rw [← hX] at rF rQ cc bR q0 q2 ⊢
            have BX := hid (bW0.trans (bR.mono bW0.size))
            clear hX
            go_wp2_with fail
            go_quiet ((go_at_call 29; exact quiet_sm (HMN.out _)))
            go_wp2_with fail
            go_roundw
            case rel => exact ⟨k + 1, c + 1, by have := HCK.out; omega, by omega, by rw [hlen.out, hsn.out], by go_num, rF.below (below_drewN (Below.refl _ _) _) rF.lt, rQ.below (below_drewN (Below.refl _ _) _) rQ.lt, below_drewN BX.out _⟩
            case measure => simp [intOf]; omega
          · obtain rfl : k = n - 1 := by omega
            have hge2 : ¬ (c : Int) < (n : Int) := by omega
            have hge3 : (n : Int) ≤ (c : Int) := by omega
            rw [finTake_all (n - 1)]
            have h1 := rF.cell 0; have h2 := rF.cell 1; have hf := rF.frozen 0
            have e0 := rQ.cell 0; have e1 := rQ.cell 1; have f0 := rQ.frozen 0; have f1 := rQ.frozen 1
            simp only [List.getElem?_cons_zero, List.getElem?_cons_succ] at h1 h2 e0 e1
            obtain ⟨lo, hlo⟩ : ∃ y, loP Z js H (List.finRange (n - 1)) = y := ⟨_, rfl⟩
            have HRES := hid HRES.out
            rw [hlo] at HRES ⊢
            have ne1 : w1.heap.size ≠ w.heap.size := by omega
            have Q2 := hid (rQ.other (a := ⟨w1.heap.size, 0, none⟩) ne1 (.int .i64 lo))
            have B2 := hid (hB.setCell (p := ⟨w1.heap.size, 0, none⟩) (by show w.heap.size ≤ w1.heap.size; omega) (.int .i64 lo))
            clear hlo hck rF rQ hB
            go_wp2_with fail
            have s2 := (Q2.out.set 0 (.int .i64 lo)).set 1 (.int .i64 H)
            have k0 := s2.cell 0; have k1 := s2.cell 1
            simp only [List.set_cons_zero, List.set_cons_succ, List.getElem?_cons_zero, List.getElem?_cons_succ] at k0 k1
            exact bodyPost_ret (v := .tuple #[.agg #[.int .i64 lo, .int .i64 H], .int .i64 0]) (by simp [results, Try.results7, go_sem, k0, k1]) rfl ⟨by rw [HRES.out], ((B2.out).setCell (p := ⟨w.heap.size, 0, none⟩) (Nat.le_refl _) _).setCell (p := ⟨w.heap.size, 1, none⟩) (Nat.le_refl _) _⟩
end Go.Proofs.Ytofpgkbcodopiaa
