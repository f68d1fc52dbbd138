/- MissingNumbers: the model's answer. -/
import Derived.Test.YtnfgapgjkkeofaaMnI
namespace Go.Proofs.Ytnfgapgjkkeofaa
open Go.RowKit Go.Maps
set_option linter.unusedVariables false
set_option linter.unusedSimpArgs false
theorem owns_belowT {w w' : World} {base : Nat} {e : TypeId} {size : Nat} {v : Value} {n : Nat} {xs : List Value} (h : w.ownsRow base e size v n xs) (hb : Below w.heap.size w w') : w'.ownsRow base e size v n xs := by
  refine ⟨h.1, ?_⟩
  rcases h.2 with h0 | ⟨g, cap, cur, h1, h2, h3, h4⟩
  · exact .inl h0
  · refine .inr ⟨g, cap, cur, h1, h2, ?_, h4⟩
    rw [hb.block g (by
      rcases Nat.lt_or_ge g w.heap.size with h | h
      · exact h
      · rw [Array.getElem?_eq_none h] at h3; cases h3)]
    exact h3
set_option maxRecDepth 100000 in
set_option maxHeartbeats 8000000 in
theorem specMissingNumbers_any (B m cap : Nat) (zs : List Int) (hm : m = zs.length) (b n cap' : Nat) (ts : List (Nat → Int)) (hn : n = ts.length) (w : World) (hS : Stk w B zs) (hT : Tst w b ts) (hb : ∀ j, j < ts.length → tkB (ts[j]?.getD (fun _ => 0))) :
    Calls Try.prog 12 #[.slice (some ⟨B, 0, none⟩) m cap, .slice (some ⟨b, 0, none⟩) n cap'] w (MnR w (mnR zs ts)) := by
  obtain ⟨i0, hi, iz0, iz1, iz2⟩ := info_parts Try.infoI64m
  have hl := hT.2.2
  rw [← hn] at hl
  have hbl := hT.1
  have hC := hid hT.2.1
  have HV := hid (l07Tickets_any B m cap zs hm (some ⟨b, 0, none⟩) n cap' w hS)
  have HN := hid hn
  have HTB := hid hb
  have HSS := hid hS
  have HMM := hid hm
  have E1 := hid (fun h => mnR_no (zs := zs) (ts := ts) h)
  have E2 := hid (fun h k => mnR_limit (zs := zs) (ts := ts) h k)
  have E3 := hid (fun h k j hj g => mnR_proof (zs := zs) (ts := ts) h k j hj g)
  have E4 := hid (fun h k g => mnR_rest (zs := zs) (ts := ts) h k g)
  have HMB := hid (mostT_bd ts)
  obtain ⟨Q, hQ⟩ : ∃ Q, mnR zs ts = Q := ⟨_, rfl⟩
  rw [hQ] at E1 E2 E3 E4 ⊢
  clear hS hT hn hm hb hQ
  have B00 := hid ((Below.refl w.heap.size w).alloc (Nat.le_refl _) (.cells #[] 2))
  cases hv : okL zs with
  | false =>
    have E := E1.out hv
    subst E
    rw [hv] at HV
    simp only [Bool.false_eq_true, if_false] at HV
    clear hv
    go_enter Try.func12, Try.ntmps12
    go_wp2_with fail
    refine HV.out.mono ?_
    rintro e w1 ⟨rfl, rfl⟩
    go_wp2_with fail
    go_ret2
    exact ⟨_, rfl, OwnI.nil _ _ _ _, B00.out⟩
  | true =>
    rw [hv] at HV
    simp only [if_true] at HV
    by_cases h60 : n ≤ 60
    · rw [if_pos h60] at HV
      have E3 := hid (E3.out hv (by rw [← HN.out]; exact h60))
      have E4 := hid (E4.out hv (by rw [← HN.out]; exact h60))
      have O0 := hid (World.ownsRow_lit (base := w.heap.size) (e := 2) (size := 1) w #[] 0 (Nat.le_refl _) (by unfold maxLen; omega) rfl)
      clear hv
      go_enter Try.func12, Try.ntmps12
      go_wp2_with fail
      refine HV.out.mono ?_
      rintro e w1 ⟨rfl, rfl⟩
      go_wp2_with fail
      go_loopw [7, 8, 9] (fun v o i wr => ∃ k : Nat, k ≤ n ∧ i = .int .i64 k ∧ o = .int .i64 (mostT ts k) ∧ wr.ownsRow w.heap.size 2 1 v (numsT ts k).length ((numsT ts k).map (Value.int .i64)) ∧ (∀ j, j < k → genF zs (ts[j]?.getD (fun _ => 0)) = true) ∧ Below w.heap.size w wr) (fun _ _ i _ => n - (intOf i).toNat)
      case atStart => exact ⟨0, Nat.zero_le _, rfl, rfl, O0.out, fun j h => by omega, B00.out⟩
      case round =>
        obtain ⟨k, hk, rfl, rfl, hown, hg, hB⟩ := hrel
        have HGJ := hid hg
        have hzr := hB.size
        have hNl := numsT_len ts k
        have hOI := OwnI.of_owns hown (by omega)
        clear hg
        by_cases hlt : k < n
        · have hlt' : (k : Int) < (n : Int) := by omega
          have hk0 : (0 : Int) ≤ (k : Int) := by omega
          have HTBk := HTB.out k (by rw [← HN.out]; exact hlt)
          have hcc := hC.out k (by rw [← HN.out]; exact hlt)
          have HBAD := hid (fun g => E3.out k (by rw [← HN.out]; exact hlt) g)
          obtain ⟨f, hf⟩ : ∃ f, ts[k]?.getD (fun _ => 0) = f := ⟨_, rfl⟩
          have hcc' : ∀ i, i < 10 → w.cell? ⟨b, k * 10 + i, none⟩ = some (tkv i (f i)) := fun i hi => by rw [hcc i hi, tk, hf]
          have ht0 : tk ts k 0 = f 0 := by rw [tk, hf]
          have HNS := hid (numsT_succ ts k)
          have HMS := hid (mostT_succ ts k)
          rw [hf] at HTBk HBAD
          rw [ht0] at HNS HMS
          have HGF := hid hf
          have hbw : b < wr.heap.size := Nat.lt_of_lt_of_le hbl hzr
          have HCA := hid (fun (w' : World) (h : Below wr.heap.size wr w') (i : Nat) (hi : i < 10) => (h.cell (p := ⟨b, k * 10 + i, none⟩) hbw).trans ((hB.cell (p := ⟨b, k * 10 + i, none⟩) hbl).trans (hcc' i hi)))
          have HGA := hid (l07GenuineAt_any b (k * 10) B m cap zs (f 0) (f 1) (f 2) (f 3) (f 4) (f 5) (f 6) (f 7) (f 8) (f 9) wr (HSS.out.below hB HSS.out.1) HMM.out HTBk.1 HTBk.2.1 (fun w'' hh => And.intro (HCA.out _ hh 0 (by omega)) (And.intro (HCA.out _ hh 1 (by omega)) (And.intro (HCA.out _ hh 2 (by omega)) (And.intro (HCA.out _ hh 3 (by omega)) (And.intro (HCA.out _ hh 4 (by omega)) (And.intro (HCA.out _ hh 5 (by omega)) (And.intro (HCA.out _ hh 6 (by omega)) (And.intro (HCA.out _ hh 7 (by omega)) (And.intro (HCA.out _ hh 8 (by omega)) (HCA.out _ hh 9 (by omega))))))))))))
          have hgv : gen zs [f 1, f 2, f 3, f 4, f 5, f 6, f 7, f 8] (f 0) (f 9) = genF zs f := rfl
          rw [hgv] at HGA
          have HGJ2 := hid (fun (g : genF zs f = true) => show ∀ j, j < k + 1 → genF zs (ts[j]?.getD (fun _ => 0)) = true from fun j hj => by
            by_cases e : j = k
            · rw [e, HGF.out]; exact g
            · exact HGJ.out j (by omega))
          obtain ⟨gv, hgv2⟩ : ∃ z, genF zs f = z := ⟨_, rfl⟩
          rw [hgv2] at HGA HBAD HGJ2
          have HC0 := hid (fun (w' : World) (h : Below wr.heap.size wr w') => show w'.cell? ⟨b, k * 10, none⟩ = some (.int .i64 (f 0)) from HCA.out w' h 0 (by omega))
          obtain ⟨x0, hx0⟩ : ∃ x, f 0 = x := ⟨_, rfl⟩
          rw [hx0] at HC0 HNS HMS
          obtain ⟨N, hNN⟩ : ∃ N, numsT ts k = N := ⟨_, rfl⟩
          rw [hNN] at hown hNl hOI HNS
          obtain ⟨mo, hmo⟩ : ∃ z, mostT ts k = z := ⟨_, rfl⟩
          rw [hmo] at HMS ⊢
          have HBX := hid hB
          have HOW := hid hown
          have HOI := hid hOI
          have HNL := hid hNl
          clear hgv hgv2 hcc hcc' hf ht0 hx0 HTBk hB hown hOI hNl hNN hmo
          cases gv
          · have EQ := HBAD.out rfl
            subst EQ
            go_wp2_with fail
            refine HGA.out.mono ?_
            rintro e w2 ⟨rfl, hB2⟩
            have b2 := hid ((HBX.out.trans (hB2.mono hzr)).alloc (Nat.le_trans hzr hB2.size) (.cells #[] 2))
            clear hB2
            go_wp2_with fail
            go_ret2
            exact ⟨_, rfl, OwnI.nil _ _ _ _, b2.out⟩
          · go_wp2_with fail
            refine HGA.out.mono ?_
            rintro e w2 ⟨rfl, hB2⟩
            have b2 := hid (HBX.out.trans (hB2.mono hzr))
            have O2 := hid (owns_belowT HOW.out hB2)
            have OI2 := hid (HOI.out.keep hB2)
            have c0 := HC0.out _ hB2
            have hz2 := b2.out.size
            clear hB2
            go_wp2_with fail
            refine (has_any _ _ N x0 _ OI2.out).mono ?_
            rintro e w3 ⟨rfl, rfl⟩
            by_cases hmem : x0 ∈ N
            · rw [decide_eq_true hmem]
              have HA := hid (addN_yes hmem)
              clear hmem
              go_wp2_with fail
              refine (maxN_any mo x0 _).mono ?_
              rintro e w3 ⟨rfl, rfl⟩
              go_wp2_with fail
              go_roundw
              case rel => exact ⟨k + 1, by omega, by go_num, by rw [HMS.out], by rw [HNS.out, HA.out]; exact O2.out, HGJ2.out (by first | rfl | trivial), b2.out⟩
              case measure => simp [intOf]; omega
            · rw [decide_eq_false hmem]
              have HA := hid (addN_no hmem)
              clear hmem
              have HO1 := hid (O2.out.alloc (.cells #[.int .i64 x0] 2))
              have HBA := hid (b2.out.alloc hz2 (.cells #[.int .i64 x0] 2))
              have n0 := (Row.new w2 2 [.int .i64 x0]).cell 0
              simp only [List.getElem?_cons_zero] at n0
              have hbw2 : b < w2.heap.size := Nat.lt_of_lt_of_le hbl hz2
              go_wp2_with (at_builtin; refine wpList_append_own _ rfl _ _ 34 rfl w.heap.size 2 i0 (.int .i64 0) 1 8 Try.underlying34 hi iz0 iz1 iz2 rfl (by decide) _ _ _ rfl HO1.out ⟨w2.heap.size, 0, none⟩ 1 1 [.int .i64 x0] rfl rfl (by intro j u hj; match j, hj with | 0, hj => simp at hj; subst hj; simp [Addr.add, n0]) (by intro u hu; simp at hu; subst hu; rfl) (by have := HNL.out; unfold maxLen; omega) (by have := HNL.out; omega) (by simp; omega) ?_; intro v' w4 hown' hgrow _; have HB4 := hid (HBA.out.grown hgrow (by simp; omega) (fun k e => by have := (HO1.out.lt k e).1; omega)); have c0 := (HB4.out.cell (p := ⟨b, k * 10, none⟩) hbl).trans ((b2.out.cell (p := ⟨b, k * 10, none⟩) hbl).symm.trans c0))
              have hown2 := hid (show w4.ownsRow w.heap.size 2 1 v' (N ++ [x0]).length ((N ++ [x0]).map (Value.int .i64)) by
                rw [List.length_append, List.map_append]; exact hown')
              clear hown' hgrow n0
              refine (maxN_any mo x0 _).mono ?_
              rintro e w5 ⟨rfl, rfl⟩
              go_wp2_with fail
              go_roundw
              case rel => exact ⟨k + 1, by omega, by go_num, by rw [HMS.out], by rw [HNS.out, HA.out]; exact hown2.out, HGJ2.out (by first | rfl | trivial), HB4.out⟩
              case measure => simp [intOf]; omega
        · obtain rfl : k = n := by omega
          obtain ⟨wo, rfl⟩ : ∃ z, z = wr := ⟨_, rfl⟩
          have hgn := HGJ.out
          have E := E4.out (fun j hj => hgn j (by have := HN.out; omega))
          have hnum := fun j (hj : j < k) => genF_num (hgn j hj)
          have hbd := HMB.out k (fun j hj => (hnum j hj).2)
          rw [← HN.out] at E
          obtain ⟨N, hNN⟩ : ∃ N, numsT ts k = N := ⟨_, rfl⟩
          obtain ⟨mo, hmo⟩ : ∃ z, mostT ts k = z := ⟨_, rfl⟩
          rw [hNN] at E hOI hNl hown
          rw [hmo] at E hbd ⊢
          obtain ⟨g, rfl⟩ := Int.eq_ofNat_of_zero_le hbd.1
          have hg6 : g ≤ 1000000 := by omega
          have tw : IntKind.i64.wrap ((g : Int) - (N.length : Int)) = (g : Int) - (N.length : Int) := IntWalk.i64_in _ (by omega)
          have HOI := hid hOI
          have BR := hid hB
          obtain ⟨a, cp, rfl, _, _⟩ := hOI
          clear hgn hnum hNN hmo hbd hown hNl hB
          by_cases h1000 : (1000 : Int) < (g : Int) - (N.length : Int)
          · rw [if_pos h1000] at E
            subst E
            have d1 : decide ((1000 : Int) < (g : Int) - (N.length : Int)) = true := decide_eq_true h1000
            have b2 := hid (BR.out.alloc hzr (.cells #[] 2))
            go_wp2_with fail
            go_ret2
            exact ⟨_, rfl, OwnI.nil _ _ _ _, b2.out⟩
          · rw [if_neg h1000] at E
            have E := hid E
            have d1 : decide ((1000 : Int) < (g : Int) - (N.length : Int)) = false := decide_eq_false h1000
            have O0 := hid (World.ownsRow_lit (base := wo.heap.size) (e := 2) (size := 1) wo #[] 0 (Nat.le_refl _) (by unfold maxLen; omega) rfl)
            have BX0 := hid ((Below.refl wo.heap.size wo).alloc (Nat.le_refl _) (.cells #[] 2))
            clear h1000
            go_wp2_with fail
            go_loopw [10, 11] (fun v i wr => ∃ q : Nat, q ≤ g ∧ i = .int .i64 ((q : Int) + 1) ∧ wr.ownsRow wo.heap.size 2 1 v (missL N q).length ((missL N q).map (Value.int .i64)) ∧ Below wo.heap.size wo wr) (fun _ i _ => g + 1 - (intOf i).toNat)
            case atStart => exact ⟨0, Nat.zero_le _, rfl, O0.out, BX0.out⟩
            case round =>
              obtain ⟨q, hq, rfl, hown, hBx⟩ := hrel
              have hzx := hBx.size
              have HOW := hid hown
              have HBX := hid hBx
              by_cases hlt2 : q < g
              · have hl1 : (q : Int) + 1 ≤ (g : Int) := by omega
                have ecast : ((q + 1 : Nat) : Int) = (q : Int) + 1 := by omega
                have tq : IntKind.i64.wrap ((q : Int) + 1 + 1) = (q : Int) + 1 + 1 := IntWalk.i64_in _ (by omega)
                have HY := hid (fun h => missL_yes (N := N) (k := q) h)
                have HNO := hid (fun h => missL_no (N := N) (k := q) h)
                rw [ecast] at HY HNO
                have MLEN := hid (missL_len N q)
                have OX := hid (HOI.out.keep hBx)
                clear hown hBx
                go_wp2_with fail
                refine (has_any _ _ N ((q : Int) + 1) _ OX.out).mono ?_
                rintro e w3 ⟨rfl, rfl⟩
                by_cases hmem : (q : Int) + 1 ∈ N
                · rw [decide_eq_true hmem]
                  have HY := hid (HY.out hmem)
                  clear hmem
                  go_wp2_with fail
                  go_roundw
                  case rel => exact ⟨q + 1, by omega, by first | go_num | (congr 1; omega), by rw [HY.out]; exact HOW.out, HBX.out⟩
                  case measure => simp [intOf]; omega
                · rw [decide_eq_false hmem]
                  have HNO := hid (HNO.out hmem)
                  clear hmem
                  have HO1 := hid (HOW.out.alloc (.cells #[.int .i64 ((q : Int) + 1)] 2))
                  have HBA := hid (HBX.out.alloc hzx (.cells #[.int .i64 ((q : Int) + 1)] 2))
                  have n0 := (Row.new wr 2 [.int .i64 ((q : Int) + 1)]).cell 0
                  simp only [List.getElem?_cons_zero] at n0
                  go_wp2_with (at_builtin; refine wpList_append_own _ rfl _ _ 34 rfl wo.heap.size 2 i0 (.int .i64 0) 1 8 Try.underlying34 hi iz0 iz1 iz2 rfl (by decide) _ _ _ rfl HO1.out ⟨wr.heap.size, 0, none⟩ 1 1 [.int .i64 ((q : Int) + 1)] rfl rfl (by intro j u hj; match j, hj with | 0, hj => simp at hj; subst hj; simp [Addr.add, n0]) (by intro u hu; simp at hu; subst hu; rfl) (by have := MLEN.out; unfold maxLen; omega) (by have := MLEN.out; omega) (by simp; omega) ?_; intro v' w2 hown' hgrow _)
                  have HB2 := hid (HBA.out.grown hgrow (by simp; omega) (fun k e => by have := (HO1.out.lt k e).1; omega))
                  have hown2 := hid (show w2.ownsRow wo.heap.size 2 1 v' (missL N (q + 1)).length ((missL N (q + 1)).map (Value.int .i64)) by
                    rw [HNO.out, List.length_append, List.map_append]; exact hown')
                  clear hown' hgrow n0
                  go_roundw
                  case rel => exact ⟨q + 1, by omega, by first | go_num | (congr 1; omega), hown2.out, HB2.out⟩
                  case measure => simp [intOf]; omega
              · obtain rfl : q = g := by omega
                have hl1 : ¬ (q : Int) + 1 ≤ (q : Int) := by omega
                have E := E.out
                rw [Int.toNat_natCast] at E
                subst E
                have HO := hid (OwnI.of_owns hown (by have := missL_len N q; omega))
                clear hown hBx
                go_wp2_with fail
                go_ret2
                have HO := HO.out.lowb hzr
                exact ⟨_, rfl, HO, BR.out.trans (HBX.out.mono hzr)⟩
    · rw [if_neg h60] at HV
      have E := E2.out hv (by rw [← HN.out]; omega)
      subst E
      clear hv h60
      go_enter Try.func12, Try.ntmps12
      go_wp2_with fail
      refine HV.out.mono ?_
      rintro e w1 ⟨rfl, rfl⟩
      go_wp2_with fail
      go_ret2
      exact ⟨_, rfl, OwnI.nil _ _ _ _, B00.out⟩
end Go.Proofs.Ytnfgapgjkkeofaa
