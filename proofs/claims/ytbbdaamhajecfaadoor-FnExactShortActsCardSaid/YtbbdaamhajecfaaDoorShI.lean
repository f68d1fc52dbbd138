/- spec.ShortActs. -/
import Derived.Test.YtbbdaamhajecfaaDoorShG
import Derived.BigQuiet
namespace Go.Proofs.YtbbdaamhajecfaaDoor
open Go.RowKit
set_option linter.unusedVariables false
set_option linter.unusedSimpArgs false
theorem avals_setN (l : List (Int × Int)) (Q : Nat) (p x : Int) (hQ : l.length = Q + 1) (hk : (lastA l).1 = p) : (avals l).set (Q * 2 + 1) (.int .i64 x) = avals (l.set Q (p, x)) := by
  have e := avals_set l Q p x [] (by omega)
  rw [List.append_nil, List.append_nil] at e
  have g := (lastA_get l [] (by omega)).1
  rw [hQ, Nat.add_sub_cancel, List.append_nil, hk] at g
  have e2 : (avals l).set (Q * 2) (.int .i8 p) = avals l := by
    apply List.ext_getElem?
    intro j
    by_cases hj : Q * 2 = j
    · subst hj
      have hlt := (List.getElem?_eq_some_iff.1 g).1
      rw [List.getElem?_set_self hlt, g]
    · rw [List.getElem?_set_ne hj]
  rw [e2] at e
  exact e
theorem joined_cell {W : World} {g : Nat} {T : TypeId} {l : List (Int × Int)} {Q : Nat} {p x : Int} {rest : List Value} (h : Row W g T (avals (l.set Q (p, x)) ++ rest)) (hQ : Q < l.length) : W.cell? ⟨g, Q * 2 + 1, none⟩ = some (.int .i64 x) := by
  have e := ak_set l Q Q (p, x) hQ
  rw [if_pos rfl] at e
  have e2 : an (l.set Q (p, x)) Q = x := congrArg Prod.snd e
  have h2 := (h.cell (Q * 2 + 1)).trans (avals_get (l.set Q (p, x)) rest Q (by rw [List.length_set]; exact hQ)).2
  rw [e2] at h2
  exact h2
set_option maxRecDepth 100000 in
set_option maxHeartbeats 1500000 in
theorem specShortActs_any (Y n cap : Nat) (js : List (Int × Int)) (w : World) (hA : Ast w Y js) (hn : n = js.length) : Calls Tryd.prog 5 #[.slice (some ⟨Y, 0, none⟩) n cap] w (ShG (shL js) (shC js) w) := by
  obtain ⟨i0, hi0, iz0, iz1, iz2⟩ := info_parts Tryd.infoActL
  have hIA : (Tryd.prog.info? 34).map (·.size) = some 2 := by kernel_rfl
  have hl := hA.2.2
  rw [← hn] at hl
  have HA := hid hA; have HN := hid hn
  clear hA hn
  go_enter Tryd.func5, Tryd.ntmps5
  go_wp2_with fail
  go_loopw [4] (fun i wr => ∃ k : Nat, k ≤ n ∧ i = .int .i64 k ∧ okATo js k ∧ Below w.heap.size w wr) (fun i _ => n - (intOf i).toNat)
  case atStart => exact ⟨0, Nat.zero_le _, rfl, okATo_zero js, Below.refl _ _⟩
  case round =>
    obtain ⟨k, hk, rfl, hto, hB⟩ := hrel
    have hzr := hB.size
    by_cases hkn : k < n
    · have hkl : k < js.length := by have := HN.out; omega
      obtain ⟨x0, x1⟩ := (HA.out.below hB HA.out.1).2.1 k hkl
      have HTO := hid hto
      have HBD := hid (fun h => okAs_bad (js := js) k hkl h)
      have HST := hid (fun h => okATo_succ (js := js) (k := k) HTO.out h)
      have HF := hid (l07Act_any (ak js k) (an js k) wr)
      obtain ⟨r, hr⟩ : ∃ r, okAct (ak js k) (an js k) = r := ⟨_, rfl⟩
      rw [hr] at HF HBD HST
      obtain ⟨p, hp⟩ : ∃ y, ak js k = y := ⟨_, rfl⟩
      obtain ⟨q, hq⟩ : ∃ y, an js k = y := ⟨_, rfl⟩
      rw [hp] at x0 HF
      rw [hq] at x1 HF
      have k0 : (0 : Int) ≤ (k : Int) := by omega
      have k1 : (k : Int) < (n : Int) := by omega
      have w1' : IntKind.i64.wrap ((k : Int) + 1) = (k : Int) + 1 := IntWalk.i64_in _ (by omega)
      have HB := hid hB
      clear hr hp hq hto hB
      cases r
      · go_wp2_with fail
        refine HF.out.mono ?_
        rintro e w1 ⟨rfl, hB1⟩
        have HB1 := hid (HB.out.trans (hB1.mono hzr))
        clear hB1
        go_wp2_with fail
        have hC := shC_bad (HBD.out (by simp))
        exact bodyPost_ret (v := .tuple #[.slice (some ⟨w1.heap.size, 0, none⟩) 0 0, .int .i64 1]) (by simp [results, Tryd.results5, go_sem]) rfl ⟨_, by rw [hC.1], by rw [hC.2]; exact OwnA.nil _ _ _ _, HB1.out.alloc HB1.out.size _⟩
      · go_wp2_with fail
        refine HF.out.mono ?_
        rintro e w1 ⟨rfl, hB1⟩
        have HB1 := hid (HB.out.trans (hB1.mono hzr))
        clear hB1
        go_wp2_with fail
        go_roundw
        case rel => exact ⟨k + 1, by omega, by go_num, HST.out (by simp), HB1.out⟩
        case measure => simp [intOf]; omega
    · obtain rfl : k = n := by omega
      have k1 : ¬ (k : Int) < (k : Int) := by omega
      have ho := okAs_of (js := js) (by rw [← HN.out]; exact hto)
      have HTO := hid (okAs_out ho)
      have HO := hid ho; have HB0 := hid hB
      clear hto ho hB
      by_cases h6 : 60 < js.length
      · have h6' : (60 : Int) < (k : Int) := by have := HN.out; omega
        have HCL := hid (shC_long HO.out h6)
        clear h6
        go_wp2_with fail
        have hC := HCL.out
        exact bodyPost_ret (v := .tuple #[.slice (some ⟨wr.heap.size, 0, none⟩) 0 0, .int .i64 3]) (by simp [results, Tryd.results5, go_sem]) rfl ⟨_, by rw [hC.1], by rw [hC.2]; exact OwnA.nil _ _ _ _, HB0.out.alloc HB0.out.size _⟩
      have H6 := hid h6
      have h6' : ¬ (60 : Int) < (k : Int) := by have := HN.out; omega
      have hk60 : k ≤ 60 := by have := HN.out; omega
      obtain ⟨n, rfl⟩ : ∃ y, y = k := ⟨_, rfl⟩
      clear h6 k1
      go_wp2_with fail
      go_loopw [5, 6] (fun s5 i wv => ∃ (k : Nat) (v : Value), k ≤ n ∧ i = .int .i64 k ∧ v = s5 ∧ wv.ownsRow w.heap.size 34 2 v (shF js k).length (avals (shF js k)) ∧ ¬ bigA (shF js k) ∧ Below w.heap.size w wv) (fun _ i _ => n - (intOf i).toNat)
      case atStart => exact ⟨0, _, Nat.zero_le _, rfl, rfl, World.ownsRow_made _ _ 0 HB0.out.size (by decide) rfl, big_zero js, HB0.out.alloc HB0.out.size _⟩
      case round =>
        obtain ⟨k, v, hk, rfl, rfl, hO, hNB, hB⟩ := hrel
        by_cases hkn : k < n
        · have hkl : k < js.length := by have := HN.out; omega
          obtain ⟨x0, x1⟩ := (HA.out.below hB HA.out.1).2.1 k hkl
          have HOK := hid (HTO.out k hkl)
          have HL := hid (show (shF js k).length ≤ 60 from by have := shF_len js k; omega)
          have HI := hid (inv_F HTO.out k (by omega))
          have HS := hid (show shF js (k + 1) = shStep (shF js k) (ak js k) (an js k) from rfl)
          have HNB := hid hNB
          have HSR := hid hB.size
          obtain ⟨l, hlq⟩ : ∃ y, shF js k = y := ⟨_, rfl⟩
          obtain ⟨p, hp⟩ : ∃ y, ak js k = y := ⟨_, rfl⟩
          obtain ⟨q, hq⟩ : ∃ y, an js k = y := ⟨_, rfl⟩
          rw [hlq] at hO HNB HL HI HS
          rw [hp] at x0 HOK HS
          rw [hq] at x1 HOK HS
          have k0 : (0 : Int) ≤ (k : Int) := by omega
          have k1 : (k : Int) < (n : Int) := by omega
          have w1' : IntKind.i64.wrap ((k : Int) + 1) = (k : Int) + 1 := IntWalk.i64_in _ (by omega)
          obtain ⟨V, hV⟩ : ∃ y, y = wr.alloc (.cells #[.int .i8 p, .int .i64 q] 34) := ⟨_, rfl⟩
          have rB : Row V wr.heap.size 34 [.int .i8 p, .int .i64 q] := by rw [hV]; exact Row.new wr _ _
          have oV : V.ownsRow w.heap.size 34 2 v l.length (avals l) := by rw [hV]; exact hO.alloc _
          have bV : Below w.heap.size w V := by rw [hV]; exact hB.alloc hB.size _
          have HV := hid hV
          obtain ⟨c, hc⟩ : ∃ y, isCnt p = y := ⟨_, rfl⟩
          have HCP := hid hc
          clear hlq hp hq hO hNB hB hc
          go_upto_region 13 with fail
          rw [← HV.out]
          clear x0 x1 hV
          have x0 := rB.cell 0; have x1 := rB.cell 1
          simp only [List.getElem?_cons_zero, List.getElem?_cons_succ] at x0 x1
          go_cut [8] (fun s8 wx => V = wx ∧ s8 = .bool c)
          case first =>
            have hc := HCP.out; have hok := HOK.out
            clear rB oV bV HOK HCP HS HNB HI HL
            rcases okAct_kind hok with rfl | rfl | rfl | rfl | rfl
            all_goals (clear hok; go_wp2_with fail; go_meet; exact ⟨rfl, by rw [← hc]; rfl⟩)
          case rest =>
            obtain ⟨rfl, rfl⟩ := hcut
            cases c
            · have h0 : (isCnt p && q == 0) = false := by rw [HCP.out]; rfl
              by_cases hl0 : l = []
              · have J : joins l p = false := by subst hl0; simp [joins]
                have HST := hid (st_app h0 J)
                subst hl0
                have hl60 := HL.out
                obtain ⟨va, vc, rfl⟩ : ∃ a c, v = .slice a 0 c := by
                  rcases owns_acts oV with ⟨_, a, c, h⟩ | ⟨h, _⟩
                  · exact ⟨a, c, h⟩
                  · simp at h
                have HQ := hid (show True from trivial)
                clear J h0
                have RBH := hid rB; have OVH := hid oV; have BVH := hid bV
                clear rB oV bV
                go_upto_region 16 with fail
                go_quiet (fail)
                go_upto_region 17 with fail
                obtain ⟨D, hD⟩ : ∃ y, y = V.drewN nq := ⟨_, rfl⟩
                have HVD := hid hD
                have dV : Below V.heap.size V D := by rw [hD]; exact below_drewN (Below.refl _ _) _
                have rD := RBH.out.below dV RBH.out.lt
                have oD := owns_belowP OVH.out dV
                have bD := BVH.out.trans (dV.mono BVH.out.size)
                rw [← HVD.out]
                clear hD
                clear dV x0 x1 
                have x0 := rD.cell 0; have x1 := rD.cell 1
                simp only [List.getElem?_cons_zero, List.getElem?_cons_succ] at x0 x1
                have HO4 := hid (oD.alloc (.cells #[.int .i8 p, .int .i64 q] 34))
                have nc := hid (cellsAt (Row.new D 34 [.int .i8 p, .int .i64 q]))
                have HB7 := hid (show Below w.heap.size w (D.alloc (.cells #[.int .i8 p, .int .i64 q] 34)) from bD.alloc bD.size _)
                have HBW := hid (show w.heap.size ≤ (D.alloc (.cells #[.int .i8 p, .int .i64 q] 34)).heap.size by simp; have := bD.size; omega)
                clear rD oD bD
                go_wp2_with (at_builtin; refine wpList_append_own _ rfl _ _ 24 rfl w.heap.size 34 i0 (.agg #[.int .i8 0, .int .i64 0]) 2 16 Tryd.underlying24 hi0 iz0 iz1 iz2 rfl (by decide) _ _ _ rfl HO4.out ⟨D.heap.size, 0, none⟩ 1 1 ([.int .i8 p, .int .i64 q] : List Value) rfl rfl nc.out (act2_one p q) (by unfold maxLen; omega) (by omega) HBW.out ?_; rintro v' w7 hown' hgrow -; have OWN := hid hown'; have GRW := hid hgrow; clear hown' hgrow)
                have bel := HB7.out.grown GRW.out HBW.out (fun kk e => by have := (HO4.out.lt kk e).1; omega)
                have OW := OWN.out
                rw [← avals_snoc] at OW
                have HOW := hid OW
                have HBE := hid bel
                clear bel OW
                go_roundw
                case rel => exact ⟨k + 1, v', by omega, by go_num, rfl, by rw [HS.out, HST.out]; first | exact HOW.out | (rw [List.length_append, List.length_singleton]; first | exact HOW.out | (rw [HQ.out]; exact HOW.out)), by rw [HS.out, HST.out]; exact big_app HNB.out HOK.out, HBE.out⟩
                case measure => simp [intOf]; omega
              · have h1 : 1 ≤ l.length := by have := List.length_pos_iff.2 hl0; omega
                obtain ⟨Q, hQ⟩ : ∃ Q, l.length = Q + 1 := ⟨l.length - 1, by omega⟩
                obtain ⟨g, cp, rst, rfl, hg, hr⟩ : ∃ g cp rest, v = .slice (some ⟨g, 0, none⟩) l.length cp ∧ w.heap.size ≤ g ∧ Row V g 34 (avals l ++ rest) := by
                  rcases owns_acts oV with ⟨h, _⟩ | ⟨_, h⟩
                  · exact absurd h hl0
                  · exact h
                have hg2 := lastA_get l rst h1
                rw [hQ, Nat.add_sub_cancel] at hg2
                have y0 := (hr.cell (Q * 2)).trans hg2.1
                have y1 := (hr.cell (Q * 2 + 1)).trans hg2.2
                have hLI := lastA_inv HI.out h1
                obtain ⟨kl, hK1⟩ : ∃ y, (lastA l).1 = y := ⟨_, rfl⟩
                obtain ⟨la, hA1⟩ : ∃ y, (lastA l).2 = y := ⟨_, rfl⟩
                rw [hK1] at y0 hLI
                rw [hA1] at y1 hLI
                rw [hQ] at oV ⊢
                have hq60 : Q ≤ 59 := by have := HL.out; omega
                have q0 : (0 : Int) ≤ (Q : Int) := by omega
                have q1 : (Q : Int) < (Q : Int) + 1 := by omega
                have qw : IntKind.i64.wrap ((Q : Int) + 1 - 1) = (Q : Int) := by rw [show (Q : Int) + 1 - 1 = (Q : Int) by omega]; exact IntWalk.i64_in _ (by omega)
                have qn : decide ((Q : Int) < 0) = false := by simp
                have HQ := hid hQ; have HG := hid hg; have HGL := hid hr.lt; have HR := hid hr
                clear hQ h1 hl0 hg hr hg2
                by_cases hne : kl = p
                · subst hne
                  have dk : (kl != kl) = false := by simp
                  by_cases hp5 : kl = 5
                  · have J : joins l kl = false := by simp [joins, hp5]
                    have HST := hid (st_app h0 J)
                    have d5 : (kl == 5) = true := by simpa using hp5
                    clear J h0 hK1 hA1 hLI hp5
                    have RBH := hid rB; have OVH := hid oV; have BVH := hid bV
                    clear rB oV bV
                    go_upto_region 16 with fail
                    go_quiet (fail)
                    go_upto_region 17 with fail
                    obtain ⟨D, hD⟩ : ∃ y, y = V.drewN nq := ⟨_, rfl⟩
                    have HVD := hid hD
                    have dV : Below V.heap.size V D := by rw [hD]; exact below_drewN (Below.refl _ _) _
                    have rD := RBH.out.below dV RBH.out.lt
                    have oD := owns_belowP OVH.out dV
                    have bD := BVH.out.trans (dV.mono BVH.out.size)
                    rw [← HVD.out]
                    clear hD
                    clear dV x0 x1 y0 y1
                    have x0 := rD.cell 0; have x1 := rD.cell 1
                    simp only [List.getElem?_cons_zero, List.getElem?_cons_succ] at x0 x1
                    have HO4 := hid (oD.alloc (.cells #[.int .i8 kl, .int .i64 q] 34))
                    have nc := hid (cellsAt (Row.new D 34 [.int .i8 kl, .int .i64 q]))
                    have HB7 := hid (show Below w.heap.size w (D.alloc (.cells #[.int .i8 kl, .int .i64 q] 34)) from bD.alloc bD.size _)
                    have HBW := hid (show w.heap.size ≤ (D.alloc (.cells #[.int .i8 kl, .int .i64 q] 34)).heap.size by simp; have := bD.size; omega)
                    clear rD oD bD
                    go_wp2_with (at_builtin; refine wpList_append_own _ rfl _ _ 24 rfl w.heap.size 34 i0 (.agg #[.int .i8 0, .int .i64 0]) 2 16 Tryd.underlying24 hi0 iz0 iz1 iz2 rfl (by decide) _ _ _ rfl HO4.out ⟨D.heap.size, 0, none⟩ 1 1 ([.int .i8 kl, .int .i64 q] : List Value) rfl rfl nc.out (act2_one kl q) (by unfold maxLen; omega) (by omega) HBW.out ?_; rintro v' w7 hown' hgrow -; have OWN := hid hown'; have GRW := hid hgrow; clear hown' hgrow)
                    have bel := HB7.out.grown GRW.out HBW.out (fun kk e => by have := (HO4.out.lt kk e).1; omega)
                    have OW := OWN.out
                    rw [← avals_snoc] at OW
                    have HOW := hid OW
                    have HBE := hid bel
                    clear bel OW
                    go_roundw
                    case rel => exact ⟨k + 1, v', by omega, by go_num, rfl, by rw [HS.out, HST.out]; first | exact HOW.out | (rw [List.length_append, List.length_singleton]; first | exact HOW.out | (rw [HQ.out]; exact HOW.out)), by rw [HS.out, HST.out]; exact big_app HNB.out HOK.out, HBE.out⟩
                    case measure => simp [intOf]; omega
                  · have d5 : (kl == 5) = false := by simpa using hp5
                    have h9 : 1 ≤ l.length := by rw [HQ.out]; omega
                    have J : joins l kl = true := by unfold joins; rw [hK1, decide_eq_true h9]; simp [hp5]
                    have HST := hid (show shStep l kl q = l.set Q (kl, q) from by rw [st_set h0 J HCP.out, HQ.out, Nat.add_sub_cancel])
                    have HK1 := hid hK1
                    skip
                    clear J h0 h9 hK1 hA1 hLI
                    have RBH := hid rB; have OVH := hid oV; have BVH := hid bV
                    clear rB oV bV
                    go_upto_region 16 with fail
                    go_quiet (fail)
                    go_upto_region 20 with fail
                    obtain ⟨D, hD⟩ : ∃ y, y = V.drewN nq := ⟨_, rfl⟩
                    have HVD := hid hD
                    have dV : Below V.heap.size V D := by rw [hD]; exact below_drewN (Below.refl _ _) _
                    have rD := RBH.out.below dV RBH.out.lt
                    have oD := owns_belowP OVH.out dV
                    have bD := BVH.out.trans (dV.mono BVH.out.size)
                    rw [← HVD.out]
                    clear hD
                    replace y0 := (dV.cell (p := ⟨g, Q * 2, none⟩) HGL.out).trans y0
                    replace y1 := (dV.cell (p := ⟨g, Q * 2 + 1, none⟩) HGL.out).trans y1
                    have rG := HR.out.below dV HR.out.lt
                    clear x0 x1 dV
                    have x0 := rD.cell 0; have x1 := rD.cell 1
                    simp only [List.getElem?_cons_zero, List.getElem?_cons_succ] at x0 x1
                    go_cut [9] (fun s9 wx => ∃ W, W = wx ∧ s9 = .int .i64 (Q : Int) ∧ W.ownsRow w.heap.size 34 2 (.slice (some ⟨g, 0, none⟩) (Q + 1) cp) (Q + 1) (avals (l.set Q (kl, q))) ∧ Below w.heap.size w W)
                    case first =>
                      have ON := hid (owns_set2 oD (q := Q) (by rw [HQ.out]; omega) kl q)
                      have BN := hid (below_setCellsD (g := g) ([.int .i8 kl, .int .i64 q] : List Value) (Q * 2) _ bD HG.out)
                      have TT : D.there g (Q * 2) 2 := rG.thereO (Q * 2) 2 (by rw [List.length_append, avals_len, HQ.out]; omega)
                      clear rG oD bD
                      go_wp2_with (first | ((with_reducible refine wpList_load_row rfl 34 _ rfl wr.heap.size ?_ 34 ([.int .i8 kl, .int .i64 q] : List Value).toArray (0, 0) _ ?_ Tryd.underlying34 ?_ ?_ ?_); rfl; exact rD; rfl; exact hIA) | ((with_reducible refine wpList_store_mid rfl 34 _ _ rfl g (Q * 2) ([.int .i8 kl, .int .i64 q] : List Value).toArray ?_ ?_ ?_ ?_ (all_oneCell_toArray (act2_one kl q)) ?_); rfl; rfl; exact TT; exact hIA))
                      go_meet
                      exact ⟨_, rfl, rfl, ON.out, BN.out⟩
                    case rest =>
                      clear x0 x1 y0 y1 rG rD oD bD
                      obtain ⟨W5, rfl, rfl, o5, b5⟩ := hcut
                      obtain ⟨_, rst5, r5⟩ := owns_rowA o5
                      have z1 := joined_cell r5 (by rw [HQ.out]; omega)
                      have HO5 := hid o5; have HB5 := hid b5
                      clear o5 b5 r5
                      have hq1 : q ≤ 1000000000000 := (okAct_bd HOK.out).2.1
                      have hx : ¬ 1000000000000 < q := by omega
                      go_wp2_with fail
                      go_roundw
                      case rel => exact ⟨k + 1, _, by omega, by go_num, rfl, by rw [HS.out, HST.out, List.length_set, HQ.out]; exact HO5.out, by rw [HS.out, HST.out]; have := big_set (k := kl) (x := q) HNB.out (by rw [HQ.out]; omega) (by omega); rw [HQ.out, Nat.add_sub_cancel] at this; exact this, HB5.out⟩
                      case measure => simp [intOf]; omega
                · have J : joins l p = false := by simp [joins, hK1, hne]
                  have HST := hid (st_app h0 J)
                  have dk : (kl != p) = true := by simpa using hne
                  clear J h0 hK1 hA1 hLI
                  have RBH := hid rB; have OVH := hid oV; have BVH := hid bV
                  clear rB oV bV
                  go_upto_region 16 with fail
                  go_quiet (fail)
                  go_upto_region 17 with fail
                  obtain ⟨D, hD⟩ : ∃ y, y = V.drewN nq := ⟨_, rfl⟩
                  have HVD := hid hD
                  have dV : Below V.heap.size V D := by rw [hD]; exact below_drewN (Below.refl _ _) _
                  have rD := RBH.out.below dV RBH.out.lt
                  have oD := owns_belowP OVH.out dV
                  have bD := BVH.out.trans (dV.mono BVH.out.size)
                  rw [← HVD.out]
                  clear hD
                  clear dV x0 x1 y0 y1
                  have x0 := rD.cell 0; have x1 := rD.cell 1
                  simp only [List.getElem?_cons_zero, List.getElem?_cons_succ] at x0 x1
                  have HO4 := hid (oD.alloc (.cells #[.int .i8 p, .int .i64 q] 34))
                  have nc := hid (cellsAt (Row.new D 34 [.int .i8 p, .int .i64 q]))
                  have HB7 := hid (show Below w.heap.size w (D.alloc (.cells #[.int .i8 p, .int .i64 q] 34)) from bD.alloc bD.size _)
                  have HBW := hid (show w.heap.size ≤ (D.alloc (.cells #[.int .i8 p, .int .i64 q] 34)).heap.size by simp; have := bD.size; omega)
                  clear rD oD bD
                  go_wp2_with (at_builtin; refine wpList_append_own _ rfl _ _ 24 rfl w.heap.size 34 i0 (.agg #[.int .i8 0, .int .i64 0]) 2 16 Tryd.underlying24 hi0 iz0 iz1 iz2 rfl (by decide) _ _ _ rfl HO4.out ⟨D.heap.size, 0, none⟩ 1 1 ([.int .i8 p, .int .i64 q] : List Value) rfl rfl nc.out (act2_one p q) (by unfold maxLen; omega) (by omega) HBW.out ?_; rintro v' w7 hown' hgrow -; have OWN := hid hown'; have GRW := hid hgrow; clear hown' hgrow)
                  have bel := HB7.out.grown GRW.out HBW.out (fun kk e => by have := (HO4.out.lt kk e).1; omega)
                  have OW := OWN.out
                  rw [← avals_snoc] at OW
                  have HOW := hid OW
                  have HBE := hid bel
                  clear bel OW
                  go_roundw
                  case rel => exact ⟨k + 1, v', by omega, by go_num, rfl, by rw [HS.out, HST.out]; first | exact HOW.out | (rw [List.length_append, List.length_singleton]; first | exact HOW.out | (rw [HQ.out]; exact HOW.out)), by rw [HS.out, HST.out]; exact big_app HNB.out HOK.out, HBE.out⟩
                  case measure => simp [intOf]; omega
            · by_cases hq0 : q = 0
              · have HST := hid (st_idle (l := l) (k := p) (n := q) (by rw [HCP.out, hq0]; rfl))
                subst hq0
                have OVH := hid oV; have BVH := hid bV
                clear rB oV bV
                go_wp2_with fail
                go_roundw
                case rel => exact ⟨k + 1, v, by omega, by go_num, rfl, by rw [HS.out, HST.out]; exact OVH.out, by rw [HS.out, HST.out]; exact HNB.out, BVH.out⟩
                case measure => simp [intOf]; omega
              · have h0 : (isCnt p && q == 0) = false := by rw [HCP.out]; simpa using hq0
                have dq : (q == 0) = false := by simpa using hq0
                have hp5 : p ≠ 5 := by have := (isCnt_iff p).1 HCP.out; omega
                by_cases hl0 : l = []
                · have J : joins l p = false := by subst hl0; simp [joins]
                  have HST := hid (st_app h0 J)
                  subst hl0
                  have hl60 := HL.out
                  obtain ⟨va, vc, rfl⟩ : ∃ a c, v = .slice a 0 c := by
                    rcases owns_acts oV with ⟨_, a, c, h⟩ | ⟨h, _⟩
                    · exact ⟨a, c, h⟩
                    · simp at h
                  have HQ := hid (show True from trivial)
                  clear J h0
                  have RBH := hid rB; have OVH := hid oV; have BVH := hid bV
                  clear rB oV bV
                  go_upto_region 16 with fail
                  go_quiet (fail)
                  go_upto_region 17 with fail
                  obtain ⟨D, hD⟩ : ∃ y, y = V.drewN nq := ⟨_, rfl⟩
                  have HVD := hid hD
                  have dV : Below V.heap.size V D := by rw [hD]; exact below_drewN (Below.refl _ _) _
                  have rD := RBH.out.below dV RBH.out.lt
                  have oD := owns_belowP OVH.out dV
                  have bD := BVH.out.trans (dV.mono BVH.out.size)
                  rw [← HVD.out]
                  clear hD
                  clear dV x0 x1 
                  have x0 := rD.cell 0; have x1 := rD.cell 1
                  simp only [List.getElem?_cons_zero, List.getElem?_cons_succ] at x0 x1
                  have HO4 := hid (oD.alloc (.cells #[.int .i8 p, .int .i64 q] 34))
                  have nc := hid (cellsAt (Row.new D 34 [.int .i8 p, .int .i64 q]))
                  have HB7 := hid (show Below w.heap.size w (D.alloc (.cells #[.int .i8 p, .int .i64 q] 34)) from bD.alloc bD.size _)
                  have HBW := hid (show w.heap.size ≤ (D.alloc (.cells #[.int .i8 p, .int .i64 q] 34)).heap.size by simp; have := bD.size; omega)
                  clear rD oD bD
                  go_wp2_with (at_builtin; refine wpList_append_own _ rfl _ _ 24 rfl w.heap.size 34 i0 (.agg #[.int .i8 0, .int .i64 0]) 2 16 Tryd.underlying24 hi0 iz0 iz1 iz2 rfl (by decide) _ _ _ rfl HO4.out ⟨D.heap.size, 0, none⟩ 1 1 ([.int .i8 p, .int .i64 q] : List Value) rfl rfl nc.out (act2_one p q) (by unfold maxLen; omega) (by omega) HBW.out ?_; rintro v' w7 hown' hgrow -; have OWN := hid hown'; have GRW := hid hgrow; clear hown' hgrow)
                  have bel := HB7.out.grown GRW.out HBW.out (fun kk e => by have := (HO4.out.lt kk e).1; omega)
                  have OW := OWN.out
                  rw [← avals_snoc] at OW
                  have HOW := hid OW
                  have HBE := hid bel
                  clear bel OW
                  go_roundw
                  case rel => exact ⟨k + 1, v', by omega, by go_num, rfl, by rw [HS.out, HST.out]; first | exact HOW.out | (rw [List.length_append, List.length_singleton]; first | exact HOW.out | (rw [HQ.out]; exact HOW.out)), by rw [HS.out, HST.out]; exact big_app HNB.out HOK.out, HBE.out⟩
                  case measure => simp [intOf]; omega
                · have h1 : 1 ≤ l.length := by have := List.length_pos_iff.2 hl0; omega
                  obtain ⟨Q, hQ⟩ : ∃ Q, l.length = Q + 1 := ⟨l.length - 1, by omega⟩
                  obtain ⟨g, cp, rst, rfl, hg, hr⟩ : ∃ g cp rest, v = .slice (some ⟨g, 0, none⟩) l.length cp ∧ w.heap.size ≤ g ∧ Row V g 34 (avals l ++ rest) := by
                    rcases owns_acts oV with ⟨h, _⟩ | ⟨_, h⟩
                    · exact absurd h hl0
                    · exact h
                  have hg2 := lastA_get l rst h1
                  rw [hQ, Nat.add_sub_cancel] at hg2
                  have y0 := (hr.cell (Q * 2)).trans hg2.1
                  have y1 := (hr.cell (Q * 2 + 1)).trans hg2.2
                  have hLI := lastA_inv HI.out h1
                  obtain ⟨kl, hK1⟩ : ∃ y, (lastA l).1 = y := ⟨_, rfl⟩
                  obtain ⟨la, hA1⟩ : ∃ y, (lastA l).2 = y := ⟨_, rfl⟩
                  rw [hK1] at y0 hLI
                  rw [hA1] at y1 hLI
                  rw [hQ] at oV ⊢
                  have hq60 : Q ≤ 59 := by have := HL.out; omega
                  have q0 : (0 : Int) ≤ (Q : Int) := by omega
                  have q1 : (Q : Int) < (Q : Int) + 1 := by omega
                  have qw : IntKind.i64.wrap ((Q : Int) + 1 - 1) = (Q : Int) := by rw [show (Q : Int) + 1 - 1 = (Q : Int) by omega]; exact IntWalk.i64_in _ (by omega)
                  have qn : decide ((Q : Int) < 0) = false := by simp
                  have HQ := hid hQ; have HG := hid hg; have HGL := hid hr.lt; have HR := hid hr
                  clear hQ h1 hl0 hg hr hg2
                  by_cases hne : kl = p
                  · subst hne
                    have dk : (kl != kl) = false := by simp
                    have d5 : (kl == 5) = false := by simpa using hp5
                    have h9 : 1 ≤ l.length := by rw [HQ.out]; omega
                    have J : joins l kl = true := by unfold joins; rw [hK1, decide_eq_true h9]; simp [hp5]
                    have HST := hid (show shStep l kl q = l.set Q (kl, la + q) from by rw [st_cnt h0 J HCP.out, HQ.out, Nat.add_sub_cancel]; rw [hA1])
                    have HK1 := hid hK1
                    have hob := okAct_bd HOK.out
                    have wn : IntKind.i64.wrap (la + q) = la + q := IntWalk.i64_in _ (by have := (isCnt_iff kl).1 HCP.out; have h2 := hLI.2; rcases hLI.1 with h | ⟨h, h3⟩; (have := okAct_bd h; omega); omega)
                    clear hob
                    clear J h0 h9 hK1 hA1 hLI
                    have RBH := hid rB; have OVH := hid oV; have BVH := hid bV
                    clear rB oV bV
                    go_upto_region 16 with fail
                    go_quiet (fail)
                    go_upto_region 19 with fail
                    obtain ⟨D, hD⟩ : ∃ y, y = V.drewN nq := ⟨_, rfl⟩
                    have HVD := hid hD
                    have dV : Below V.heap.size V D := by rw [hD]; exact below_drewN (Below.refl _ _) _
                    have rD := RBH.out.below dV RBH.out.lt
                    have oD := owns_belowP OVH.out dV
                    have bD := BVH.out.trans (dV.mono BVH.out.size)
                    rw [← HVD.out]
                    clear hD
                    replace y0 := (dV.cell (p := ⟨g, Q * 2, none⟩) HGL.out).trans y0
                    replace y1 := (dV.cell (p := ⟨g, Q * 2 + 1, none⟩) HGL.out).trans y1
                    have rG := HR.out.below dV HR.out.lt
                    clear x0 x1 dV
                    have x0 := rD.cell 0; have x1 := rD.cell 1
                    simp only [List.getElem?_cons_zero, List.getElem?_cons_succ] at x0 x1
                    go_cut [9] (fun s9 wx => ∃ W, W = wx ∧ s9 = .int .i64 (Q : Int) ∧ W.ownsRow w.heap.size 34 2 (.slice (some ⟨g, 0, none⟩) (Q + 1) cp) (Q + 1) (avals (l.set Q (kl, la + q))) ∧ Below w.heap.size w W)
                    case first =>
                      have f1 := rG.frozen (Q * 2 + 1)
                      have ON := hid (show (D.drew.setCell ⟨g, Q * 2 + 1, none⟩ (.int .i64 (la + q))).ownsRow w.heap.size 34 2 (.slice (some ⟨g, 0, none⟩) (Q + 1) cp) (Q + 1) (avals (l.set Q (kl, la + q))) from by rw [← avals_setN l Q kl (la + q) HQ.out HK1.out]; exact owns_store (owns_belowP oD (Below.refl _ _).drew) (by omega) _)
                      have BN := hid (show Below w.heap.size w (D.drew.setCell ⟨g, Q * 2 + 1, none⟩ (.int .i64 (la + q))) from bD.drew.setCell HG.out _)
                      clear rG oD bD rD
                      go_region
                      all_goals (try go_wp2_with fail)
                      all_goals go_meet
                      exact ⟨_, rfl, rfl, ON.out, BN.out⟩
                    case rest =>
                      clear x0 x1 y0 y1 rG rD oD bD
                      obtain ⟨W5, rfl, rfl, o5, b5⟩ := hcut
                      obtain ⟨_, rst5, r5⟩ := owns_rowA o5
                      have z1 := joined_cell r5 (by rw [HQ.out]; omega)
                      have HO5 := hid o5; have HB5 := hid b5
                      clear o5 b5 r5
                      by_cases hx : 1000000000000 < la + q
                      · have HBIG := hid (show bigA (shF js (k + 1)) from by rw [HS.out, HST.out]; have := big_last (l := l) (k := kl) (x := la + q) (by rw [HQ.out]; omega) HCP.out hx; rw [HQ.out, Nat.add_sub_cancel] at this; exact this)
                        have HCC := hid (shC_big HO.out H6.out (j := k + 1) (by omega) HBIG.out)
                        go_wp2_with fail
                        exact bodyPost_ret (v := .tuple #[.slice (some ⟨W5.heap.size, 0, none⟩) 0 0, .int .i64 2]) (by simp [results, Tryd.results5, go_sem]) rfl ⟨_, by rw [HCC.out.1], by rw [HCC.out.2]; exact OwnA.nil _ _ _ _, HB5.out.alloc HB5.out.size _⟩
                      · have hx' : la + q ≤ 1000000000000 := by omega
                        go_wp2_with fail
                        go_roundw
                        case rel => exact ⟨k + 1, _, by omega, by go_num, rfl, by rw [HS.out, HST.out, List.length_set, HQ.out]; exact HO5.out, by rw [HS.out, HST.out]; have := big_set (k := kl) (x := la + q) HNB.out (by rw [HQ.out]; omega) (by omega); rw [HQ.out, Nat.add_sub_cancel] at this; exact this, HB5.out⟩
                        case measure => simp [intOf]; omega
                  · have J : joins l p = false := by simp [joins, hK1, hne]
                    have HST := hid (st_app h0 J)
                    have dk : (kl != p) = true := by simpa using hne
                    clear J h0 hK1 hA1 hLI
                    have RBH := hid rB; have OVH := hid oV; have BVH := hid bV
                    clear rB oV bV
                    go_upto_region 16 with fail
                    go_quiet (fail)
                    go_upto_region 17 with fail
                    obtain ⟨D, hD⟩ : ∃ y, y = V.drewN nq := ⟨_, rfl⟩
                    have HVD := hid hD
                    have dV : Below V.heap.size V D := by rw [hD]; exact below_drewN (Below.refl _ _) _
                    have rD := RBH.out.below dV RBH.out.lt
                    have oD := owns_belowP OVH.out dV
                    have bD := BVH.out.trans (dV.mono BVH.out.size)
                    rw [← HVD.out]
                    clear hD
                    clear dV x0 x1 y0 y1
                    have x0 := rD.cell 0; have x1 := rD.cell 1
                    simp only [List.getElem?_cons_zero, List.getElem?_cons_succ] at x0 x1
                    have HO4 := hid (oD.alloc (.cells #[.int .i8 p, .int .i64 q] 34))
                    have nc := hid (cellsAt (Row.new D 34 [.int .i8 p, .int .i64 q]))
                    have HB7 := hid (show Below w.heap.size w (D.alloc (.cells #[.int .i8 p, .int .i64 q] 34)) from bD.alloc bD.size _)
                    have HBW := hid (show w.heap.size ≤ (D.alloc (.cells #[.int .i8 p, .int .i64 q] 34)).heap.size by simp; have := bD.size; omega)
                    clear rD oD bD
                    go_wp2_with (at_builtin; refine wpList_append_own _ rfl _ _ 24 rfl w.heap.size 34 i0 (.agg #[.int .i8 0, .int .i64 0]) 2 16 Tryd.underlying24 hi0 iz0 iz1 iz2 rfl (by decide) _ _ _ rfl HO4.out ⟨D.heap.size, 0, none⟩ 1 1 ([.int .i8 p, .int .i64 q] : List Value) rfl rfl nc.out (act2_one p q) (by unfold maxLen; omega) (by omega) HBW.out ?_; rintro v' w7 hown' hgrow -; have OWN := hid hown'; have GRW := hid hgrow; clear hown' hgrow)
                    have bel := HB7.out.grown GRW.out HBW.out (fun kk e => by have := (HO4.out.lt kk e).1; omega)
                    have OW := OWN.out
                    rw [← avals_snoc] at OW
                    have HOW := hid OW
                    have HBE := hid bel
                    clear bel OW
                    go_roundw
                    case rel => exact ⟨k + 1, v', by omega, by go_num, rfl, by rw [HS.out, HST.out]; first | exact HOW.out | (rw [List.length_append, List.length_singleton]; first | exact HOW.out | (rw [HQ.out]; exact HOW.out)), by rw [HS.out, HST.out]; exact big_app HNB.out HOK.out, HBE.out⟩
                    case measure => simp [intOf]; omega
        · obtain rfl : k = n := by omega
          have k1 : ¬ (k : Int) < (k : Int) := by omega
          have hkj := HN.out
          have hC : shC js = 0 ∧ shL js = shF js k := by rw [hkj]; have := shC_ok HO.out H6.out (by rw [← hkj]; exact hNB); exact ⟨this.1, this.2.1⟩
          have HCC := hid hC
          have HOW := hid (OwnA.of_owns hO (by have := shF_len js k; omega))
          have HBE := hid hB
          clear hO hNB hB hC hkj
          go_wp2_with fail
          exact bodyPost_ret (v := .tuple #[v, .int .i64 0]) (by simp [results, Tryd.results5, go_sem]) rfl ⟨v, by rw [HCC.out.1], by rw [HCC.out.2]; exact HOW.out, HBE.out⟩
end Go.Proofs.YtbbdaamhajecfaaDoor
