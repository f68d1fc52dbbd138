/- TotalsFrom: the program's answer. -/
import Derived.Test.YtgehkjaeahhloaaTfS
import Derived.Deep.RegionHeld3
namespace Go.Proofs.Ytgehkjaeahhloaa
open Go.RowKit
set_option linter.unusedVariables false
set_option maxRecDepth 100000 in
set_option maxHeartbeats 8000000 in
theorem implTotalsFrom_any (bS nS capS : Nat) (zs : List Int) (hnS : nS = zs.length) (b n cap : Nat) (js : List (Int × Int)) (hn : n = js.length) (w : World) (hS : Stk w bS zs) (hR : Rst w b js) :
    Calls Try.prog 39 #[.slice (some ⟨bS, 0, none⟩) nS capS, .slice (some ⟨b, 0, none⟩) n cap] w (TfR w (tfR zs js)) := by
  obtain ⟨i0, hi, iz0, iz1, iz2⟩ := info_parts Try.infoTotal
  have HV := hid (implValidLog_any bS nS capS zs hnS b n cap js hn w hS hR)
  have HSS := hid hS
  have HRR := hid hR
  have HN := hid hn
  cases hv : okG zs js with
  | false =>
    rw [tfR_no hv]
    rw [hv] at HV
    clear hv hn hnS hS hR
    go_enter Try.func39, Try.ntmps39
    go_wp2_with fail
    refine HV.out.mono ?_
    rintro e w1 ⟨rfl, hB⟩
    go_wp2_with fail
    go_ret2
    exact ⟨_, rfl, OwnT.nil _ _ _ _, hB⟩
  | true =>
    rw [hv] at HV
    obtain ⟨hok, h40, hrd, hup⟩ := okG_out hv
    obtain ⟨_, _, _, z1, z2⟩ := okL_out hok
    have h40' : n ≤ 40 := by omega
    have HY := hid (fun (h : tfOk (szL zs) js js.length) => tfR_yes hv h)
    have HLM := hid (fun j hj h => tfR_limit hv j hj h)
    have HBD := hid (fun k hk => cnT_bd hv k hk)
    have HRD := hid (fun j hj => okRd_out (hrd j hj))
    have HLF := hid (fun a u b v h w hS => leastFrom_any bS nS capS zs hnS hok a u b v 0 h (by omega) w hS)
    obtain ⟨R, hRR⟩ : ∃ R, tfR zs js = R := ⟨_, rfl⟩
    rw [hRR] at HY HLM ⊢
    obtain ⟨z, hz⟩ : ∃ z, szL zs = z := ⟨_, rfl⟩
    rw [hz] at HY HLM HBD HRD z1 z2 HLF
    clear hv hok h40 hrd hup hn hnS hS hR hRR hz
    go_enter Try.func39, Try.ntmps39
    go_wp2_with fail
    refine HV.out.mono ?_
    rintro e w1 ⟨rfl, hB⟩
    have B1 := hid hB
    have S1 := hid (HSS.out.below hB HSS.out.1)
    have R1 := hid (HRR.out.below hB HRR.out.1)
    clear hB
    go_wp2_with fail
    go_loopw [6, 16] (fun v s wr => ∃ k : Nat, k ≤ n ∧ s = .int .i64 k ∧ wr.ownsRow w.heap.size 99 2 v k (tvals (tfL z js k)) ∧ Below w.heap.size w wr ∧ tfOk z js k) (fun _ s _ => n - (intOf s).toNat)
    case atStart => exact ⟨0, Nat.zero_le _, rfl, World.ownsRow_nil _ _ _ _, B1.out, fun j h => by omega⟩
    case round =>
      obtain ⟨k, hk, rfl, hown, hB, hto⟩ := hrel
      have hzr := hB.size
      have HB := hid hB
      have HTO := hid hto
      have SR := hid (HSS.out.below hB HSS.out.1)
      have RR := hid (HRR.out.below hB HRR.out.1)
      have KB : k ≤ 40 := by omega
      clear hto
      by_cases hlt : k < n
      · have hlt' : (k : Int) < (n : Int) := by omega
        have hk0 : (0 : Int) ≤ (k : Int) := by omega
        have ck := RR.out.2.1 k (by have := HN.out; omega)
        have x1 := ck.1
        have x2 := ck.2
        have dk := HRD.out k (by have := HN.out; omega)
        have HS := hid (tfL_succ z js k)
        have HC := hid (HBD.out k (by have := HN.out; omega))
        clear ck hB
        by_cases h0 : k = 0
        · have hkz : ¬ (0 : Int) < (k : Int) := by omega
          have hkz' : (k : Int) ≤ 0 := by omega
          have hkd : decide (0 < k) = false := decide_eq_false (by omega)
          have hcn : cnT z js k = rv js k := by rw [h0]; rfl
          rw [hcn] at HS
          have HCN := hid hcn
          clear h0 hcn
          obtain ⟨x, hx⟩ : ∃ x, rd js k = x := ⟨_, rfl⟩
          obtain ⟨y, hy⟩ : ∃ x, rv js k = x := ⟨_, rfl⟩
          rw [hx] at x1 HS dk
          rw [hy] at x2 HS dk
          have HXX := hid hx
          have HYY := hid hy
          clear hx hy
          have t1 : ¬ (1000000000000 : Int) < y := by omega
          have HO := hid hown
          obtain ⟨U, hU⟩ : ∃ U, U = wr.alloc (.cells #[.int .i64 x, .int .i64 y] 105) := ⟨_, rfl⟩
          have bU : Below wr.heap.size wr U := by rw [hU]; exact box2_bel _ _ _ _
          have rU : Row U wr.heap.size 105 [.int .i64 x, .int .i64 y] := by rw [hU]; exact Row.new _ _ _
          have hzU := bU.size
          have HBU := hid (HB.out.trans (bU.mono hzr))
          have HOU := hid (owns_below HO.out bU)
          have HUU := hid hU
          have k0 := rU.cell 0; have k1 := rU.cell 1
          simp only [List.getElem?_cons_zero, List.getElem?_cons_succ] at k0 k1
          have HB1 := hid (HBU.out.alloc (by omega) (.cells #[.int .i64 x, .int .i64 y] 99))
          have HO1 := hid (HOU.out.alloc (.cells #[.int .i64 x, .int .i64 y] 99))
          have news := Row.new U 99 [.int .i64 x, .int .i64 y]
          have n0 := news.cell 0
          have n1 := news.cell 1
          simp only [List.getElem?_cons_zero, List.getElem?_cons_succ] at n0 n1
          clear news hown hU bU rU
          go_upto_region 7 with fail
          rw [← HUU.out]
          go_upto_region 13 with (at_builtin; refine wpList_append_own _ rfl _ _ 51 rfl w.heap.size 99 i0 (.agg #[.int .i64 0, .int .i64 0]) 2 16 Try.underlying51 hi iz0 iz1 iz2 rfl (by decide) _ _ _ rfl HO1.out ⟨U.heap.size, 0, none⟩ 1 1 [.int .i64 x, .int .i64 y] rfl rfl (by intro j u hj; match j, hj with | 0, hj => simp at hj; subst hj; simp [Addr.add, n0] | 1, hj => simp at hj; subst hj; simp [Addr.add, n1]) (by intro u hu; simp at hu; rcases hu with rfl | rfl <;> rfl) (by unfold maxLen; omega) (by omega) (by simp; omega) ?_; intro v' w2 hown' hgrow _)
          have hg2 : (U.alloc (.cells #[.int .i64 x, .int .i64 y] 99)).grownBy w2 u6.ownBlock := hgrow
          have HB2 := hid (HB1.out.grown hg2 (by simp; omega) (fun k e => by have := (HO1.out.lt k e).1; omega))
          have hown2 := hid (show w2.ownsRow w.heap.size 99 2 v' (k + 1) (tvals (tfL z js (k + 1))) by rw [HS.out, tvals_snoc]; exact hown')
          have HTO2 := hid (show tfOk z js (k + 1) from fun j hj => by
            by_cases e : j = k
            · rw [e]; exact by rw [HCN.out, HYY.out]; omega
            · exact HTO.out j (by omega))
          clear hown' hgrow hg2 n0 n1 HO1 HB1
          go_wp2_with fail
          go_roundw
          case rel => exact ⟨k + 1, by omega, by go_num, hown2.out, HB2.out, HTO2.out⟩
          case measure => simp [intOf]; omega
        · obtain ⟨m, hm⟩ : ∃ m, k = m + 1 := ⟨k - 1, by omega⟩
          have cm := RR.out.2.1 m (by have := HN.out; omega)
          have y1 := cm.1
          have y2 := cm.2
          have dm := HRD.out m (by have := HN.out; omega)
          have hk1 : (0 : Int) < (k : Int) := by omega
          have hk2 : 0 < k := by omega
          have hkd : decide (0 < k) = true := decide_eq_true hk2
          have ec : (k : Int) - 1 = (m : Int) := by omega
          have hmn : m < n := by omega
          have hmn' : (m : Int) < (n : Int) := by omega
          have hmk : m < k := by omega
          have hmk' : (m : Int) < (k : Int) := by omega
          have hm0 : (0 : Int) ≤ (m : Int) := by omega
          have tm : IntKind.i64.wrap (m : Int) = (m : Int) := IntWalk.i64_in _ (by omega)
          have hcn : cnT z js k = cnT z js m + (rv js k - rv js m) % z := by rw [hm]; rfl
          have cm0 := HBD.out m (by have := HN.out; omega)
          have cm1 := HTO.out m hmk
          have HM := hid hm
          obtain ⟨a, cp, hav, hal, hrow⟩ := OwnT.of_owns hown (by rw [tfL_len]; omega)
          rw [tfL_len] at hav
          subst hav
          rcases hrow with hnil | ⟨g, rest, hag, hgb, hrow⟩
          · have := congrArg List.length hnil
            rw [tfL_len] at this
            simp at this
            omega
          subst hag
          have gc := (OwnT.pst hrow (by rw [tfL_len]; omega)).2.1 m (by rw [tfL_len]; exact hmk)
          rw [tfL_at z js k m hmk] at gc
          have g2 := gc.2
          have gl := hrow.lt
          clear gc cm hm h0 hrow
          have q0 := Int.emod_nonneg (rv js k - rv js m) (show z ≠ 0 by omega)
          have q1 := Int.emod_lt_of_pos (rv js k - rv js m) (show 0 < z by omega)
          rw [hcn] at HS HC
          have HCN := hid hcn
          obtain ⟨x, hx⟩ : ∃ x, rd js k = x := ⟨_, rfl⟩
          obtain ⟨y, hy⟩ : ∃ x, rv js k = x := ⟨_, rfl⟩
          rw [hx] at x1 HS dk
          rw [hy] at x2 HS dk HC hcn q0 q1
          have HXX := hid hx
          have HYY := hid hy
          clear hx hy
          obtain ⟨u, hu⟩ : ∃ x, rd js m = x := ⟨_, rfl⟩
          obtain ⟨v, hv'⟩ : ∃ x, rv js m = x := ⟨_, rfl⟩
          rw [hv'] at hcn HC HS q0 q1
          rw [hu] at y1 dm
          rw [hv'] at y2 dm
          have HVV := hid hv'
          obtain ⟨c, hc⟩ : ∃ c, cnT z js m = c := ⟨_, rfl⟩
          rw [hc] at hcn HS HC cm0 cm1 g2
          obtain ⟨r, hr⟩ : ∃ r, (y - v) % z = r := ⟨_, rfl⟩
          rw [hr] at hcn HS HC q0 q1
          obtain ⟨t, ht⟩ : ∃ t, c + r = t := ⟨_, rfl⟩
          rw [ht] at hcn HS HC
          have HCT := hid hcn
          have tt : IntKind.i64.wrap t = t := IntWalk.i64_in _ (by omega)
          have HLL := hid (fun w hS => HLF.out u v x y (by omega) w hS)
          have el : lstI z (y - v) 0 = r := by unfold lstI; rw [← hr]; simp
          rw [el] at HLL
          have HO := hid hown
          obtain ⟨U, hU⟩ : ∃ U, U = wr.alloc (.cells #[.int .i64 x, .int .i64 y] 105) := ⟨_, rfl⟩
          have bU : Below wr.heap.size wr U := by rw [hU]; exact box2_bel _ _ _ _
          have rU : Row U wr.heap.size 105 [.int .i64 x, .int .i64 y] := by rw [hU]; exact Row.new _ _ _
          have hzU := bU.size
          have HBU := hid (HB.out.trans (bU.mono hzr))
          have SU := hid (SR.out.below bU SR.out.1)
          have bl := RR.out.1
          have HSO := hid (fun (w' : World) (h : Below U.heap.size U w') => show (fun w' : World => Below U.heap.size U w' ∧ w'.cell? ⟨g, m * 2 + 1, none⟩ = some (.int .i64 c) ∧ w'.cell? ⟨b, m * 2, none⟩ = some (.int .i64 u) ∧ w'.cell? ⟨b, m * 2 + 1, none⟩ = some (.int .i64 v) ∧ w'.cell? ⟨wr.heap.size, 0, none⟩ = some (.int .i64 x) ∧ w'.cell? ⟨wr.heap.size, 1, none⟩ = some (.int .i64 y)) w' from ⟨h, (h.cell (p := ⟨g, m * 2 + 1, none⟩) (Nat.lt_of_lt_of_le gl hzU)).trans ((bU.cell (p := ⟨g, m * 2 + 1, none⟩) gl).trans g2), (h.cell (p := ⟨b, m * 2, none⟩) (Nat.lt_of_lt_of_le bl hzU)).trans ((bU.cell (p := ⟨b, m * 2, none⟩) bl).trans y1), (h.cell (p := ⟨b, m * 2 + 1, none⟩) (Nat.lt_of_lt_of_le bl hzU)).trans ((bU.cell (p := ⟨b, m * 2 + 1, none⟩) bl).trans y2), (h.cell (p := ⟨wr.heap.size, 0, none⟩) rU.lt).trans (rU.cell 0), (h.cell (p := ⟨wr.heap.size, 1, none⟩) rU.lt).trans (rU.cell 1)⟩)
          have HLS := hid (fun (w' : World) (h : (fun w' : World => Below U.heap.size U w' ∧ w'.cell? ⟨g, m * 2 + 1, none⟩ = some (.int .i64 c) ∧ w'.cell? ⟨b, m * 2, none⟩ = some (.int .i64 u) ∧ w'.cell? ⟨b, m * 2 + 1, none⟩ = some (.int .i64 v) ∧ w'.cell? ⟨wr.heap.size, 0, none⟩ = some (.int .i64 x) ∧ w'.cell? ⟨wr.heap.size, 1, none⟩ = some (.int .i64 y)) w') => (HLL.out w' (SU.out.below h.1 SU.out.1)).mono fun e w'' ⟨he, hB⟩ => And.intro he (HSO.out w'' (h.1.trans (hB.mono h.1.size))))
          have HUU := hid hU
          have k0 := rU.cell 0; have k1 := rU.cell 1
          simp only [List.getElem?_cons_zero, List.getElem?_cons_succ] at k0 k1
          by_cases hbig : 1000000000000 < t
          · have HFL := hid (HLM.out k (by have := HN.out; omega) (by rw [HCT.out]; exact hbig))
            clear hu hv' hc hr hcn HC bU rU hU el hown
            go_upto_region 7 with fail
            rw [← HUU.out]
            go_upto_region 9 with fail
            go_region_held3 (fun w' : World => Below U.heap.size U w' ∧ w'.cell? ⟨g, m * 2 + 1, none⟩ = some (.int .i64 c) ∧ w'.cell? ⟨b, m * 2, none⟩ = some (.int .i64 u) ∧ w'.cell? ⟨b, m * 2 + 1, none⟩ = some (.int .i64 v) ∧ w'.cell? ⟨wr.heap.size, 0, none⟩ = some (.int .i64 x) ∧ w'.cell? ⟨wr.heap.size, 1, none⟩ = some (.int .i64 y)) (first | assumption | exact HSO.out _ (Below.refl _ _).drew)
              ((go_at_call 82; refine (HLS.out _ (by assumption)).mono ?_; rintro e wv ⟨rfl, hwv⟩))
            clear x1 x2 y1 y2 g2 k0 k1
            go_wp2_with fail
            have hfl := HFL.out
            subst hfl
            go_ret2
            exact ⟨_, rfl, OwnT.nil _ _ _ _, HBU.out.trans (hwv.1.mono HBU.out.size)⟩
          · have hbig' : decide (1000000000000 < t) = false := decide_eq_false hbig
            have HOU := hid (owns_below HO.out bU)
            clear hu hv' hc hr hcn HC bU rU hU el hown
            go_upto_region 7 with fail
            rw [← HUU.out]
            go_upto_region 9 with fail
            go_region_held3 (fun w' : World => Below U.heap.size U w' ∧ w'.cell? ⟨g, m * 2 + 1, none⟩ = some (.int .i64 c) ∧ w'.cell? ⟨b, m * 2, none⟩ = some (.int .i64 u) ∧ w'.cell? ⟨b, m * 2 + 1, none⟩ = some (.int .i64 v) ∧ w'.cell? ⟨wr.heap.size, 0, none⟩ = some (.int .i64 x) ∧ w'.cell? ⟨wr.heap.size, 1, none⟩ = some (.int .i64 y)) (first | assumption | exact HSO.out _ (Below.refl _ _).drew)
              ((go_at_call 82; refine (HLS.out _ (by assumption)).mono ?_; rintro e wv ⟨rfl, hwv⟩))
            have hzv := hwv.1.size
            have HBV := hid (HBU.out.trans (hwv.1.mono HBU.out.size))
            have HOV := hid (owns_below HOU.out hwv.1)
            have kx := hwv.2.2.2.2.1
            clear x1 x2 y1 y2 g2 k0 k1
            have HB1 := hid (HBV.out.alloc (by omega) (.cells #[.int .i64 x, .int .i64 t] 99))
            have HO1 := hid (HOV.out.alloc (.cells #[.int .i64 x, .int .i64 t] 99))
            have news := Row.new wv 99 [.int .i64 x, .int .i64 t]
            have n0 := news.cell 0
            have n1 := news.cell 1
            simp only [List.getElem?_cons_zero, List.getElem?_cons_succ] at n0 n1
            clear news
            go_upto_region 13 with (at_builtin; refine wpList_append_own _ rfl _ _ 51 rfl w.heap.size 99 i0 (.agg #[.int .i64 0, .int .i64 0]) 2 16 Try.underlying51 hi iz0 iz1 iz2 rfl (by decide) _ _ _ rfl HO1.out ⟨wv.heap.size, 0, none⟩ 1 1 [.int .i64 x, .int .i64 t] rfl rfl (by intro j u hj; match j, hj with | 0, hj => simp at hj; subst hj; simp [Addr.add, n0] | 1, hj => simp at hj; subst hj; simp [Addr.add, n1]) (by intro u hu; simp at hu; rcases hu with rfl | rfl <;> rfl) (by unfold maxLen; omega) (by omega) (by simp; omega) ?_; intro v' w2 hown' hgrow _)
            have hg2 : (wv.alloc (.cells #[.int .i64 x, .int .i64 t] 99)).grownBy w2 (Value.slice (some ⟨g, 0, none⟩) k cp).ownBlock := hgrow
            have HB2 := hid (HB1.out.grown hg2 (by simp; omega) (fun k e => by have := (HO1.out.lt k e).1; omega))
            have hown2 := hid (show w2.ownsRow w.heap.size 99 2 v' (k + 1) (tvals (tfL z js (k + 1))) by rw [HS.out, tvals_snoc]; exact hown')
            have HTO2 := hid (show tfOk z js (k + 1) from fun j hj => by
              by_cases e : j = k
              · rw [e]; exact by rw [HCT.out]; omega
              · exact HTO.out j (by omega))
            clear hown' hgrow hg2 n0 n1 HO1 HB1
            go_wp2_with fail
            go_roundw
            case rel => exact ⟨k + 1, by omega, by go_num, hown2.out, HB2.out, HTO2.out⟩
            case measure => simp [intOf]; omega
      · obtain rfl : k = n := by omega
        have HFL := hid (HY.out (by rw [← HN.out]; exact HTO.out))
        have HO := hid hown
        clear hown hB
        go_wp2_with fail
        have hfl := HFL.out
        subst hfl
        go_ret2
        exact ⟨_, rfl, by rw [← HN.out]; exact OwnT.of_owns HO.out (by rw [tfL_len]; omega), HB.out⟩
end Go.Proofs.Ytgehkjaeahhloaa
