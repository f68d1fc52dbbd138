/- TotalsFrom: the model's and the program's answers. -/
import Derived.Test.YtgehkjaeahhloaaValGI
import Derived.Test.YtgehkjaeahhloaaValGS
import Derived.Test.YtgehkjaeahhloaaOwnT
import Derived.Test.YtgehkjaeahhloaaTerms
import Derived.Deep.DeepCutAuto
namespace Go.Proofs.Ytgehkjaeahhloaa
open Go.RowKit
set_option linter.unusedVariables false
/-- how much has been counted up to the reading k -/
def cnT (z : Int) (js : List (Int × Int)) : Nat → Int
  | 0 => rv js 0
  | k + 1 => cnT z js k + (rv js (k + 1) - rv js k) % z
def tfL (z : Int) (js : List (Int × Int)) (k : Nat) : List (Int × Int) := (List.range k).map fun (j : Nat) => (rd js j, cnT z js j)
theorem tfL_len (z : Int) (js : List (Int × Int)) (k : Nat) : (tfL z js k).length = k := by simp [tfL]
theorem tfL_succ (z : Int) (js : List (Int × Int)) (k : Nat) : tfL z js (k + 1) = tfL z js k ++ [(rd js k, cnT z js k)] := by simp [tfL, List.range_succ]
theorem tfL_at (z : Int) (js : List (Int × Int)) (k j : Nat) (h : j < k) : rv (tfL z js k) j = cnT z js j := by simp [rv, tfL, h]
theorem tvals_snoc (l : List (Int × Int)) (a b : Int) : tvals (l ++ [(a, b)]) = tvals l ++ [.int .i64 a, .int .i64 b] := by
  unfold tvals
  have h : (l ++ [(a, b)]).length * 2 = l.length * 2 + 1 + 1 := by simp; omega
  rw [h, numrs_succ, numrs_succ]
  have e : numrs (l ++ [(a, b)]) (l.length * 2) = numrs l (l.length * 2) := by
    apply List.ext_getElem?
    intro i
    by_cases hi : i < l.length * 2
    · rw [numrs_get _ _ _ hi, numrs_get _ _ _ hi]
      have h2 : i / 2 < l.length := by omega
      simp only [numr, rd, rv, List.getElem?_append_left h2]
    · rw [List.getElem?_eq_none (by rw [numrs_len]; omega), List.getElem?_eq_none (by rw [numrs_len]; omega)]
  rw [e]
  have e1 : numr (l ++ [(a, b)]) (l.length * 2) = a := by rw [numr_even]; simp [rd]
  have e2 : numr (l ++ [(a, b)]) (l.length * 2 + 1) = b := by rw [numr_odd]; simp [rv]
  rw [e1, e2]
  simp
def tfOk (z : Int) (js : List (Int × Int)) (k : Nat) : Prop := ∀ j, j < k → cnT z js j ≤ 1000000000000
def tfR (zs : List Int) (js : List (Int × Int)) : List (Int × Int) × Int :=
  if okG zs js = true then (if ((List.range js.length).all fun j => decide (cnT (szL zs) js j ≤ 1000000000000)) = true then (tfL (szL zs) js js.length, 0) else ([], 3)) else ([], 1)
theorem tfR_no {zs : List Int} {js : List (Int × Int)} (h : okG zs js = false) : tfR zs js = ([], 1) := by simp [tfR, h]
theorem tfR_yes {zs : List Int} {js : List (Int × Int)} (h : okG zs js = true) (k : tfOk (szL zs) js js.length) : tfR zs js = (tfL (szL zs) js js.length, 0) := by
  rw [tfR, if_pos h, if_pos]
  simp only [List.all_eq_true, List.mem_range, decide_eq_true_eq]
  exact k
theorem tfR_limit {zs : List Int} {js : List (Int × Int)} (h : okG zs js = true) (j : Nat) (hj : j < js.length) (k : 1000000000000 < cnT (szL zs) js j) : tfR zs js = ([], 3) := by
  rw [tfR, if_pos h, if_neg]
  simp only [List.all_eq_true, List.mem_range, decide_eq_true_eq]
  intro hall
  have := hall j hj
  omega
theorem cnT_bd {zs : List Int} {js : List (Int × Int)} (h : okG zs js = true) : ∀ (k : Nat), k < js.length → 0 ≤ cnT (szL zs) js k
  | 0, hk => by
    have := okRd_out ((okG_out h).2.2.1 0 hk)
    show 0 ≤ rv js 0
    omega
  | k + 1, hk => by
    have a := cnT_bd h k (by omega)
    obtain ⟨_, _, _, z1, _⟩ := okL_out (okG_out h).1
    have b := Int.emod_nonneg (rv js (k + 1) - rv js k) (show szL zs ≠ 0 by omega)
    show 0 ≤ cnT (szL zs) js k + (rv js (k + 1) - rv js k) % szL zs
    omega
def TfR (w : World) (r : List (Int × Int) × Int) (e : Ending) (w' : World) : Prop := ∃ v, e = .returned (.tuple #[v, .int .i64 r.2]) ∧ OwnT w' w.heap.size v r.1 ∧ Below w.heap.size w w'
set_option maxRecDepth 100000 in
set_option maxHeartbeats 8000000 in
theorem specTotalsFrom_any (bS nS capS : Nat) (zs : List Int) (hnS : nS = zs.length) (b n cap : Nat) (js : List (Int × Int)) (hn : n = js.length) (w : World) (hS : Stk w bS zs) (hR : Rst w b js) :
    Calls Try.prog 36 #[.slice (some ⟨bS, 0, none⟩) nS capS, .slice (some ⟨b, 0, none⟩) n cap] w (TfR w (tfR zs js)) := by
  obtain ⟨i0, hi, iz0, iz1, iz2⟩ := info_parts Try.infoTotal
  have HV := hid (l04Ok_any bS nS capS zs hnS b n cap js hn w hS hR)
  have HSS := hid hS
  have HRR := hid hR
  have HN := hid hn
  cases hv : okG zs js with
  | false =>
    rw [tfR_no hv]
    rw [hv] at HV
    clear hv hn hnS hS hR
    go_enter Try.func36, Try.ntmps36
    go_wp2_with fail
    refine HV.out.mono ?_
    rintro e w1 ⟨rfl, hB⟩
    go_wp2_with fail
    go_ret2
    exact ⟨_, rfl, OwnT.nil _ _ _ _, hB.alloc hB.size _⟩
  | true =>
    rw [hv] at HV
    obtain ⟨hok, h40, hrd, hup⟩ := okG_out hv
    obtain ⟨_, _, _, z1, z2⟩ := okL_out hok
    have h40' : n ≤ 40 := by omega
    have HY := hid (fun (h : tfOk (szL zs) js js.length) => tfR_yes hv h)
    have HLM := hid (fun j hj h => tfR_limit hv j hj h)
    have HBD := hid (fun k hk => cnT_bd hv k hk)
    have HRD := hid (fun j hj => okRd_out (hrd j hj))
    have HZ := hid (fun w h => l01Size_is bS nS capS zs hnS hok w h)
    have HMO := hid (fun a h w => l04Mod_any a (szL zs) h (by omega) w)
    obtain ⟨R, hRR⟩ : ∃ R, tfR zs js = R := ⟨_, rfl⟩
    rw [hRR] at HY HLM ⊢
    obtain ⟨z, hz⟩ : ∃ z, szL zs = z := ⟨_, rfl⟩
    rw [hz] at HY HLM HBD HRD z1 z2 HZ HMO
    clear hv hok h40 hrd hup hn hnS hS hR hRR hz
    go_enter Try.func36, Try.ntmps36
    go_wp2_with fail
    refine HV.out.mono ?_
    rintro e w1 ⟨rfl, hB⟩
    have B1 := hid hB
    have S1 := hid (HSS.out.below hB HSS.out.1)
    have R1 := hid (HRR.out.below hB HRR.out.1)
    clear hB
    go_wp2_with fail
    refine (HZ.out _ S1.out).mono ?_
    rintro e w2 ⟨rfl, rfl⟩
    obtain ⟨U, hU⟩ : ∃ U, U = w1.alloc (.cells #[] 99) := ⟨_, rfl⟩
    have bU : Below w1.heap.size w1 U := by rw [hU]; exact (Below.refl _ _).alloc (Nat.le_refl _) _
    have oU : U.ownsRow w.heap.size 99 2 (.slice (some ⟨w1.heap.size, 0, none⟩) 0 0) 0 [] := by
      have h := Row.new w1 99 []
      rw [hU]
      exact ⟨rfl, .inr ⟨w1.heap.size, 0, #[], rfl, B1.out.size, h, by omega, by unfold maxLen; omega, rfl, rfl⟩⟩
    have OU := hid oU
    have BU := hid (B1.out.trans (bU.mono B1.out.size))
    have HUU := hid hU
    clear bU oU hU
    go_wp2_with fail
    rw [← HUU.out]
    go_loopw [7, 8, 9] (fun v s _ wr => ∃ k : Nat, k ≤ n ∧ s = .int .i64 k ∧ wr.ownsRow w.heap.size 99 2 v k (tvals (tfL z js k)) ∧ Below w.heap.size w wr ∧ tfOk z js k) (fun _ s _ _ => n - (intOf s).toNat)
    case atStart => exact ⟨0, Nat.zero_le _, rfl, OU.out, BU.out, fun j h => by omega⟩
    case round =>
      obtain ⟨k, hk, rfl, hown, hB, hto⟩ := hrel
      have hzr := hB.size
      have HB := hid hB
      have HTO := hid hto
      have SR := hid (HSS.out.below hB HSS.out.1)
      have RR := hid (HRR.out.below hB HRR.out.1)
      have KB : k ≤ 40 := by omega
      clear hto
      by_cases hlt : k < n
      · have hlt' : (k : Int) < (n : Int) := by omega
        have hk0 : (0 : Int) ≤ (k : Int) := by omega
        have ck := RR.out.2.1 k (by have := HN.out; omega)
        have x1 := ck.1
        have x2 := ck.2
        have dk := HRD.out k (by have := HN.out; omega)
        have HS := hid (tfL_succ z js k)
        have HC := hid (HBD.out k (by have := HN.out; omega))
        clear ck hB
        by_cases h0 : k = 0
        · have hkz : ¬ (0 : Int) < (k : Int) := by omega
          have hkz' : (k : Int) ≤ 0 := by omega
          have hkd : decide (0 < k) = false := decide_eq_false (by omega)
          have hcn : cnT z js k = rv js k := by rw [h0]; rfl
          rw [hcn] at HS
          have HCN := hid hcn
          clear h0 hcn
          obtain ⟨x, hx⟩ : ∃ x, rd js k = x := ⟨_, rfl⟩
          obtain ⟨y, hy⟩ : ∃ x, rv js k = x := ⟨_, rfl⟩
          rw [hx] at x1 HS dk
          rw [hy] at x2 HS dk
          have HXX := hid hx
          have HYY := hid hy
          clear hx hy
          have t1 : ¬ (1000000000000 : Int) < y := by omega
          have hown0 := hown
          have HO := hid hown0
          clear hown
          have HB1 := hid (HB.out.alloc (by omega) (.cells #[.int .i64 x, .int .i64 y] 99))
          have HO1 := hid (HO.out.alloc (.cells #[.int .i64 x, .int .i64 y] 99))
          have news := Row.new wr 99 [.int .i64 x, .int .i64 y]
          have n0 := news.cell 0
          have n1 := news.cell 1
          simp only [List.getElem?_cons_zero, List.getElem?_cons_succ] at n0 n1
          clear news hown0
          go_upto_region 7 with (at_builtin; refine wpList_append_own _ rfl _ _ 51 rfl w.heap.size 99 i0 (.agg #[.int .i64 0, .int .i64 0]) 2 16 Try.underlying51 hi iz0 iz1 iz2 rfl (by decide) _ _ _ rfl HO1.out ⟨wr.heap.size, 0, none⟩ 1 1 [.int .i64 x, .int .i64 y] rfl rfl (by intro j u hj; match j, hj with | 0, hj => simp at hj; subst hj; simp [Addr.add, n0] | 1, hj => simp at hj; subst hj; simp [Addr.add, n1]) (by intro u hu; simp at hu; rcases hu with rfl | rfl <;> rfl) (by unfold maxLen; omega) (by omega) (by simp; omega) ?_; intro v' w2 hown' hgrow _)
          have hg2 : (wr.alloc (.cells #[.int .i64 x, .int .i64 y] 99)).grownBy w2 u7.ownBlock := hgrow
          have HB2 := hid (HB1.out.grown hg2 (by simp; omega) (fun k e => by have := (HO1.out.lt k e).1; omega))
          have hown2 := hid (show w2.ownsRow w.heap.size 99 2 v' (k + 1) (tvals (tfL z js (k + 1))) by rw [HS.out, tvals_snoc]; exact hown')
          have HTO2 := hid (show tfOk z js (k + 1) from fun j hj => by
            by_cases e : j = k
            · rw [e]; exact by rw [HCN.out, HYY.out]; omega
            · exact HTO.out j (by omega))
          clear hown' hgrow hg2 n0 n1 HO1 HB1
          go_wp2_with fail
          go_roundw
          case rel => exact ⟨k + 1, by omega, by go_num, hown2.out, HB2.out, HTO2.out⟩
          case measure => simp [intOf]; omega
        · obtain ⟨m, hm⟩ : ∃ m, k = m + 1 := ⟨k - 1, by omega⟩
          have cm := RR.out.2.1 m (by have := HN.out; omega)
          have y1 := cm.1
          have y2 := cm.2
          have dm := HRD.out m (by have := HN.out; omega)
          have hk1 : (0 : Int) < (k : Int) := by omega
          have hk2 : 0 < k := by omega
          have hkd : decide (0 < k) = true := decide_eq_true hk2
          have ec : (k : Int) - 1 = (m : Int) := by omega
          have hmn : m < n := by omega
          have hmn' : (m : Int) < (n : Int) := by omega
          have hmk : m < k := by omega
          have hmk' : (m : Int) < (k : Int) := by omega
          have hm0 : (0 : Int) ≤ (m : Int) := by omega
          have tm : IntKind.i64.wrap (m : Int) = (m : Int) := IntWalk.i64_in _ (by omega)
          have hcn : cnT z js k = cnT z js m + (rv js k - rv js m) % z := by rw [hm]; rfl
          have cm0 := HBD.out m (by have := HN.out; omega)
          have cm1 := HTO.out m hmk
          have HM := hid hm
          obtain ⟨a, cp, hav, hal, hrow⟩ := OwnT.of_owns hown (by rw [tfL_len]; omega)
          rw [tfL_len] at hav
          subst hav
          rcases hrow with hnil | ⟨g, rest, hag, hgb, hrow⟩
          · have := congrArg List.length hnil
            rw [tfL_len] at this
            simp at this
            omega
          subst hag
          have gc := (OwnT.pst hrow (by rw [tfL_len]; omega)).2.1 m (by rw [tfL_len]; exact hmk)
          rw [tfL_at z js k m hmk] at gc
          have g2 := gc.2
          have gl := hrow.lt
          clear gc cm hm h0 hrow
          have q0 := Int.emod_nonneg (rv js k - rv js m) (show z ≠ 0 by omega)
          have q1 := Int.emod_lt_of_pos (rv js k - rv js m) (show 0 < z by omega)
          rw [hcn] at HS HC
          have HCN := hid hcn
          obtain ⟨x, hx⟩ : ∃ x, rd js k = x := ⟨_, rfl⟩
          obtain ⟨y, hy⟩ : ∃ x, rv js k = x := ⟨_, rfl⟩
          rw [hx] at x1 HS dk
          rw [hy] at x2 HS dk HC hcn q0 q1
          have HXX := hid hx
          have HYY := hid hy
          clear hx hy
          obtain ⟨u, hu⟩ : ∃ x, rd js m = x := ⟨_, rfl⟩
          obtain ⟨v, hv'⟩ : ∃ x, rv js m = x := ⟨_, rfl⟩
          rw [hv'] at hcn HC HS q0 q1
          rw [hu] at y1 dm
          rw [hv'] at y2 dm
          have HVV := hid hv'
          obtain ⟨c, hc⟩ : ∃ c, cnT z js m = c := ⟨_, rfl⟩
          rw [hc] at hcn HS HC cm0 cm1 g2
          obtain ⟨r, hr⟩ : ∃ r, (y - v) % z = r := ⟨_, rfl⟩
          rw [hr] at hcn HS HC q0 q1
          obtain ⟨t, ht⟩ : ∃ t, c + r = t := ⟨_, rfl⟩
          rw [ht] at hcn HS HC
          have HCT := hid hcn
          have tt : IntKind.i64.wrap t = t := IntWalk.i64_in _ (by omega)
          have HMM := hid (fun w => HMO.out (y - v) (by omega) w)
          rw [hr] at HMM
          have ty : IntKind.i64.wrap (y - v) = y - v := IntWalk.i64_in _ (by omega)
          have HO := hid hown
          by_cases hbig : 1000000000000 < t
          · have HFL := hid (HLM.out k (by have := HN.out; omega) (by rw [HCT.out]; exact hbig))
            clear hu hv' hc hr hcn HC hown
            go_upto_region 10 with fail
            go_quiet ((go_at_call 79; exact quiet_sm (HMM.out _)))
            obtain ⟨U, hU⟩ : ∃ U, U = wr.drewN nq := ⟨_, rfl⟩
            have bU : Below wr.heap.size wr U := by rw [hU]; exact below_drewN (Below.refl _ _) _
            have x1U := (bU.cell (p := ⟨b, k * 2, none⟩) RR.out.1).trans x1
            rw [← hU]
            have HBU := hid (HB.out.trans (bU.mono hzr))
            clear hU bU x1 x2 y1 y2 g2 x1U
            go_wp2_with fail
            have hfl := HFL.out
            subst hfl
            go_ret2
            exact ⟨_, rfl, OwnT.nil _ _ _ _, HBU.out.alloc HBU.out.size _⟩
          · have hbig' : decide (1000000000000 < t) = false := decide_eq_false hbig
            clear hu hv' hc hr hcn HC
            go_upto_region 10 with fail
            go_quiet ((go_at_call 79; exact quiet_sm (HMM.out _)))
            obtain ⟨U, hU⟩ : ∃ U, U = wr.drewN nq := ⟨_, rfl⟩
            have bU : Below wr.heap.size wr U := by rw [hU]; exact below_drewN (Below.refl _ _) _
            have x1U := (bU.cell (p := ⟨b, k * 2, none⟩) RR.out.1).trans x1
            rw [← hU]
            have hzU := bU.size
            have HBU := hid (HB.out.trans (bU.mono hzr))
            have HOU := hid (owns_below HO.out bU)
            have HB1 := hid (HBU.out.alloc (by omega) (.cells #[.int .i64 x, .int .i64 t] 99))
            have HO1 := hid (HOU.out.alloc (.cells #[.int .i64 x, .int .i64 t] 99))
            have news := Row.new U 99 [.int .i64 x, .int .i64 t]
            have n0 := news.cell 0
            have n1 := news.cell 1
            simp only [List.getElem?_cons_zero, List.getElem?_cons_succ] at n0 n1
            clear news hU bU x1 x2 y1 y2 g2 hown
            go_upto_region 7 with (at_builtin; refine wpList_append_own _ rfl _ _ 51 rfl w.heap.size 99 i0 (.agg #[.int .i64 0, .int .i64 0]) 2 16 Try.underlying51 hi iz0 iz1 iz2 rfl (by decide) _ _ _ rfl HO1.out ⟨U.heap.size, 0, none⟩ 1 1 [.int .i64 x, .int .i64 t] rfl rfl (by intro j u hj; match j, hj with | 0, hj => simp at hj; subst hj; simp [Addr.add, n0] | 1, hj => simp at hj; subst hj; simp [Addr.add, n1]) (by intro u hu; simp at hu; rcases hu with rfl | rfl <;> rfl) (by unfold maxLen; omega) (by omega) (by simp; omega) ?_; intro v' w2 hown' hgrow _)
            have hg2 : (U.alloc (.cells #[.int .i64 x, .int .i64 t] 99)).grownBy w2 (Value.slice (some ⟨g, 0, none⟩) k cp).ownBlock := hgrow
            have HB2 := hid (HB1.out.grown hg2 (by simp; omega) (fun k e => by have := (HO1.out.lt k e).1; omega))
            have hown2 := hid (show w2.ownsRow w.heap.size 99 2 v' (k + 1) (tvals (tfL z js (k + 1))) by rw [HS.out, tvals_snoc]; exact hown')
            have HTO2 := hid (show tfOk z js (k + 1) from fun j hj => by
              by_cases e : j = k
              · rw [e]; exact by rw [HCT.out]; omega
              · exact HTO.out j (by omega))
            clear hown' hgrow hg2 n0 n1 HO1 HB1
            go_wp2_with fail
            go_roundw
            case rel => exact ⟨k + 1, by omega, by go_num, hown2.out, HB2.out, HTO2.out⟩
            case measure => simp [intOf]; omega
      · obtain rfl : k = n := by omega
        have HFL := hid (HY.out (by rw [← HN.out]; exact HTO.out))
        have HO := hid hown
        clear hown hB
        go_wp2_with fail
        have hfl := HFL.out
        subst hfl
        go_ret2
        exact ⟨_, rfl, by rw [← HN.out]; exact OwnT.of_owns HO.out (by rw [tfL_len]; omega), HB.out⟩
end Go.Proofs.Ytgehkjaeahhloaa
