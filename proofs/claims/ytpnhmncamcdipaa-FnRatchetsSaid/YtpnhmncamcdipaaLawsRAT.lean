/- The law on ratchets. -/
import Derived.Test.YtpnhmncamcdipaaRtB
namespace Go.Proofs.Ytpnhmncamcdipaa
open Go.RowKit
set_option linter.unusedVariables false
set_option linter.unusedSimpArgs false
set_option maxRecDepth 100000 in
set_option maxHeartbeats 4000000 in
theorem law_FnRatchets_in (a : Option Addr) (len cap : Nat) (zs : List Int) (a' : Option Addr) (len' cap' : Nat) (zs' : List Int) (w : World) (h : InB w a len zs) (h' : InB w a' len' zs') (hl : len ≤ 3000) (hl' : len' ≤ 3000) :
    Calls Try.prog 3 #[.slice a len cap, .slice a' len' cap'] w fun e w' => e = .returned (.bool true) ∧ Below w.heap.size w w' := by
  have H1 := hid h; have H2 := hid h'
  have F1 := hid (a2Long_no a len cap a' len' cap' w hl hl')
  have AT0 := hid (fun (k : Nat) (K : Int) (hK : (k : Int) = K) (hk : k ≤ 3000) (n : Int) (W : World) (hI : InB W a len zs) (hn : 1 ≤ n ∧ n ≤ 1000000) => show Calls Try.prog 5 #[.slice a len cap, .int .i64 K, .int .i64 n] W (NumIn 0 n W) from by subst hK; exact a2At_any a len cap zs k n W hI hl hk hn)
  have AT1 := hid (fun (k : Nat) (K : Int) (hK : (k : Int) = K) (hk : k ≤ 3000) (n : Int) (W : World) (hI : InB W a' len' zs') (hn : 1 ≤ n ∧ n ≤ 1000000) => show Calls Try.prog 5 #[.slice a' len' cap', .int .i64 K, .int .i64 n] W (NumIn 0 n W) from by subst hK; exact a2At_any a' len' cap' zs' k n W hI hl' hk hn)
  have AM := hid (fun (W : World) (hI : InB W a' len' zs') => a2Moves_any a' len' cap' zs' W hI (by omega))
  clear h h' hl hl'
  go_enter Try.func3, Try.ntmps3
  go_wp2_with fail
  refine F1.out.mono ?_
  rintro e w1 ⟨rfl, hw⟩
  subst hw
  have q : Below w.heap.size w w := Below.refl _ _
  go_wp2_with fail
  with_reducible refine (AT0.out 0 0 rfl (by omega) 256 _ (H1.out.below q (Nat.le_refl _)) (by omega)).mono ?_
  rintro e w3 ⟨x, x0, x1, rfl, hw⟩
  subst hw
  have wx : IntKind.i64.wrap (37 * x) = 37 * x := IntWalk.i64_in _ (by omega)
  obtain ⟨turn, htu⟩ : ∃ t, 37 * x = t := ⟨_, rfl⟩
  have tub : 0 ≤ turn ∧ turn ≤ 9435 := by omega
  have wtu : IntKind.i64.wrap turn = turn := IntWalk.i64_in _ (by omega)
  clear x0 x1
  have q2 := q.alloc (Nat.le_refl _) (.cells (([1, 2, 4, 5, 8, 10, 1000] : List Int).map (Value.int .i64)).toArray 2)
  have hrow := Row.new w 2 (([1, 2, 4, 5, 8, 10, 1000] : List Int).map (Value.int .i64))
  obtain ⟨W, hW⟩ : ∃ y, y = w.alloc (.cells (([1, 2, 4, 5, 8, 10, 1000] : List Int).map (Value.int .i64)).toArray 2) := ⟨_, rfl⟩
  rw [← hW] at q2 hrow
  have HW := hid hW
  have HROW := hid hrow
  clear hW hrow
  go_upto_region 5 with fail
  rw [show w.alloc (.cells #[.int .i64 1, .int .i64 2, .int .i64 4, .int .i64 5, .int .i64 8, .int .i64 10, .int .i64 1000] 2) = W from HW.out.symm]
  go_wp2_with fail
  with_reducible refine (AT0.out 1 1 rfl (by omega) 7 _ (H1.out.below q2 (Nat.le_refl _)) (by omega)).mono ?_
  rintro e w4 ⟨y, y0, y1, rfl, hw⟩
  subst hw
  obtain ⟨Y, rfl⟩ : ∃ Y : Nat, y = Y := ⟨y.toNat, by omega⟩
  obtain ⟨t, hty, htt⟩ := teeth7 Y (by omega)
  have cT := HROW.out.cell Y
  rw [List.getElem?_map, hty] at cT
  simp only [Option.map_some] at cT
  have tb := teethB_out htt
  have e1 : Int.tdiv 1000 t = gapOf t := Int.tdiv_eq_ediv_of_nonneg (by decide)
  have gb := gap_bd tb.1 tb.2.1
  have RST := hid (fun (n : Int) (hn : 0 ≤ n ∧ n ≤ 1000000000000000) W => by have := implRestAt_any n t W; rw [restR_yes htt (turnB_of hn)] at this; exact this)
  have CLK := hid (fun (n b : Int) (hn : 0 ≤ n ∧ n ≤ 1000000000000000) (hb : 0 ≤ b ∧ b ≤ 1000000000000000) W => by have := implClicksOf_any n b t W; rw [clicksR_yes htt (turnB_of hn) (turnB_of hb)] at this; exact this)
  have BKR := hid (fun (n : Int) (hn : 0 ≤ n ∧ n ≤ 1000000000000000) ms (hm : movesOk ms = true) m e => backR_some (turn := n) (ms := ms) (n := m) htt (turnB_of hn) hm e)
  obtain ⟨g, hg⟩ : ∃ g, gapOf t = g := ⟨_, rfl⟩
  rw [hg] at e1 gb RST CLK BKR
  have wg : IntKind.i64.wrap g = g := IntWalk.i64_in g (by omega)
  have wt : IntKind.i64.wrap t = t := IntWalk.i64_in t (by omega)
  have t0 : t ≠ 0 := by omega
  have g0 : g ≠ 0 := by omega
  have yl : (Y : Int) < 7 := by omega
  have e1' : (1000 : Int) / t = g := by rw [← e1, Int.tdiv_eq_ediv_of_nonneg (by omega)]
  have HTB := hid tb; have HG := hid hg
  clear hty htt tb hg HROW HW
  go_wp2_with fail
  -- the rest
  have fm := floor_mod (a := turn) gb.1
  have mb := mod_bd turn g tub.1 gb.1
  have ml := Int.emod_lt_of_pos turn (show 0 < g by omega)
  with_reducible refine (RST.out turn (by omega) _).mono ?_
  rintro e w5 ⟨rfl, hB⟩
  replace q2 := q2.trans (hB.mono q2.size)
  obtain ⟨A, hA⟩ : ∃ A, turn - turn % g = A := ⟨_, rfl⟩
  rw [hA] at fm ⊢
  have Ab : 0 ≤ A ∧ A ≤ turn ∧ turn - A < g := by omega
  have HAA := hid hA
  clear hB hA mb ml
  go_wp2_with fail
  with_reducible refine (AT1.out 0 0 rfl (by omega) 256 _ (H2.out.below q2 (Nat.le_refl _)) (by omega)).mono ?_
  rintro e w6 ⟨z, z0, z1, rfl, hw⟩
  subst hw
  have wz : IntKind.i64.wrap (29 * z) = 29 * z := IntWalk.i64_in _ (by omega)
  obtain ⟨b, hby⟩ : ∃ t, 29 * z = t := ⟨_, rfl⟩
  have bb : 0 ≤ b ∧ b ≤ 7395 := by omega
  have wb : IntKind.i64.wrap b = b := IntWalk.i64_in _ (by omega)
  clear z0 z1
  go_wp2_with fail
  with_reducible refine (CLK.out turn b (by omega) (by omega) _).mono ?_
  rintro e w7 ⟨rfl, hB⟩
  replace q2 := q2.trans (hB.mono q2.size)
  have dd := div_dif (g := g) (a := turn) (b := turn + b)
  have d1 := div_bd (turn + b) g (by omega) gb.1
  have d2 := div_bd turn g tub.1 gb.1
  have m1 := mod_bd (turn + b) g (by omega) gb.1
  have cls := Int.ediv_le_ediv (show 0 < g by omega) (show turn ≤ turn + b by omega)
  obtain ⟨D, hD⟩ : ∃ D, (turn + b) / g - turn / g = D := ⟨_, rfl⟩
  obtain ⟨C, hC⟩ : ∃ C, (turn + b) - (turn + b) % g = C := ⟨_, rfl⟩
  rw [hD, HAA.out, hC] at dd
  rw [hD]
  have wtb : IntKind.i64.wrap (turn + b) = turn + b := IntWalk.i64_in _ (by omega)
  have Cb : 0 ≤ C ∧ C ≤ 20000 := by omega
  have wDg : IntKind.i64.wrap (D * g) = D * g := by rw [dd]; exact IntWalk.i64_in _ (by omega)
  have wCA : IntKind.i64.wrap (C - A) = C - A := IntWalk.i64_in _ (by omega)
  have wD : IntKind.i64.wrap D = D := IntWalk.i64_in _ (by omega)
  have wTA : IntKind.i64.wrap (turn - A) = turn - A := IntWalk.i64_in _ (by omega)
  have fm2 : A.tmod g = 0 := by rw [Int.tmod_eq_emod_of_nonneg Ab.1]; exact fm
  have HCC := hid hC; have HDD := hid dd
  have hdn : (D * g != C - A) = false := by rw [dd]; simp
  have gng : ¬ g ≤ turn - A := by omega
  have gnA : ¬ turn < A := by omega
  clear hB hD hC d1 d2 m1 cls dd
  go_wp2_with fail
  with_reducible refine (RST.out (turn + b) (by omega) _).mono ?_
  rintro e w8 ⟨rfl, hB⟩
  replace q2 := q2.trans (hB.mono q2.size)
  rw [HCC.out]
  clear hB
  go_wp2_with fail
  with_reducible refine (AM.out _ (H2.out.below q2 (Nat.le_refl _))).mono ?_
  rintro e w9 ⟨gm, n, cp, ms, rfl, hn, hn6, hcp, hM, hL, hgm, hB⟩
  replace q2 := q2.trans (hB.mono q2.size)
  have hl6 : ms.length ≤ 6 := by omega
  obtain ⟨due, hdue, du1, du2, du3⟩ := goF_all gb.1 tub.1 (by omega) hM hl6 ms.length (Nat.le_refl _)
  rw [List.take_of_length_le (Nat.le_refl _)] at hdue
  rw [HAA.out] at du1
  have hmo := mv_ok hM hl6
  have BK := BKR.out turn (by omega) ms hmo due hdue
  have dif := div_dif (g := g) (a := turn) (b := due)
  have fl := floor_le (g := g) (a := turn) (b := due) gb.1 (by rw [HAA.out]; exact du1)
  have md := mod_bd due g du2 gb.1
  obtain ⟨F, hF⟩ : ∃ F, due / g - turn / g = F := ⟨_, rfl⟩
  obtain ⟨L, hL2⟩ : ∃ L, due - due % g = L := ⟨_, rfl⟩
  rw [hF] at BK
  rw [hF, HAA.out, hL2] at dif
  rw [HAA.out, hL2] at fl
  have HBM := hid (fun W (k : Lst W gm ms) => by have := implBack_any turn t gm n cp ms W k hn; rw [BK] at this; exact this)
  have HBS := hid (fun W (k : Lst W gm ms) => by have := specBack_any turn t gm n cp ms W k hn; rw [BK] at this; exact this)
  have HL2 := hid hL2; have HDIF := hid dif; have HDUE := hid hdue; have HMM := hid hM; have HN := hid hn
  have wLA : IntKind.i64.wrap (L - A) = L - A := IntWalk.i64_in _ (by omega)
  have wFg : IntKind.i64.wrap (F * g) = F * g := by rw [dif]; exact IntWalk.i64_in _ (by omega)
  have hdn2 : (L - A != F * g) = false := by rw [dif]; simp
  have hff : (F != F) = false := by simp
  have hdd2 : (due != due) = false := by simp
  have dnA : ¬ due < A := by omega
  have HGM := hid hgm; have HLL := hid hL; have HLT := hid hL.1
  have dub : 0 ≤ due ∧ due ≤ 1000000000000000 := by omega
  have D3 := hid du3
  have c9 : Below w9.heap.size w9 w9 := Below.refl _ _
  clear hB hL hM hdue hmo BK hF hL2 dif hn hgm du3 AM AT0 AT1 H1 H2
  go_wp2_with fail
  with_reducible refine (HBM.out _ (HLL.out.below c9 HLT.out)).mono ?_
  rintro e w10 ⟨rfl, hB⟩
  replace q2 := q2.trans (hB.mono q2.size)
  replace c9 := c9.trans (hB.mono c9.size)
  clear hB
  go_wp2_with fail
  with_reducible refine (HBS.out _ (HLL.out.below c9 HLT.out)).mono ?_
  rintro e w11 ⟨rfl, dr, hdr⟩
  have hB : Below w10.heap.size w10 w11 := by rw [hdr]; exact below_drewN (Below.refl _ _) _
  replace q2 := q2.trans (hB.mono q2.size)
  replace c9 := c9.trans (hB.mono c9.size)
  clear hB hdr
  go_wp2_with fail
  with_reducible refine (RST.out due dub _).mono ?_
  rintro e w12 ⟨rfl, hB⟩
  replace q2 := q2.trans (hB.mono q2.size)
  replace c9 := c9.trans (hB.mono c9.size)
  rw [HL2.out]
  clear hB
  have HQ := hid q2; have HC9 := hid c9
  clear q2 c9
  go_wp2_with fail
  go_loopw [25, 26] (fun now i wr => ∃ (k : Nat) (q : Int), k ≤ n ∧ i = .int .i64 k ∧ .int .i64 q = now ∧ goF g turn (ms.take k) = some q ∧ 0 ≤ q ∧ q ≤ 10000 + 1000 * (k : Int) ∧ Below w.heap.size w wr ∧ Below w9.heap.size w9 wr) (fun _ i _ => n - (intOf i).toNat)
  case atStart => exact ⟨0, turn, Nat.zero_le _, rfl, rfl, rfl, tub.1, by omega, HQ.out, HC9.out⟩
  case round =>
    obtain ⟨k, q, hk, rfl, rfl, hGF, q0, q1, hQ, hC⟩ := hrel
    by_cases hkn : k < n
    · have k1 : (k : Int) < (n : Int) := by omega
      have k0 : (0 : Int) ≤ (k : Int) := by omega
      have k4 : (k : Int) ≤ (k : Int) + 1 := by omega
      have k5 : (k : Int) + 1 ≤ (cp : Int) := by omega
      have k6 : ¬ cp = k := by omega
      have k7 : (k : Int) ≤ (cp : Int) := by omega
      have w1' : IntKind.i64.wrap ((k : Int) + 1) = (k : Int) + 1 := IntWalk.i64_in _ (by omega)
      have hkm : k < ms.length := by rw [← HN.out]; exact hkn
      have mb := mvB_at HMM.out k hkm
      have hLk := HLL.out.below hC HLT.out
      have yk := hLk.2.1 k hkm
      have HLO := hid (fun W (hb : Below w9.heap.size w9 W) => show LstO W gm k [ms[k]?.getD 0] from by
        have hh := HLL.out.below hb HLT.out
        refine ⟨hh.1, fun j hj => ?_, fun z hz => by simp at hz; omega, by simp⟩
        obtain rfl : j = 0 := by simpa using hj
        simpa using hh.2.1 k hkm)
      have HST := hid (fun hle => goF_step hkm hGF hle)
      obtain ⟨m, hm⟩ : ∃ m, ms[k]?.getD 0 = m := ⟨_, rfl⟩
      rw [hm] at mb yk HLO HST
      have up : go1 g q m ≤ q + 900 := by
        have := Int.emod_nonneg q (show g ≠ 0 by omega)
        unfold go1; split <;> omega
      have lo := go1_floor (g := g) (n := q) (m := m) gb.1
      have mq := mod_bd q g q0 gb.1
      have NS := HST.out (by omega)
      have hgo : goF g q [m] = some (go1 g q m) := by
        simp only [goF, List.foldl_cons, List.foldl_nil, Option.bind_some]
        rw [if_pos (by omega)]
      have BK1 := BKR.out q (by omega) [m] (by
        simp only [movesOk, movesB, List.length_cons, List.length_nil, List.all_cons, List.all_nil, Bool.and_true]
        rw [decide_eq_true (show (0 + 1 : Nat) ≤ 100 by omega), decide_eq_true (show -1000000000000000 ≤ m ∧ m ≤ 1000000000000000 by omega)]
        rfl) _ hgo
      have hps := fun (h : 0 ≤ m) => go1_pos (g := g) (n := q) h gb.1
      have hng := fun (h : m < 0) => go1_neg (g := g) (n := q) h gb.1
      have z1 := div_bd q g q0 gb.1
      have z2 := div_bd (go1 g q m) g (by omega) gb.1
      obtain ⟨N, hN⟩ : ∃ N, go1 g q m = N := ⟨_, rfl⟩
      rw [hN] at up lo NS BK1 hps hng z2
      obtain ⟨Z, hZ⟩ : ∃ Z, N / g - q / g = Z := ⟨_, rfl⟩
      rw [hZ] at BK1
      have HBK := hid (fun W (kk : LstO W gm k [m]) => by have := implBackO_any q t gm k 1 (cp - k) [m] W kk rfl; rw [BK1] at this; exact this)
      obtain ⟨fl2, hfl⟩ : ∃ f, q - q % g = f := ⟨_, rfl⟩
      rw [hfl] at lo
      have YKE := hid hm
      have HFL := hid hfl; have HNS := hid NS; have HQ2 := hid hQ; have HC2 := hid hC
      have wqm : IntKind.i64.wrap (q + m) = q + m := IntWalk.i64_in _ (by omega)
      have hZ0 : m < 0 → Z = 0 := fun h => by rw [← hZ, (hng h).2]; omega
      have hNl : ¬ N < fl2 := by omega
      have nb : 0 ≤ N ∧ N ≤ 10000 + 1000 * ((k + 1 : Nat) : Int) := by omega
      have NB := hid nb
      have hxx : (q + m != q + m) = false := by simp
      clear hGF hm hN hgo BK1 hZ hfl NS hQ hC HST z1 z2 up lo mq mb nb hLk
      rcases Int.lt_or_le m 0 with hm0 | hm0
      · have nle : ¬ q < N := by have := (hng hm0).1; omega
        obtain rfl := hZ0 hm0
        have hm1 : ¬ 0 ≤ m := by omega
        clear hps hng hZ0
        go_wp2_with fail
        refine (HBK.out _ (HLO.out _ HC2.out)).mono ?_
        rintro e w20 ⟨rfl, hB⟩
        have HQ3 := hid (HQ2.out.trans (hB.mono HQ2.out.size))
        have HC3 := hid (HC2.out.trans (hB.mono HC2.out.size))
        clear hB
        go_wp2_with fail
        with_reducible refine (RST.out q (by omega) _).mono ?_
        rintro e w21 ⟨rfl, hB⟩
        have HQ4 := hid (HQ3.out.trans (hB.mono HQ3.out.size))
        have HC4 := hid (HC3.out.trans (hB.mono HC3.out.size))
        rw [HFL.out]
        have yk2 := (HLL.out.below HC4.out HLT.out).2.1 k (by rw [← HN.out]; exact hkn)
        rw [YKE.out] at yk2
        clear hB
        go_wp2_with fail
        go_roundw
        case rel => exact ⟨k + 1, _, by omega, by go_num, rfl, HNS.out, NB.out.1, NB.out.2, HQ4.out, HC4.out⟩
        case measure => simp [intOf]; omega
      · obtain rfl := hps hm0
        have hm1 : ¬ m < 0 := by omega
        clear hps hng hZ0
        go_wp2_with fail
        refine (HBK.out _ (HLO.out _ HC2.out)).mono ?_
        rintro e w20 ⟨rfl, hB⟩
        have HQ3 := hid (HQ2.out.trans (hB.mono HQ2.out.size))
        have HC3 := hid (HC2.out.trans (hB.mono HC2.out.size))
        clear hB
        go_wp2_with fail
        with_reducible refine (RST.out q (by omega) _).mono ?_
        rintro e w21 ⟨rfl, hB⟩
        have HQ4 := hid (HQ3.out.trans (hB.mono HQ3.out.size))
        have HC4 := hid (HC3.out.trans (hB.mono HC3.out.size))
        rw [HFL.out]
        have yk2 := (HLL.out.below HC4.out HLT.out).2.1 k (by rw [← HN.out]; exact hkn)
        rw [YKE.out] at yk2
        clear hB
        go_wp2_with fail
        go_roundw
        case rel => exact ⟨k + 1, _, by omega, by go_num, rfl, HNS.out, NB.out.1, NB.out.2, HQ4.out, HC4.out⟩
        case measure => simp [intOf]; omega
    · obtain rfl : k = n := by omega
      have k1 : ¬ (k : Int) < (k : Int) := by omega
      have e := hGF
      rw [List.take_of_length_le (by rw [← HN.out]; exact Nat.le_refl _), HDUE.out] at e
      injection e with e
      subst e
      have HQ2 := hid hQ
      clear hGF hQ hC
      go_wp2_with fail
      go_ret
      exact ⟨by first | rfl | simp, HQ2.out⟩
end Go.Proofs.Ytpnhmncamcdipaa
