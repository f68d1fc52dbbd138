/- The law on least stacks. -/
import Derived.Test.YtobephnmbpoopaaFlsA
namespace Go.Proofs.Ytobephnmbpoopaa
open Go.RowKit
set_option linter.unusedVariables false
set_option linter.unusedSimpArgs false
theorem pow2_bd (k : Nat) (h : k ≤ 29) : (1 : Int) ≤ 2 ^ k ∧ (2 : Int) ^ k ≤ 536870912 := by
  have h1 : (2 : Nat) ^ k ≤ 2 ^ 29 := Nat.pow_le_pow_right (by omega) h
  have h2 : (1 : Nat) ≤ 2 ^ k := Nat.one_le_two_pow
  have e : ((2 ^ k : Nat) : Int) = (2 : Int) ^ k := by simp
  omega
theorem pow1_bd {x : Int} (hx : 1 ≤ x ∧ x ≤ 100) (k : Nat) (h : k ≤ 8) : 1 ≤ x ^ k ∧ x ^ k ≤ 10000000000000000 := by
  by_cases c : x = 1
  · rw [c, Int.one_pow]; omega
  · exact powW (b := x) ⟨by omega, hx.2⟩ h
/-- what the model and the program give, in the three cases -/
theorem three_any (size : Int) (n : Nat) (h : (1 ≤ size ∧ size ≤ 1000000000000) ∧ 1 ≤ n ∧ n ≤ 8) :
    (∀ W, Calls Try.prog 7 #[.int .i64 size, .int .i64 (n : Int)] W (LsR ([], 3) W)) ∧ (∀ W, Calls Try.prog 6 #[.int .i64 size, .int .i64 (n : Int)] W (LsR ([], 3) W)) ∨
    ∃ b : Int, baseIs size n b ∧ 2 ≤ b ∧ b ≤ 100 ∧ okL (lsL b n (lastW size (b ^ (n - 1)))) = true ∧ (∀ W, Calls Try.prog 7 #[.int .i64 size, .int .i64 (n : Int)] W (LsR (lsL b n (lastW size (b ^ (n - 1))), 0) W)) ∧ (∀ W, Calls Try.prog 6 #[.int .i64 size, .int .i64 (n : Int)] W (LsR (lsL b n (lastW size (b ^ (n - 1))), 0) W)) := by
  obtain ⟨b, hb, hb1⟩ := base_ex size n
  have hS := fun W => (specLeastStack_in size n h.1.1 h.1.2 h.2.1 h.2.2 W).mono fun _ _ k => LsG.r h.2.1 h.2.2 hb k
  by_cases h100 : b ≤ 100
  · have hM := fun W => (implLeastStack_in size n h.1.1 h.1.2 h.2.1 h.2.2 b hb h100 W).mono fun _ _ k => LsG.r h.2.1 h.2.2 hb k
    rw [if_neg (by omega)] at hS hM
    by_cases ho : okL (lsL b n (lastW size (b ^ (n - 1)))) = true
    · rw [if_pos ho] at hS hM
      exact .inr ⟨b, hb, hb.1, h100, ho, hS, hM⟩
    · rw [if_neg ho] at hS hM
      exact .inl ⟨hS, hM⟩
  · obtain rfl : b = 101 := by omega
    have hM := fun W => (implLeastStack_great size n h.1.1 h.1.2 h.2.1 h.2.2 hb W).mono fun _ _ k => LsG.r h.2.1 h.2.2 hb k
    rw [if_pos rfl] at hS hM
    exact .inl ⟨hS, hM⟩
set_option maxRecDepth 100000 in
set_option maxHeartbeats 4000000 in
theorem law_FnLeastStacks_in (a : Option Addr) (len cap : Nat) (zs : List Int) (a' : Option Addr) (len' cap' : Nat) (zs' : List Int) (w : World) (h : InB w a len zs) (h' : InB w a' len' zs') (hl : len ≤ 4096) (hl' : len' ≤ 4096) :
    Calls Try.prog 3 #[.slice a len cap, .slice a' len' cap'] w fun e w' => e = .returned (.bool true) ∧ Below w.heap.size w w' := by
  have H1 := hid h; have H2 := hid h'
  have F1 := hid (f6big_no a len cap w hl); have F2 := hid (f6big_no a' len' cap' w hl')
  have PA := hid (fun (n : Int) (W : World) (hI : InB W a len zs) (hn : n ≤ 4611686018427387904) => p6Pick_any a len cap zs n W hI hl hn)
  have PB := hid (fun (n : Int) (W : World) (hI : InB W a' len' zs') (hn : n ≤ 4611686018427387904) => p6Pick_any a' len' cap' zs' n W hI hl' hn)
  clear h h' hl hl'
  go_enter Try.func3, Try.ntmps3
  go_wp2_with fail
  refine F1.out.mono ?_
  rintro e w1 ⟨rfl, hw⟩
  subst hw
  go_wp2_with fail
  refine F2.out.mono ?_
  rintro e w2 ⟨rfl, hw⟩
  subst hw
  have q : Below w2.heap.size w2 w2 := Below.refl _ _
  go_wp2_with fail
  with_reducible refine (PB.out 28 _ (H2.out.below q (Nat.le_refl _)) (by omega)).mono ?_
  rintro e w3 ⟨x, x0, x1, rfl, hB⟩
  replace q := q.trans (hB.mono q.size)
  clear hB
  have x2 : x < 28 := by omega
  have wx : IntKind.i64.wrap (2 + x) = 2 + x := IntWalk.i64_in _ (by omega)
  have hbd := pow2_bd (2 + x).toNat (by omega)
  obtain ⟨Y, hY⟩ : ∃ y, (2 : Int) ^ (2 + x).toNat = y := ⟨_, rfl⟩
  rw [hY] at hbd
  have wY : IntKind.i64.wrap Y = Y := IntWalk.i64_in _ (by omega)
  clear x1
  go_wp2_with fail
  with_reducible refine (PA.out Y _ (H1.out.below q (Nat.le_refl _)) (by omega)).mono ?_
  rintro e w4 ⟨y, y0, y1, rfl, hB⟩
  replace q := q.trans (hB.mono q.size)
  have y2 : 1 + y ≤ 536870912 := by omega
  have wy : IntKind.i64.wrap (1 + y) = 1 + y := IntWalk.i64_in _ (by omega)
  obtain ⟨size, hsz⟩ : ∃ z, 1 + y = z := ⟨_, rfl⟩
  have s1 : 1 ≤ size ∧ size ≤ 1000000000000 := by omega
  have HY := hid hY
  clear hB y1 hY
  go_wp2_with fail
  with_reducible refine (PB.out 8 _ (H2.out.below q (Nat.le_refl _)) (by omega)).mono ?_
  rintro e w5 ⟨z, z0, z1, rfl, hB⟩
  replace q := q.trans (hB.mono q.size)
  have wz : IntKind.i64.wrap (1 + z) = 1 + z := IntWalk.i64_in _ (by omega)
  obtain ⟨n, hn⟩ : ∃ n : Nat, 1 + z = (n : Int) := ⟨(1 + z).toNat, by omega⟩
  have n1 : 1 ≤ n ∧ n ≤ 8 := by omega
  have wn : IntKind.i64.wrap (n : Int) = (n : Int) := IntWalk.i64_in _ (by omega)
  have ws : IntKind.i64.wrap size = size := IntWalk.i64_in _ (by omega)
  have T3 := three_any size n ⟨s1, n1⟩
  clear hB z1 PA PB F1 F2 H1 H2
  rcases T3 with ⟨hS, hM⟩ | ⟨b, hbi, hb2, hb100, hok, hS, hM⟩
  · have HS := hid hS; have HM := hid hM
    clear hS hM
    go_wp2_with fail
    with_reducible refine (HM.out _).mono ?_
    rintro e V3 ⟨v3, rfl, O3, hB⟩
    replace q := q.trans (hB.mono q.size)
    clear hB
    have c3b : Below V3.heap.size V3 V3 := Below.refl _ _
    go_wp2_with fail
    with_reducible refine (HS.out V3).mono ?_
    rintro e V6 ⟨v6, rfl, G6, hB⟩
    replace q := q.trans (hB.mono q.size)
    replace c3b := c3b.trans (hB.mono c3b.size)
    clear hB
    have d : Below V6.heap.size V6 V6 := Below.refl _ _
    go_wp2_with fail
    with_reducible refine (sameStackB_own _ _ v3 v6 [] _ (O3.keep c3b) (G6.keep d)).mono ?_
    rintro e w11 ⟨rfl, dd, hdd⟩
    have hB : Below V6.heap.size V6 w11 := by rw [hdd]; exact below_drewN (Below.refl _ _) _
    replace q := q.trans (hB.mono q.size)
    clear hB hdd
    go_wp2_with fail
    go_ret
    exact ⟨rfl, q⟩
  · obtain ⟨t, ht⟩ : ∃ t, lastW size (b ^ (n - 1)) = t := ⟨_, rfl⟩
    obtain ⟨m, hm⟩ : ∃ m, n - 1 = m := ⟨_, rfl⟩
    have hP := powW (b := b) ⟨hb2, hb100⟩ (k := m) (by omega)
    have hfit := base_fits hbi hb100 n1.1
    rw [hm] at ht hfit
    have htb := lastW_le hP.1 hb2 hfit
    have hge := last_ge (size := size) hP.1 s1.1
    have hle := fun h => last_less2 (size := size) (o := b ^ m) hP.1 s1.1 h
    rw [hm] at hok hS hM
    rw [ht] at hok hS hM htb hge hle
    have hN : b ^ m * t ≤ 1000000000000 := by
      have := lsL_ok b n t n1.1 n1.2 ⟨hb2, hb100⟩ ⟨htb.1, by omega⟩
      rw [hok, hm] at this
      simpa using this
    have hszL : szL (lsL b n t) = b ^ m * t := by unfold lsL; rw [szL_snoc, szL_rep, hm]
    have hall : n = 1 ∨ b = 2 ∨ (b - 1) ^ n < size := by
      by_cases c : b = 2
      · exact .inr (.inl c)
      · exact .inr (.inr (hbi.2.1 (b - 1) (by omega) (by omega)).2)
    obtain ⟨P, hPe⟩ : ∃ y, b ^ m = y := ⟨_, rfl⟩
    rw [hPe] at hP hge hle hN hszL
    obtain ⟨N, hNe⟩ : ∃ y, P * t = y := ⟨_, rfl⟩
    rw [hNe] at hge hN hszL
    have hquo : N.tdiv t = P := by
      rw [Int.tdiv_eq_ediv_of_nonneg (by omega), ← hNe, Int.mul_ediv_cancel _ (by omega)]
    have hquo2 : N / t = P := by rw [← hNe, Int.mul_ediv_cancel _ (by omega)]
    have HS := hid hS; have HM := hid hM
    have hne : lsL b n t ≠ [] := fun h => by have := congrArg List.length h; rw [lsL_len _ _ _ n1.1] at this; simp at this; omega
    have hbd : ∀ z ∈ lsL b n t, 0 ≤ z ∧ z ≤ 255 := fun z hz => by
      unfold lsL at hz
      simp at hz
      rcases hz with ⟨_, rfl⟩ | rfl <;> omega
    have hln := lsL_len b n t n1.1
    have hg1 := fun j hj => lsL_get b n t j n1.1 hj
    have hg2 := lsL_last b n t
    rw [hm] at hg1 hg2
    obtain ⟨E, hE⟩ : ∃ E, lsL b n t = E := ⟨_, rfl⟩
    rw [hE] at HS HM hok hszL hne hbd hln hg1 hg2
    have HOK := hid hok; have HSZ := hid hszL; have HNE := hid hne; have HBD := hid hbd; have HLN := hid hln; have HG1 := hid hg1; have HG2 := hid hg2; have HALL := hid hall; have HLE := hid hle
    have HX := hid (And.intro hm (And.intro htb (And.intro hge (And.intro hP hN))))
    clear hS hM hok hszL hne hbd hln hg1 hg2 hE hbi hPe hNe hfit hall hle ht hm htb hge hP hN
    go_wp2_with fail
    with_reducible refine (HM.out _).mono ?_
    rintro e V3 ⟨v3, rfl, O3, hB⟩
    replace q := q.trans (hB.mono q.size)
    clear hB
    have c3b : Below V3.heap.size V3 V3 := Below.refl _ _
    go_wp2_with fail
    with_reducible refine (HS.out V3).mono ?_
    rintro e V6 ⟨v6, rfl, G6, hB⟩
    replace q := q.trans (hB.mono q.size)
    replace c3b := c3b.trans (hB.mono c3b.size)
    clear hB
    have d : Below V6.heap.size V6 V6 := Below.refl _ _
    go_wp2_with fail
    with_reducible refine (sameStackB_own _ _ v3 v6 E _ (O3.keep c3b) (G6.keep d)).mono ?_
    rintro e w11 ⟨rfl, dd, hdd⟩
    have hB : Below V6.heap.size V6 w11 := by rw [hdd]; exact below_drewN (Below.refl _ _) _
    replace q := q.trans (hB.mono q.size)
    obtain ⟨g, cp, rfl, _, hS⟩ := OwnB.stk (G6.keep hB) HNE.out HBD.out (by have := HLN.out; omega)
    clear hB hdd d c3b
    have ZOF := hid (implSizeOf_any g E.length cp E w11 hS rfl)
    rw [sizeR_yes HOK.out] at ZOF
    rw [HSZ.out] at ZOF
    rw [HLN.out] at ZOF ⊢
    go_wp2_with fail
    refine ZOF.out.mono ?_
    rintro e w12 ⟨rfl, hB⟩
    replace q := q.trans (hB.mono q.size)
    replace hS := hS.below hB hS.1
    clear ZOF hB
    have VST := hid (validStack_any g E.length cp E w12 hS rfl)
    rw [HOK.out] at VST
    have HCELL := hid (fun (j : Nat) (hj : j < n) => hS.2.1 j (by rw [HLN.out]; exact hj))
    rw [HLN.out] at VST
    have hmE : (n : Int) - 1 = (m : Int) := by have := HX.out.1; omega
    have qw : IntKind.i64.wrap ((n : Int) - 1) = (m : Int) := by rw [hmE]; exact IntWalk.i64_in _ (by omega)
    have q0 : (0 : Int) ≤ (m : Int) := by omega
    have q1 : (m : Int) < (n : Int) := by omega
    have ym := HCELL.out m (by omega)
    have y0' := HCELL.out 0 (by omega)
    rw [show E[m]? = some t by
      have h1 := HG2.out; have h2 : m < E.length := by rw [HLN.out]; omega
      simp [h2] at h1 ⊢; exact h1] at ym
    have e2 : ¬ N < size := by have := HX.out.2.2.1; omega
    have wNb : 0 ≤ N ∧ N ≤ 1000000000000 := by have := HX.out; omega
    have wN : IntKind.i64.wrap N = N := IntWalk.i64_in _ (by omega)
    have tb : 2 ≤ t ∧ t ≤ 100 := by have := HX.out; omega
    have wt : IntKind.i64.wrap t = t := IntWalk.i64_in _ (by omega)
    have wt1 : IntKind.i64.wrap (t - 1) = t - 1 := IntWalk.i64_in _ (by omega)
    have t0 : t ≠ 0 := by omega
    have Pb : 1 ≤ P ∧ P ≤ 10000000000000000 := HX.out.2.2.2.1
    have wP : IntKind.i64.wrap P = P := IntWalk.i64_in _ (by omega)
    have hPt : 0 ≤ P * (t - 1) ∧ P * (t - 1) ≤ 10000000000000000 * 100 := ⟨Int.mul_nonneg (by omega) (by omega), Int.mul_le_mul Pb.2 (by omega) (by omega) (by omega)⟩
    have wPt : IntKind.i64.wrap (P * (t - 1)) = P * (t - 1) := IntWalk.i64_in _ (by omega)
    obtain ⟨c, hc⟩ : ∃ c, E[0]?.getD 0 = c := ⟨_, rfl⟩
    have hcb : (0 < m → c = b) ∧ 2 ≤ c ∧ c ≤ 100 := by
      by_cases hm0 : m = 0
      · have := HG2.out; rw [hm0, hc] at this; omega
      · have := HG1.out 0 (by omega); rw [hc] at this; omega
    have y0'' : w12.cell? ⟨g, 0, none⟩ = some (.int .u8 c) := by
      rw [y0', ← hc]
    have wc : IntKind.i64.wrap c = c := IntWalk.i64_in _ (by omega)
    have wc1 : IntKind.i64.wrap (c - 1) = c - 1 := IntWalk.i64_in _ (by omega)
    have HC := hid (fun (k : Nat) (hk : k < m) => show w12.cell? ⟨g, k, none⟩ = some (.int .u8 c) from by
      rw [HCELL.out k (by omega)]
      have h1 := HG1.out k hk; have h2 : k < E.length := by rw [HLN.out]; omega
      rw [(hcb.1 (by omega))]
      simp [h2] at h1 ⊢; exact h1)
    have HEND := hid (show n = 1 ∨ c = 2 ∨ (c - 1) ^ n < size from by
      rcases HALL.out with h | h | h
      · exact .inl h
      · by_cases hm0 : m = 0
        · exact .inl (by omega)
        · exact .inr (.inl (by rw [hcb.1 (by omega)]; exact h))
      · by_cases hm0 : m = 0
        · exact .inl (by omega)
        · exact .inr (.inr (by rw [hcb.1 (by omega)]; exact h)))
    have HCB := hid hcb
    have hPW := hid (fun (k : Nat) (hk : k ≤ 8) => pow1_bd (x := c - 1) (by omega) k hk)
    have p0 : (0 : Int) < (n : Int) := by omega
    clear y0' hc hPt hcb
    go_wp2_with fail
    refine VST.out.mono ?_
    rintro e w13 ⟨rfl, hw⟩
    subst hw
    have HQ := hid q
    clear q
    by_cases ht2 : 2 < t
    · have e3 : ¬ size ≤ P * (t - 1) := by have := HLE.out ht2; omega
      go_wp2_with fail
      go_loopw [15, 16] (fun p i wr => ∃ (k : Nat) (A : Int), k ≤ n ∧ i = .int .i64 k ∧ .int .i64 A = p ∧ A = (c - 1) ^ k ∧ wr = w12) (fun _ i _ => n - (intOf i).toNat)
      case atStart => exact ⟨0, 1, Nat.zero_le _, rfl, rfl, by simp, rfl⟩
      case round =>
        obtain ⟨k, A, hk, rfl, rfl, hA, rfl⟩ := hrel
        have hAb := hPW.out k (by omega)
        rw [← hA] at hAb
        by_cases hkn : k < n
        · have k1 : (k : Int) < (n : Int) := by omega
          have k0 : (0 : Int) ≤ (k : Int) := by omega
          have w1' : IntKind.i64.wrap ((k : Int) + 1) = (k : Int) + 1 := IntWalk.i64_in _ (by omega)
          have hb2 : A * (c - 1) = (c - 1) ^ (k + 1) := by rw [hA, Int.pow_succ]
          have hbd := hPW.out (k + 1) (by omega)
          rw [← hb2] at hbd
          have wm : IntKind.i64.wrap (A * (c - 1)) = A * (c - 1) := IntWalk.i64_in _ (by omega)
          have HP2 := hid hb2
          clear hb2 hbd hA hAb
          by_cases hkm : k < m
          · have hkm' : (k : Int) < (m : Int) := by omega
            have yk := HC.out k hkm
            have fcc : (c != c) = false := by simp
            go_wp2_with fail
            go_roundw
            case rel => exact ⟨k + 1, A * (c - 1), by omega, by go_num, rfl, HP2.out, by first | rfl | trivial⟩
            case measure => simp [intOf]; omega
          · have hkm' : ¬ (k : Int) < (m : Int) := by omega
            go_wp2_with fail
            go_roundw
            case rel => exact ⟨k + 1, A * (c - 1), by omega, by go_num, rfl, HP2.out, by first | rfl | trivial⟩
            case measure => simp [intOf]; omega
        · obtain rfl : k = n := by omega
          have k1 : ¬ (k : Int) < (k : Int) := by omega
          have HE2 := HEND.out
          rw [← hA] at HE2
          clear hA
          rcases Classical.em (k = 1) with h1 | h1
          · have hn1 : (k : Int) = 1 := by omega
            clear HE2
            go_wp2_with fail
            go_ret
            exact ⟨rfl, HQ.out⟩
          · have hn1 : ¬ (k : Int) = 1 := by omega
            rcases Classical.em (c = 2) with h2 | h2
            · clear HE2
              go_wp2_with fail
              go_ret
              exact ⟨rfl, HQ.out⟩
            · have h3 : A < size := by
                rcases HE2 with h | h | h
                · exact absurd h h1
                · exact absurd h h2
                · exact h
              clear HE2
              go_wp2_with fail
              go_ret
              exact ⟨rfl, HQ.out⟩
    · have e3 : ¬ 2 < t := ht2
      go_wp2_with fail
      go_loopw [15, 16] (fun p i wr => ∃ (k : Nat) (A : Int), k ≤ n ∧ i = .int .i64 k ∧ .int .i64 A = p ∧ A = (c - 1) ^ k ∧ wr = w12) (fun _ i _ => n - (intOf i).toNat)
      case atStart => exact ⟨0, 1, Nat.zero_le _, rfl, rfl, by simp, rfl⟩
      case round =>
        obtain ⟨k, A, hk, rfl, rfl, hA, rfl⟩ := hrel
        have hAb := hPW.out k (by omega)
        rw [← hA] at hAb
        by_cases hkn : k < n
        · have k1 : (k : Int) < (n : Int) := by omega
          have k0 : (0 : Int) ≤ (k : Int) := by omega
          have w1' : IntKind.i64.wrap ((k : Int) + 1) = (k : Int) + 1 := IntWalk.i64_in _ (by omega)
          have hb2 : A * (c - 1) = (c - 1) ^ (k + 1) := by rw [hA, Int.pow_succ]
          have hbd := hPW.out (k + 1) (by omega)
          rw [← hb2] at hbd
          have wm : IntKind.i64.wrap (A * (c - 1)) = A * (c - 1) := IntWalk.i64_in _ (by omega)
          have HP2 := hid hb2
          clear hb2 hbd hA hAb
          by_cases hkm : k < m
          · have hkm' : (k : Int) < (m : Int) := by omega
            have yk := HC.out k hkm
            have fcc : (c != c) = false := by simp
            go_wp2_with fail
            go_roundw
            case rel => exact ⟨k + 1, A * (c - 1), by omega, by go_num, rfl, HP2.out, by first | rfl | trivial⟩
            case measure => simp [intOf]; omega
          · have hkm' : ¬ (k : Int) < (m : Int) := by omega
            go_wp2_with fail
            go_roundw
            case rel => exact ⟨k + 1, A * (c - 1), by omega, by go_num, rfl, HP2.out, by first | rfl | trivial⟩
            case measure => simp [intOf]; omega
        · obtain rfl : k = n := by omega
          have k1 : ¬ (k : Int) < (k : Int) := by omega
          have HE2 := HEND.out
          rw [← hA] at HE2
          clear hA
          rcases Classical.em (k = 1) with h1 | h1
          · have hn1 : (k : Int) = 1 := by omega
            clear HE2
            go_wp2_with fail
            go_ret
            exact ⟨rfl, HQ.out⟩
          · have hn1 : ¬ (k : Int) = 1 := by omega
            rcases Classical.em (c = 2) with h2 | h2
            · clear HE2
              go_wp2_with fail
              go_ret
              exact ⟨rfl, HQ.out⟩
            · have h3 : A < size := by
                rcases HE2 with h | h | h
                · exact absurd h h1
                · exact absurd h h2
                · exact h
              clear HE2
              go_wp2_with fail
              go_ret
              exact ⟨rfl, HQ.out⟩
end Go.Proofs.Ytobephnmbpoopaa
