/- Stories as told: the model's. -/
import Derived.Test.YtilbpgcgjbblaaaCsM
import Derived.Test.YtilbpgcgjbblaaaEndsT
import Derived.Test.YtilbpgcgjbblaaaHeld
import Derived.OrdersHeld
import Derived.Deep.RegionHeld3
namespace Go.Proofs.Ytilbpgcgjbblaaa
open Go.RowKit
set_option linter.unusedVariables false
set_option linter.unusedSimpArgs false
theorem has_any (b n cap : Nat) (ks : List Int) (hn : n = ks.length) (x : Int) (w : World) (h : Lst w b ks) :
    Calls Try.prog 38 #[.slice (some ⟨b, 0, none⟩) n cap, .int .i64 x] w fun e w' => e = .returned (.bool (hasL ks x)) ∧ w = w' := by
  have hC := hid h.2.1
  have hl := h.2.2.2
  rw [← hn] at hl
  have hN := hid hn
  clear h hn
  go_enter Try.func38, Try.ntmps38
  go_wp2_with fail
  go_loopw [5] (fun i wr => ∃ k : Nat, k ≤ n ∧ i = .int .i64 k ∧ (∀ j, j < k → lv ks j ≠ x) ∧ w = wr) (fun i _ => n - (intOf i).toNat)
  case atStart => exact ⟨0, Nat.zero_le _, rfl, fun j hj => by omega, rfl⟩
  case round =>
    obtain ⟨k, hk, rfl, hS, hw⟩ := hrel
    subst hw
    by_cases hlt : k < n
    · have hx1 := hC.out k (by rw [← hN.out]; exact hlt)
      have hlt' : (k : Int) < (n : Int) := by omega
      have HY := hid (fun e => hasL_at (ks := ks) (x := x) (j := k) (by rw [← hN.out]; exact hlt) e)
      have HS := hid hS
      obtain ⟨y, hy⟩ : ∃ y, lv ks k = y := ⟨_, rfl⟩
      rw [show ks[k]?.getD 0 = y from hy] at hx1
      rw [hy] at HY
      have HYY := hid hy
      clear hS hy
      by_cases e : y = x
      · have e1 : (y == x) = true := by simpa using e
        have HR := hid (HY.out e)
        clear e
        go_wp2_with fail
        go_ret
        exact ⟨by rw [HR.out]; first | rfl | simp, rfl⟩
      · have e1 : (y == x) = false := by simpa using e
        have HE := hid e
        clear e
        go_wp2_with fail
        go_roundw
        case rel => exact ⟨k + 1, by omega, by go_num, fun j hj => by
          rcases Nat.lt_or_ge j k with c | c
          · exact HS.out j c
          · obtain rfl : j = k := by omega
            rw [HYY.out]; exact HE.out, by first | rfl | trivial⟩
        case measure => simp [intOf]; omega
    · obtain rfl : k = n := by omega
      have HR := hid (hasL_none (ks := ks) (x := x) (fun j hj => hS j (by rw [hN.out]; exact hj)))
      clear hS
      go_wp2_with fail
      go_ret
      exact ⟨by rw [HR.out]; first | rfl | simp, rfl⟩
set_option maxRecDepth 100000 in
set_option maxHeartbeats 1000000 in
theorem rising_any (b n cap : Nat) (ks : List Int) (hn : n = ks.length) (N : Nat) (hN9 : N ≤ 1048576) (w : World) (h : Lst w b ks) :
    Calls Try.prog 56 #[.slice (some ⟨b, 0, none⟩) n cap, .int .i64 (N : Int)] w (GivesB w (.bool (riseB ks N))) := by
  have hC := hid h.2.1
  have hb := h.1
  have hl := h.2.2.2
  rw [← hn] at hl
  have hN := hid hn
  have wN : IntKind.i64.wrap ((N : Int) - 1) = (N : Int) - 1 := IntWalk.i64_in _ (by omega)
  clear h hn
  go_enter Try.func56, Try.ntmps56
  go_wp2_with fail
  go_loopw [5] (fun i wr => ∃ k : Nat, k ≤ n ∧ i = .int .i64 k ∧ (∀ j, j < k → riseP ks N j = true) ∧ Below w.heap.size w wr) (fun i _ => n - (intOf i).toNat)
  case atStart => exact ⟨0, Nat.zero_le _, rfl, fun j hj => by omega, Below.refl _ _⟩
  case round =>
    obtain ⟨k, hk, rfl, hS, hB⟩ := hrel
    by_cases hlt : k < n
    · have hx1 := (hB.cell (p := ⟨b, k, none⟩) hb).trans (hC.out k (by rw [← hN.out]; exact hlt))
      have hlt' : (k : Int) < (n : Int) := by omega
      have hk0 : (0 : Int) ≤ (k : Int) := by omega
      have HNO := hid (fun e => show riseB ks N = false from allB_no (P := riseP ks N) (j := k) (by rw [← hN.out]; exact hlt) (riseP_no e))
      have HYES := hid (fun a b c => riseP_yes (ks := ks) (n := (N : Int)) (j := k) a b c)
      have HS := hid hS; have HB := hid hB
      have HI1 := hid (fun (y : Int) (e : 0 ≤ y ∧ y ≤ (N : Int) - 1) d => inr_yes y 0 ((N : Int) - 1) (wr.drewN d) e)
      have HI0 := hid (fun (y : Int) (e : y < 0 ∨ (N : Int) - 1 < y) d => inr_no y 0 ((N : Int) - 1) (wr.drewN d) e)
      have hprev := hid (fun (h : 0 < k) => (hB.cell (p := ⟨b, k - 1, none⟩) hb).trans (hC.out (k - 1) (by rw [← hN.out]; omega)))
      obtain ⟨y, hy⟩ : ∃ y, lv ks k = y := ⟨_, rfl⟩
      rw [show ks[k]?.getD 0 = y from hy] at hx1
      rw [hy] at HNO HYES
      clear hS hB hy
      by_cases hin : 0 ≤ y ∧ y ≤ (N : Int) - 1
      · have HI := hid (fun d => HI1.out y hin d)
        have HIN := hid hin
        by_cases hk1 : 0 < k
        · have hp := hprev.out hk1
          obtain ⟨q, hq⟩ : ∃ q, k - 1 = q := ⟨_, rfl⟩
          rw [hq] at hp HNO HYES
          obtain ⟨p, hpp⟩ : ∃ p, lv ks q = p := ⟨_, rfl⟩
          rw [show ks[q]?.getD 0 = p from hpp] at hp
          rw [hpp] at HNO HYES
          have wq : IntKind.i64.wrap ((k : Int) - 1) = (q : Int) := by rw [IntWalk.i64_in _ (by omega)]; omega
          have hq0 : (0 : Int) ≤ (q : Int) := by omega
          have hqn : (q : Int) < (n : Int) := by omega
          have hk2 : (0 : Int) < (k : Int) := by omega
          clear hq hpp hin
          by_cases hle : y ≤ p
          · have HR := hid (HNO.out (fun e => by have := e.2.2 hk1; omega))
            go_upto_region 4 with fail
            go_quiet ((go_at_call 46; exact quiet_sm (HI.out _)))
            go_wp2_with fail
            go_ret
            exact ⟨by rw [HR.out]; first | rfl | simp, below_drewN HB.out _⟩
          · have HR := hid (HYES.out HIN.out.1 HIN.out.2 (fun _ => by omega))
            go_upto_region 4 with fail
            go_quiet ((go_at_call 46; exact quiet_sm (HI.out _)))
            go_wp2_with fail
            go_roundw
            case rel => exact ⟨k + 1, by omega, by go_num, fun j hj => by
              rcases Nat.lt_or_ge j k with c | c
              · exact HS.out j c
              · obtain rfl : j = k := by omega
                exact HR.out, below_drewN HB.out _⟩
            case measure => simp [intOf]; omega
        · obtain rfl : k = 0 := by omega
          have HR := hid (HYES.out hin.1 hin.2 (fun h => absurd h hk1))
          clear hk1 hin
          go_upto_region 4 with fail
          go_quiet ((go_at_call 46; exact quiet_sm (HI.out _)))
          go_wp2_with fail
          go_roundw
          case rel => exact ⟨1, by omega, by go_num, fun j hj => by
            obtain rfl : j = 0 := by omega
            exact HR.out, below_drewN HB.out _⟩
          case measure => simp [intOf]; omega
      · have HI := hid (fun d => HI0.out y (by omega) d)
        have HR := hid (HNO.out (fun e => hin ⟨e.1, e.2.1⟩))
        clear hin
        go_upto_region 4 with fail
        go_quiet ((go_at_call 46; exact quiet_sm (HI.out _)))
        go_wp2_with fail
        go_ret
        exact ⟨by rw [HR.out]; first | rfl | simp, below_drewN HB.out _⟩
    · obtain rfl : k = n := by omega
      have HR := hid (show riseB ks N = true from allB_yes (fun j hj => hS j (by rw [hN.out]; exact hj)))
      have HB := hid hB
      clear hS hB
      go_wp2_with fail
      go_ret
      exact ⟨by rw [HR.out]; first | rfl | simp, HB.out⟩
set_option maxRecDepth 100000 in
set_option maxHeartbeats 4000000 in
theorem told_any (bS nS capS : Nat) (zs : List Int) (hnS : nS = zs.length) (b n cap : Nat) (js : List (Int × Int)) (hn : n = js.length) (lo hi : Int) (X bk nk ck bb nb cb : Nat) (ks bs : List Int) (c : Int) (hnk : nk = ks.length) (hnb : nb = bs.length) (w : World)
    (hS : Stk w bS zs) (hR : Rst w b js) (hK : Lst w bk ks) (hBr : Lst w bb bs) (hX : Row w X 44 [.slice (some ⟨bk, 0, none⟩) nk ck, .slice (some ⟨bb, 0, none⟩) nb cb, .int .i64 c]) (hg : okG zs js = true) (hf : okF lo hi = true) :
    Calls Try.prog 33 #[.slice (some ⟨bS, 0, none⟩) nS capS, .slice (some ⟨b, 0, none⟩) n cap, .agg #[.int .i64 lo, .int .i64 hi], .pointer (some ⟨X, 0, none⟩)] w (GivesB w (.bool (tellB (szL zs) js lo hi ks bs c))) := by
  obtain ⟨gv, g40, g1, g2⟩ := okG_out hg
  obtain ⟨f1, f2, f3⟩ := okF_out hf
  obtain ⟨_, _, _, z1, z2⟩ := okL_out gv
  have n40 : n ≤ 40 := by omega
  have rF := Row.new w 42 [.int .i64 lo, .int .i64 hi]
  have bV : Below w.heap.size w (w.alloc (.cells #[.int .i64 lo, .int .i64 hi] 42)) := (Below.refl _ _).alloc (Nat.le_refl _) _
  obtain ⟨V, hV⟩ : ∃ V, V = w.alloc (.cells #[.int .i64 lo, .int .i64 hi] 42) := ⟨_, rfl⟩
  obtain ⟨F, hF⟩ : ∃ F, w.heap.size = F := ⟨_, rfl⟩
  have sV : V.heap.size = F + 1 := by rw [hV]; simp [hF]
  rw [← hV] at rF bV
  rw [hF] at rF
  have HS := hid (hS.below bV hS.1); have HR := hid (hR.below bV hR.1); have HK := hid (hK.below bV hK.1); have HBR := hid (hBr.below bV hBr.1); have RX := hid (hX.below bV hX.lt); have RF := hid rF; have BV := hid bV; have HV := hid hV; have HF := hid hF
  have HLT := hid (show bS < V.heap.size ∧ b < V.heap.size ∧ bk < V.heap.size ∧ bb < V.heap.size ∧ X < V.heap.size ∧ F < V.heap.size from by have a1 := hS.1; have a2 := hR.1; have a3 := hK.1; have a4 := hBr.1; have a5 := hX.lt; omega)
  have HNK := hid hnk; have HNB := hid hnb; have HN := hid hn
  have HRK := hid (fun W (hW : Lst W bk ks) => rising_any bk nk ck ks hnk n (by omega) W hW)
  have HRB := hid (fun W (hW : Lst W bb bs) => rising_any bb nb cb bs hnb n (by omega) W hW)
  have HH := hid (fun (y : Int) W (hW : Lst W bk ks) => has_any bk nk ck ks hnk y W hW)
  have HHB := hid (fun (y : Int) W (hW : Lst W bb bs) => has_any bb nb cb bs hnb y W hW)
  have HFT := hid (fun (i k : Nat) (hik : i < k) (hk : k < n) W (s : Stk W bS zs) (r : Rst W b js) => show Calls Try.prog 57 #[.slice (some ⟨bS, 0, none⟩) nS capS, .slice (some ⟨b, 0, none⟩) n cap, .agg #[.int .i64 lo, .int .i64 hi], .int .i64 (i : Int), .int .i64 (k : Int)] W (GivesB W (.bool (fitK (szL zs) js lo hi i k))) from by
    have o1 := okRd_out (g1 i (by omega))
    have o2 := okRd_out (g1 k (by omega))
    have hd : ∀ d i, i + d + 1 < js.length → rd js i < rd js (i + d + 1) := by
      intro d
      induction d with
      | zero => intro i hi'; have := g2 i (by omega); simpa using this
      | succ d ih => intro i hi'; have a1 := ih i (by omega); have a2 := g2 (i + d + 1) (by omega); rw [show i + (d + 1) + 1 = i + d + 1 + 1 by omega]; omega
    have hdd := hd (k - i - 1) i (by omega)
    rw [show i + (k - i - 1) + 1 = k by omega] at hdd
    exact l04Fits_any bS nS capS zs hnS gv b n cap js hn lo hi i k (by omega) hk (by omega) (by omega) (by omega) (by omega) W s r)
  have hlk := hK.2.2.2; have hlb := hBr.2.2.2
  rw [← hnk] at hlk
  rw [← hnb] at hlb
  have T1 := hid (fun h => tell_1 (z := szL zs) (js := js) (lo := lo) (hi := hi) (ks := ks) (bs := bs) (c := c) (by rw [← hn]; exact h))
  have T2 := hid (fun h => tell_2 (z := szL zs) (js := js) (lo := lo) (hi := hi) (ks := ks) (bs := bs) (c := c) (by rw [← hn]; exact h))
  have T3 := hid (fun h h2 => tell_3 (z := szL zs) (js := js) (lo := lo) (hi := hi) (ks := ks) (bs := bs) (c := c) h h2)
  have T4 := hid (fun j h h2 => tell_4 (z := szL zs) (js := js) (lo := lo) (hi := hi) (ks := ks) (bs := bs) (c := c) (j := j) h h2)
  have T5 := hid (fun j h h2 => tell_5 (z := szL zs) (js := js) (lo := lo) (hi := hi) (ks := ks) (bs := bs) (c := c) (j := j) h h2)
  have T6 := hid (fun h1 h2 h3 h4 h5 => tell_6 (z := szL zs) (js := js) (lo := lo) (hi := hi) (ks := ks) (bs := bs) (c := c) (by rw [← hn]; exact h1) (by rw [← hn]; exact h2) h3 h4 h5)
  obtain ⟨r, hr⟩ : ∃ r, tellB (szL zs) js lo hi ks bs c = r := ⟨_, rfl⟩
  rw [hr] at T1 T2 T3 T4 T5 T6 ⊢
  obtain ⟨z, hz⟩ : ∃ z, szL zs = z := ⟨_, rfl⟩
  rw [hz] at HFT T5 T6
  obtain ⟨rk, hrk⟩ : ∃ r, riseB ks n = r := ⟨_, rfl⟩
  obtain ⟨rb, hrb⟩ : ∃ r, riseB bs n = r := ⟨_, rfl⟩
  have HRK2 := hid hrk; have HRB2 := hid hrb
  rw [hrk] at HRK T1 T6
  rw [hrb] at HRB T2 T6
  have rX := RX.out
  have x0 := rX.cell 0; have x1 := rX.cell 1; have x2 := rX.cell 2
  simp only [List.getElem?_cons_zero, List.getElem?_cons_succ] at x0 x1 x2
  clear hS hR hK hBr hX rF bV hV sV hF hnk hnb hn gv g40 g1 g2 f1 f2 f3 z1 z2 hg hf hr hz hrk hrb hnS
  go_enter Try.func33, Try.ntmps33
  go_upto_region 1 with fail
  rw [← HV.out, HF.out]
  go_wp2_with fail
  with_reducible refine (HRK.out V HK.out).mono ?_
  rintro e w1 ⟨rfl, hB⟩
  have q := hB
  have rX := RX.out.below q HLT.out.2.2.2.2.1
  clear hB x0 x1 x2
  have x0 := rX.cell 0; have x1 := rX.cell 1; have x2 := rX.cell 2
  simp only [List.getElem?_cons_zero, List.getElem?_cons_succ] at x0 x1 x2
  cases rk with
  | false =>
    have HT := T1.out rfl
    subst HT
    have QQ := hid q
    clear q rX
    go_wp2_with fail
    go_ret
    exact ⟨by first | rfl | simp, BV.out.trans (QQ.out.mono BV.out.size)⟩
  | true =>
    go_wp2_with fail
    with_reducible refine (HRB.out w1 (HBR.out.below q HLT.out.2.2.2.1)).mono ?_
    rintro e w2 ⟨rfl, hB⟩
    replace q := q.trans (hB.mono q.size)
    have rX := RX.out.below q HLT.out.2.2.2.2.1
    clear hB x0 x1 x2
    have x0 := rX.cell 0; have x1 := rX.cell 1; have x2 := rX.cell 2
    simp only [List.getElem?_cons_zero, List.getElem?_cons_succ] at x0 x1 x2
    cases rb with
    | false =>
      have HT := T2.out rfl
      subst HT
      have QQ := hid q
      clear q rX
      go_wp2_with fail
      go_ret
      exact ⟨by first | rfl | simp, BV.out.trans (QQ.out.mono BV.out.size)⟩
    | true =>
      by_cases h0 : nk = 0 ∧ 0 < n
      · have HT := T3.out (by rw [← HNK.out]; exact h0.1) (by rw [← HN.out]; exact h0.2)
        subst HT
        have QQ := hid q
        obtain ⟨h0, h1⟩ := h0
        have e0 : (((nk : Nat) : Int) == 0) = true := by simp [h0]
        have e1 : (0 : Int) < (n : Int) := by omega
        clear q rX h0
        go_wp2_with fail
        go_ret
        exact ⟨by first | rfl | simp, BV.out.trans (QQ.out.mono BV.out.size)⟩
      · have HD := hid h0
        have QQ := hid q
        by_cases hn0 : nk = 0
        · have hz0 : n = 0 := by omega
          have hb0 : nb = 0 := by
            have := rise_len HRB2.out (by omega)
            have := HNB.out; omega
          have HT := T6.out (by first | rfl | trivial) (by first | rfl | trivial) (by rw [← HNK.out, ← HN.out]; exact HD.out) (fun j hj => by have := HNB.out; omega) (fun j hj => by have := HNK.out; omega)
          rw [← HN.out, ← HNK.out, ← HNB.out, hn0, hz0, hb0] at HT
          subst hn0 hz0 hb0
          have HT2 := hid HT
          clear q rX h0 HT
          go_wp2_with fail
          refine wp_loop_rounds 1 ?_
          rw [rounds_succ]
          go_wp2_with fail
          refine wp_loop_rounds 1 ?_
          rw [rounds_succ]
          go_upto_region 15 with fail
          go_quiet (fail)
          go_wp2_with fail
          go_ret
          exact ⟨by rw [HT2.out]; first | rfl | simp, below_drewN (BV.out.trans (QQ.out.mono BV.out.size)) _⟩
        · have e0 : (((nk : Nat) : Int) == 0) = false := by
            have : ¬ ((nk : Nat) : Int) = 0 := by omega
            simpa using this
          have np : (0 : Int) < (nk : Int) := by omega
          have HNP := hid hn0
          have CK := hid (fun j (hj : j < nk) => HK.out.2.1 j (by rw [← HNK.out]; exact hj))
          have CB := hid (fun j (hj : j < nb) => HBR.out.2.1 j (by rw [← HNB.out]; exact hj))
          clear q rX h0 hn0
          go_upto_region 5 with fail
          clear x0 x1 x2 e0
          go_wp2_with fail
          go_loopw [11] (fun i wr => ∃ j : Nat, j ≤ nb ∧ i = .int .i64 j ∧ (∀ t, t < j → brkP ks bs t = true) ∧ Below V.heap.size V wr) (fun i _ => nb - (intOf i).toNat)
          case atStart => exact ⟨0, Nat.zero_le _, rfl, fun t ht => by omega, QQ.out⟩
          case round =>
            obtain ⟨j, hj, rfl, hP, q⟩ := hrel
            have rX := RX.out.below q HLT.out.2.2.2.2.1
            have x0 := rX.cell 0; have x1 := rX.cell 1; have x2 := rX.cell 2
            simp only [List.getElem?_cons_zero, List.getElem?_cons_succ] at x0 x1 x2
            by_cases hlt : j < nb
            · have hlt' : (j : Int) < (nb : Int) := by omega
              have hj0 : (0 : Int) ≤ (j : Int) := by omega
              have cb := (q.cell (p := ⟨bb, j, none⟩) HLT.out.2.2.2.1).trans (CB.out j hlt)
              have ck := (q.cell (p := ⟨bk, 0, none⟩) HLT.out.2.2.1).trans (CK.out 0 (by have := HNP.out; omega))
              have HT4 := hid (fun h => T4.out j (by rw [← HNB.out]; exact hlt) h)
              have hbp : brkP ks bs j = (hasL ks (lv bs j) && lv bs j != lv ks 0) := rfl
              obtain ⟨y, hy⟩ : ∃ y, lv bs j = y := ⟨_, rfl⟩
              obtain ⟨p, hp⟩ : ∃ y, lv ks 0 = y := ⟨_, rfl⟩
              rw [show bs[j]?.getD 0 = y from hy] at cb
              rw [show ks[0]?.getD 0 = p from hp] at ck
              rw [hy, hp] at hbp
              have HHq := hid (fun d => HH.out y (wr.drewN d) (HK.out.below (below_drewN q d) HLT.out.2.2.1))
              obtain ⟨hv, hhv⟩ : ∃ r, hasL ks y = r := ⟨_, rfl⟩
              rw [hhv] at HHq hbp
              have HBP := hid hbp; have HP := hid hP; have HQ := hid q
              clear hy hp hhv hbp hP q rX
              cases hv with
              | false =>
                have HT := HT4.out HBP.out
                subst HT
                go_upto_region 8 with fail
                go_quiet ((go_at_call 38; exact quiet_sm (HHq.out _)))
                go_wp2_with fail
                go_ret
                exact ⟨by first | rfl | simp, below_drewN (BV.out.trans (HQ.out.mono BV.out.size)) _⟩
              | true =>
                by_cases hyp : y = p
                · have e1 : (y == p) = true := by simpa using hyp
                  have HT := HT4.out (by rw [HBP.out]; simp [hyp])
                  subst HT
                  clear hyp
                  go_upto_region 8 with fail
                  go_quiet ((go_at_call 38; exact quiet_sm (HHq.out _)))
                  go_wp2_with fail
                  go_ret
                  exact ⟨by first | rfl | simp, below_drewN (BV.out.trans (HQ.out.mono BV.out.size)) _⟩
                · have e1 : (y == p) = false := by simpa using hyp
                  have HT := hid (show brkP ks bs j = true by rw [HBP.out]; simp [hyp])
                  clear hyp
                  go_upto_region 8 with fail
                  go_quiet ((go_at_call 38; exact quiet_sm (HHq.out _)))
                  go_wp2_with fail
                  go_roundw
                  case rel => exact ⟨j + 1, by omega, by go_num, fun t ht => by
                    rcases Nat.lt_or_ge t j with c | c
                    · exact HP.out t c
                    · obtain rfl : t = j := by omega
                      exact HT.out, below_drewN HQ.out _⟩
                  case measure => simp [intOf]; omega
            · have hge : ¬ (j : Int) < (nb : Int) := by omega
              have HP := hid (fun t (ht : t < nb) => hP t (by omega)); have HQ := hid q
              clear hP q rX hlt
              go_wp2_with fail
              clear x0 x1 x2
              go_loopw [12] (fun i wr => ∃ k c : Nat, c = k + 1 ∧ k ≤ nk - 1 ∧ i = .int .i64 c ∧ (∀ t, t < k → stepP z js lo hi ks bs t = true) ∧ Below V.heap.size V wr) (fun i _ => nk - (intOf i).toNat)
              case atStart => exact ⟨0, 1, rfl, Nat.zero_le _, rfl, fun t ht => by omega, HQ.out⟩
              case round =>
                obtain ⟨k, c', hck, hk, rfl, hP5, q⟩ := hrel
                have rX := RX.out.below q HLT.out.2.2.2.2.1
                have x0 := rX.cell 0; have x1 := rX.cell 1; have x2 := rX.cell 2
                simp only [List.getElem?_cons_zero, List.getElem?_cons_succ] at x0 x1 x2
                have hc0 : (0 : Int) ≤ (c' : Int) := by omega
                by_cases hlt : k < nk - 1
                · have hlt' : (c' : Int) < (nk : Int) := by omega
                  have hcn : c' < nk := by omega
                  have o1 := riseP_out (allB_out HRK2.out k (by rw [← HNK.out]; omega))
                  have o2 := riseP_out (allB_out HRK2.out c' (by rw [← HNK.out]; omega))
                  have o3 := o2.2.2 (by omega)
                  rw [show c' - 1 = k by omega] at o3
                  have ckc := CK.out c' hcn
                  have ckk := CK.out k (by omega)
                  have HT5 := hid (fun h => T5.out k (by rw [← HNK.out]; exact hlt) h)
                  have hsp : stepP z js lo hi ks bs k = (hasL bs (lv ks (k + 1)) || fitK z js lo hi (kN ks k) (kN ks (k + 1))) := rfl
                  rw [← hck] at hsp
                  obtain ⟨C, hC⟩ : ∃ C : Nat, lv ks c' = (C : Int) := ⟨(lv ks c').toNat, by omega⟩
                  obtain ⟨P, hPq⟩ : ∃ C : Nat, lv ks k = (C : Int) := ⟨(lv ks k).toNat, by omega⟩
                  have kc : kN ks c' = C := by unfold kN; rw [hC]; omega
                  have kk : kN ks k = P := by unfold kN; rw [hPq]; omega
                  rw [hC, kc, kk] at hsp
                  rw [hC, hPq] at o3
                  rw [hC] at o2
                  have hPC : P < C := by omega
                  have hCn : C < n := by omega
                  rw [show ks[c']?.getD 0 = (C : Int) from hC] at ckc
                  rw [show ks[k]?.getD 0 = (P : Int) from hPq] at ckk
                  have wk : IntKind.i64.wrap ((c' : Int) - 1) = (k : Int) := by rw [IntWalk.i64_in _ (by omega)]; omega
                  have hk0 : (0 : Int) ≤ (k : Int) := by omega
                  have hkn : (k : Int) < (nk : Int) := by omega
                  have c1 := (q.cell (p := ⟨bk, c', none⟩) HLT.out.2.2.1).trans ckc
                  have c2 := (q.cell (p := ⟨bk, k, none⟩) HLT.out.2.2.1).trans ckk
                  have HHq := hid (fun d => HHB.out (C : Int) (wr.drewN d) (HBR.out.below (below_drewN q d) HLT.out.2.2.2.1))
                  have HFQ := hid (fun W s r => HFT.out P C hPC hCn W s r)
                  have HHW := hid (fun W (h : Lst W bb bs) => HHB.out (C : Int) W h)
                  obtain ⟨hv, hhv⟩ : ∃ r, hasL bs (C : Int) = r := ⟨_, rfl⟩
                  obtain ⟨fv, hfv⟩ : ∃ r, fitK z js lo hi P C = r := ⟨_, rfl⟩
                  rw [hhv] at HHq HHW hsp
                  rw [hfv] at HFQ hsp
                  have HSP := hid hsp; have HP5 := hid hP5; have HQ2 := hid q; have CKC := hid ckc; have CKK := hid ckk; have HCK := hid hck
                  clear hC hPq kc kk o1 o2 o3 hhv hfv hsp hP5 hPC hCn hck ckc ckk
                  cases hv with
                  | true =>
                    have HT := hid (show stepP z js lo hi ks bs k = true by rw [HSP.out]; simp)
                    clear q rX
                    go_upto_region 13 with fail
                    go_quiet ((go_at_call 38; exact quiet_sm (HHq.out _)))
                    go_wp2_with fail
                    go_roundw
                    case rel => exact ⟨k + 1, c' + 1, by have := HCK.out; omega, by omega, by go_num, fun t ht => by
                      rcases Nat.lt_or_ge t k with c | c
                      · exact HP5.out t c
                      · obtain rfl : t = k := by omega
                        exact HT.out, below_drewN HQ2.out _⟩
                    case measure => simp [intOf]; omega
                  | false =>
                    clear x0 x1 x2 c1 c2
                    go_upto_region 13 with fail
                    refine wp_region_held (S := fun W' : World => Row W' X 44 [.slice (some ⟨bk, 0, none⟩) nk ck, .slice (some ⟨bb, 0, none⟩) nb cb, .int .i64 c] ∧ Row W' F 42 [.int .i64 lo, .int .i64 hi] ∧ W'.cell? ⟨bk, c', none⟩ = some (.int .i64 (C : Int)) ∧ W'.cell? ⟨bk, k, none⟩ = some (.int .i64 (P : Int))) (by kernel_rfl) ?_
                    change wpAnyH _ _ _ _ _ _ _ _ (World.drew _)
                    obtain ⟨W0, hW0⟩ : ∃ X, X = World.drew wr := ⟨_, rfl⟩
                    have q0 : Below V.heap.size V W0 := by rw [hW0]; exact q.drew
                    have hS0 : (fun W' : World => Row W' X 44 [.slice (some ⟨bk, 0, none⟩) nk ck, .slice (some ⟨bb, 0, none⟩) nb cb, .int .i64 c] ∧ Row W' F 42 [.int .i64 lo, .int .i64 hi] ∧ W'.cell? ⟨bk, c', none⟩ = some (.int .i64 (C : Int)) ∧ W'.cell? ⟨bk, k, none⟩ = some (.int .i64 (P : Int))) W0 := ⟨RX.out.below q0 HLT.out.2.2.2.2.1, RF.out.below q0 HLT.out.2.2.2.2.2, (q0.cell (p := ⟨bk, c', none⟩) HLT.out.2.2.1).trans CKC.out, (q0.cell (p := ⟨bk, k, none⟩) HLT.out.2.2.1).trans CKK.out⟩
                    rw [← hW0]
                    clear hW0 q rX
                    refine wpAnyH_takeD (some 87) (i := 0) (v := ?_) rfl rfl (by kernel_rfl) (by kernel_rfl) (by kernel_rfl) (fun _ _ _ h => h) (.inl ⟨by kernel_rfl, ?_⟩) hS0 ?_
                    rotate_left
                    · intro w' hw'; go_simp; try with_reducible rfl
                    try simp only [Act.put, List.setIfInBounds_toArray, List.set_cons_zero, List.set_cons_succ]
                    refine wpAnyH_takeD (some 88) (i := 1) (v := ?_) rfl rfl (by kernel_rfl) (by kernel_rfl) (by kernel_rfl) (fun _ _ _ h => h) (.inl ⟨by kernel_rfl, ?_⟩) hS0 ?_
                    rotate_left
                    · intro w' hw'; go_simp; try with_reducible rfl
                    try simp only [Act.put, List.setIfInBounds_toArray, List.set_cons_zero, List.set_cons_succ]
                    refine wpAnyH_takeD (some 89) (i := 2) (v := ?_) rfl rfl (by kernel_rfl) (by kernel_rfl) (by kernel_rfl) (fun _ _ _ h => h) (.inl ⟨by kernel_rfl, ?_⟩) hS0 ?_
                    rotate_left
                    · intro w' hw'; obtain ⟨hr, hf, g3, g4⟩ := hw'; have g0 := Row.cell hr 0; have g1 := Row.cell hr 1; have g2 := Row.cell hr 2; have g5 := Row.cell hf 0; have g6 := Row.cell hf 1; simp only [List.getElem?_cons_zero, List.getElem?_cons_succ] at g0 g1 g2 g5 g6; clear hr hf; go_simp; try with_reducible rfl
                    try simp only [Act.put, List.setIfInBounds_toArray, List.set_cons_zero, List.set_cons_succ]
                    refine wpAnyH_takeD (some 90) (i := 3) (v := ?_) rfl rfl (by kernel_rfl) (by kernel_rfl) (by kernel_rfl) (fun _ _ _ h => h) (.inl ⟨by kernel_rfl, ?_⟩) hS0 ?_
                    rotate_left
                    · intro w' hw'; obtain ⟨hr, hf, g3, g4⟩ := hw'; have g0 := Row.cell hr 0; have g1 := Row.cell hr 1; have g2 := Row.cell hr 2; have g5 := Row.cell hf 0; have g6 := Row.cell hf 1; simp only [List.getElem?_cons_zero, List.getElem?_cons_succ] at g0 g1 g2 g5 g6; clear hr hf; go_simp; try with_reducible rfl
                    try simp only [Act.put, List.setIfInBounds_toArray, List.set_cons_zero, List.set_cons_succ]
                    refine wpAnyH_takeD (some 91) (i := 4) (v := ?_) rfl rfl (by kernel_rfl) (by kernel_rfl) (by kernel_rfl) (fun _ _ _ h => h) (.inl ⟨by kernel_rfl, ?_⟩) hS0 ?_
                    rotate_left
                    · intro w' hw'; go_simp; try with_reducible rfl
                    try simp only [Act.put, List.setIfInBounds_toArray, List.set_cons_zero, List.set_cons_succ]
                    refine wpAnyH_takeD (some 92) (i := 5) (v := ?_) rfl rfl (by kernel_rfl) (by kernel_rfl) (by kernel_rfl) (fun _ _ _ h => h) (.inl ⟨by kernel_rfl, ?_⟩) hS0 ?_
                    rotate_left
                    · intro w' hw'; go_simp; try with_reducible rfl
                    try simp only [Act.put, List.setIfInBounds_toArray, List.set_cons_zero, List.set_cons_succ]
                    refine wpAnyH_takeD (some 93) (i := 6) (v := ?_) rfl rfl (by kernel_rfl) (by kernel_rfl) (by kernel_rfl) (fun _ _ _ h => h) (.inl ⟨by kernel_rfl, ?_⟩) hS0 ?_
                    rotate_left
                    · intro w' hw'; obtain ⟨hr, hf, g3, g4⟩ := hw'; have g0 := Row.cell hr 0; have g1 := Row.cell hr 1; have g2 := Row.cell hr 2; have g5 := Row.cell hf 0; have g6 := Row.cell hf 1; simp only [List.getElem?_cons_zero, List.getElem?_cons_succ] at g0 g1 g2 g5 g6; clear hr hf; go_simp; try with_reducible rfl
                    try simp only [Act.put, List.setIfInBounds_toArray, List.set_cons_zero, List.set_cons_succ]
                    refine wpAnyH_takeD (some 94) (i := 7) (v := ?_) rfl rfl (by kernel_rfl) (by kernel_rfl) (by kernel_rfl) (fun _ _ _ h => h) (.inl ⟨by kernel_rfl, ?_⟩) hS0 ?_
                    rotate_left
                    · intro w' hw'; obtain ⟨hr, hf, g3, g4⟩ := hw'; have g0 := Row.cell hr 0; have g1 := Row.cell hr 1; have g2 := Row.cell hr 2; have g5 := Row.cell hf 0; have g6 := Row.cell hf 1; simp only [List.getElem?_cons_zero, List.getElem?_cons_succ] at g0 g1 g2 g5 g6; clear hr hf; go_simp; try with_reducible rfl
                    try simp only [Act.put, List.setIfInBounds_toArray, List.set_cons_zero, List.set_cons_succ]
                    refine wpAnyH_takeD (some 95) (i := 8) (v := ?_) rfl rfl (by kernel_rfl) (by kernel_rfl) (by kernel_rfl) (fun _ _ _ h => h) (.inl ⟨by kernel_rfl, ?_⟩) hS0 ?_
                    rotate_left
                    · intro w' hw'; go_simp; try with_reducible rfl
                    try simp only [Act.put, List.setIfInBounds_toArray, List.set_cons_zero, List.set_cons_succ]
                    refine wpAnyH_takeD (some 96) (i := 9) (v := ?_) rfl rfl (by kernel_rfl) (by kernel_rfl) (by kernel_rfl) (fun _ _ _ h => h) (.inl ⟨by kernel_rfl, ?_⟩) hS0 ?_
                    rotate_left
                    · intro w' hw'; obtain ⟨hr, hf, g3, g4⟩ := hw'; have g0 := Row.cell hr 0; have g1 := Row.cell hr 1; have g2 := Row.cell hr 2; have g5 := Row.cell hf 0; have g6 := Row.cell hf 1; simp only [List.getElem?_cons_zero, List.getElem?_cons_succ] at g0 g1 g2 g5 g6; clear hr hf; go_simp; try with_reducible rfl
                    try simp only [Act.put, List.setIfInBounds_toArray, List.set_cons_zero, List.set_cons_succ]
                    refine wpAnyH_takeD (some 97) (i := 10) (v := ?_) rfl rfl (by kernel_rfl) (by kernel_rfl) (by kernel_rfl) (fun _ _ _ h => h) (.inl ⟨by kernel_rfl, ?_⟩) hS0 ?_
                    rotate_left
                    · intro w' hw'; obtain ⟨hr, hf, g3, g4⟩ := hw'; have g0 := Row.cell hr 0; have g1 := Row.cell hr 1; have g2 := Row.cell hr 2; have g5 := Row.cell hf 0; have g6 := Row.cell hf 1; simp only [List.getElem?_cons_zero, List.getElem?_cons_succ] at g0 g1 g2 g5 g6; clear hr hf; go_simp; try with_reducible rfl
                    try simp only [Act.put, List.setIfInBounds_toArray, List.set_cons_zero, List.set_cons_succ]
                    refine wpAnyH_all (rs := [11]) (by kernel_rfl) (by simp) ?_
                    intro i hi; simp only [List.mem_cons, List.not_mem_nil, or_false] at hi
                    subst hi
                    refine wpOp_step rfl (fun K hK => ?_)
                    go_simp
                    with_reducible refine (HHW.out W0 (HBR.out.below q0 HLT.out.2.2.2.1)).mono ?_
                    rintro e v1 ⟨rfl, hw⟩
                    subst hw
                    refine hK _ _ ⟨hS0, ?_⟩
                    try simp only [Act.put, List.setIfInBounds_toArray, List.set_cons_zero, List.set_cons_succ]
                    clear hK K
                    refine wpAnyH_takeD (some 99) (i := 12) (v := ?_) rfl rfl (by kernel_rfl) (by kernel_rfl) (by kernel_rfl) (fun _ _ _ h => h) (.inl ⟨by kernel_rfl, ?_⟩) hS0 ?_
                    rotate_left
                    · intro w' hw'; go_simp; try with_reducible rfl
                    try simp only [Act.put, List.setIfInBounds_toArray, List.set_cons_zero, List.set_cons_succ]
                    refine wpAnyH_takeD (some 100) (i := 13) (v := ?_) rfl rfl (by kernel_rfl) (by kernel_rfl) (by kernel_rfl) (fun _ _ _ h => h) (.inl ⟨by kernel_rfl, ?_⟩) hS0 ?_
                    rotate_left
                    · intro w' hw'; go_simp; try with_reducible rfl
                    try simp only [Act.put, List.setIfInBounds_toArray, List.set_cons_zero, List.set_cons_succ]
                    refine wpAnyH_takeD (some 101) (i := 14) (v := ?_) rfl rfl (by kernel_rfl) (by kernel_rfl) (by kernel_rfl) (fun _ _ _ h => h) (.inl ⟨by kernel_rfl, ?_⟩) hS0 ?_
                    rotate_left
                    · intro w' hw'; go_simp; try with_reducible rfl
                    try simp only [Act.put, List.setIfInBounds_toArray, List.set_cons_zero, List.set_cons_succ]
                    refine wpAnyH_takeD (some 102) (i := 15) (v := ?_) rfl rfl (by kernel_rfl) (by kernel_rfl) (by kernel_rfl) (fun _ _ _ h => h) (.inl ⟨by kernel_rfl, ?_⟩) hS0 ?_
                    rotate_left
                    · intro w' hw'; go_simp; try with_reducible rfl
                    try simp only [Act.put, List.setIfInBounds_toArray, List.set_cons_zero, List.set_cons_succ]
                    refine wpAnyH_takeD (some 103) (i := 16) (v := ?_) rfl rfl (by kernel_rfl) (by kernel_rfl) (by kernel_rfl) (fun _ _ _ h => h) (.inl ⟨by kernel_rfl, ?_⟩) hS0 ?_
                    rotate_left
                    · intro w' hw'; obtain ⟨hr, hf, g3, g4⟩ := hw'; have g0 := Row.cell hr 0; have g1 := Row.cell hr 1; have g2 := Row.cell hr 2; have g5 := Row.cell hf 0; have g6 := Row.cell hf 1; simp only [List.getElem?_cons_zero, List.getElem?_cons_succ] at g0 g1 g2 g5 g6; clear hr hf; go_simp; try with_reducible rfl
                    try simp only [Act.put, List.setIfInBounds_toArray, List.set_cons_zero, List.set_cons_succ]
                    refine wpAnyH_takeD (some 104) (i := 17) (v := ?_) rfl rfl (by kernel_rfl) (by kernel_rfl) (by kernel_rfl) (fun _ _ _ h => h) (.inl ⟨by kernel_rfl, ?_⟩) hS0 ?_
                    rotate_left
                    · intro w' hw'; go_simp; try with_reducible rfl
                    try simp only [Act.put, List.setIfInBounds_toArray, List.set_cons_zero, List.set_cons_succ]
                    refine wpAnyH_takeD (some 105) (i := 18) (v := ?_) rfl rfl (by kernel_rfl) (by kernel_rfl) (by kernel_rfl) (fun _ _ _ h => h) (.inl ⟨by kernel_rfl, ?_⟩) hS0 ?_
                    rotate_left
                    · intro w' hw'; go_simp; try with_reducible rfl
                    try simp only [Act.put, List.setIfInBounds_toArray, List.set_cons_zero, List.set_cons_succ]
                    refine wpAnyH_takeD (some 106) (i := 19) (v := ?_) rfl rfl (by kernel_rfl) (by kernel_rfl) (by kernel_rfl) (fun _ _ _ h => h) (.inl ⟨by kernel_rfl, ?_⟩) hS0 ?_
                    rotate_left
                    · intro w' hw'; obtain ⟨hr, hf, g3, g4⟩ := hw'; have g0 := Row.cell hr 0; have g1 := Row.cell hr 1; have g2 := Row.cell hr 2; have g5 := Row.cell hf 0; have g6 := Row.cell hf 1; simp only [List.getElem?_cons_zero, List.getElem?_cons_succ] at g0 g1 g2 g5 g6; clear hr hf; go_simp; try with_reducible rfl
                    try simp only [Act.put, List.setIfInBounds_toArray, List.set_cons_zero, List.set_cons_succ]
                    refine wpAnyH_takeD (some 107) (i := 20) (v := ?_) rfl rfl (by kernel_rfl) (by kernel_rfl) (by kernel_rfl) (fun _ _ _ h => h) (.inl ⟨by kernel_rfl, ?_⟩) hS0 ?_
                    rotate_left
                    · intro w' hw'; obtain ⟨hr, hf, g3, g4⟩ := hw'; have g0 := Row.cell hr 0; have g1 := Row.cell hr 1; have g2 := Row.cell hr 2; have g5 := Row.cell hf 0; have g6 := Row.cell hf 1; simp only [List.getElem?_cons_zero, List.getElem?_cons_succ] at g0 g1 g2 g5 g6; clear hr hf; go_simp; try with_reducible rfl
                    try simp only [Act.put, List.setIfInBounds_toArray, List.set_cons_zero, List.set_cons_succ]
                    refine wpAnyH_takeD (some 108) (i := 21) (v := ?_) rfl rfl (by kernel_rfl) (by kernel_rfl) (by kernel_rfl) (fun _ _ _ h => h) (.inl ⟨by kernel_rfl, ?_⟩) hS0 ?_
                    rotate_left
                    · intro w' hw'; go_simp; try with_reducible rfl
                    try simp only [Act.put, List.setIfInBounds_toArray, List.set_cons_zero, List.set_cons_succ]
                    refine wpAnyH_takeD (some 109) (i := 22) (v := ?_) rfl rfl (by kernel_rfl) (by kernel_rfl) (by kernel_rfl) (fun _ _ _ h => h) (.inl ⟨by kernel_rfl, ?_⟩) hS0 ?_
                    rotate_left
                    · intro w' hw'; go_simp; try with_reducible rfl
                    try simp only [Act.put, List.setIfInBounds_toArray, List.set_cons_zero, List.set_cons_succ]
                    refine wpAnyH_takeD (some 110) (i := 23) (v := ?_) rfl rfl (by kernel_rfl) (by kernel_rfl) (by kernel_rfl) (fun _ _ _ h => h) (.inl ⟨by kernel_rfl, ?_⟩) hS0 ?_
                    rotate_left
                    · intro w' hw'; obtain ⟨hr, hf, g3, g4⟩ := hw'; have g0 := Row.cell hr 0; have g1 := Row.cell hr 1; have g2 := Row.cell hr 2; have g5 := Row.cell hf 0; have g6 := Row.cell hf 1; simp only [List.getElem?_cons_zero, List.getElem?_cons_succ] at g0 g1 g2 g5 g6; clear hr hf; go_simp; try with_reducible rfl
                    try simp only [Act.put, List.setIfInBounds_toArray, List.set_cons_zero, List.set_cons_succ]
                    refine wpAnyH_takeD (some 111) (i := 24) (v := ?_) rfl rfl (by kernel_rfl) (by kernel_rfl) (by kernel_rfl) (fun _ _ _ h => h) (.inl ⟨by kernel_rfl, ?_⟩) hS0 ?_
                    rotate_left
                    · intro w' hw'; obtain ⟨hr, hf, g3, g4⟩ := hw'; have g0 := Row.cell hr 0; have g1 := Row.cell hr 1; have g2 := Row.cell hr 2; have g5 := Row.cell hf 0; have g6 := Row.cell hf 1; simp only [List.getElem?_cons_zero, List.getElem?_cons_succ] at g0 g1 g2 g5 g6; clear hr hf; go_simp; try with_reducible rfl
                    try simp only [Act.put, List.setIfInBounds_toArray, List.set_cons_zero, List.set_cons_succ]
                    refine wpAnyH_takeD (some 112) (i := 25) (v := ?_) rfl rfl (by kernel_rfl) (by kernel_rfl) (by kernel_rfl) (fun _ _ _ h => h) (.inl ⟨by kernel_rfl, ?_⟩) hS0 ?_
                    rotate_left
                    · intro w' hw'; go_simp; try with_reducible rfl
                    try simp only [Act.put, List.setIfInBounds_toArray, List.set_cons_zero, List.set_cons_succ]
                    refine wpAnyH_takeD (some 113) (i := 26) (v := ?_) rfl rfl (by kernel_rfl) (by kernel_rfl) (by kernel_rfl) (fun _ _ _ h => h) (.inl ⟨by kernel_rfl, ?_⟩) hS0 ?_
                    rotate_left
                    · intro w' hw'; go_simp; try with_reducible rfl
                    try simp only [Act.put, List.setIfInBounds_toArray, List.set_cons_zero, List.set_cons_succ]
                    refine wpAnyH_takeD (some 114) (i := 27) (v := ?_) rfl rfl (by kernel_rfl) (by kernel_rfl) (by kernel_rfl) (fun _ _ _ h => h) (.inl ⟨by kernel_rfl, ?_⟩) hS0 ?_
                    rotate_left
                    · intro w' hw'; obtain ⟨hr, hf, g3, g4⟩ := hw'; have g0 := Row.cell hr 0; have g1 := Row.cell hr 1; have g2 := Row.cell hr 2; have g5 := Row.cell hf 0; have g6 := Row.cell hf 1; simp only [List.getElem?_cons_zero, List.getElem?_cons_succ] at g0 g1 g2 g5 g6; clear hr hf; go_simp; try with_reducible rfl
                    try simp only [Act.put, List.setIfInBounds_toArray, List.set_cons_zero, List.set_cons_succ]
                    refine wpAnyH_takeD (some 115) (i := 28) (v := ?_) rfl rfl (by kernel_rfl) (by kernel_rfl) (by kernel_rfl) (fun _ _ _ h => h) (.inl ⟨by kernel_rfl, ?_⟩) hS0 ?_
                    rotate_left
                    · intro w' hw'; obtain ⟨hr, hf, g3, g4⟩ := hw'; have g0 := Row.cell hr 0; have g1 := Row.cell hr 1; have g2 := Row.cell hr 2; have g5 := Row.cell hf 0; have g6 := Row.cell hf 1; simp only [List.getElem?_cons_zero, List.getElem?_cons_succ] at g0 g1 g2 g5 g6; clear hr hf; go_simp; try with_reducible rfl
                    try simp only [Act.put, List.setIfInBounds_toArray, List.set_cons_zero, List.set_cons_succ]
                    refine wpAnyH_takeD (some 116) (i := 29) (v := ?_) rfl rfl (by kernel_rfl) (by kernel_rfl) (by kernel_rfl) (fun _ _ _ h => h) (.inl ⟨by kernel_rfl, ?_⟩) hS0 ?_
                    rotate_left
                    · intro w' hw'; go_simp; try with_reducible rfl
                    try simp only [Act.put, List.setIfInBounds_toArray, List.set_cons_zero, List.set_cons_succ]
                    refine wpAnyH_takeD (some 117) (i := 30) (v := ?_) rfl rfl (by kernel_rfl) (by kernel_rfl) (by kernel_rfl) (fun _ _ _ h => h) (.inl ⟨by kernel_rfl, ?_⟩) hS0 ?_
                    rotate_left
                    · intro w' hw'; obtain ⟨hr, hf, g3, g4⟩ := hw'; have g0 := Row.cell hr 0; have g1 := Row.cell hr 1; have g2 := Row.cell hr 2; have g5 := Row.cell hf 0; have g6 := Row.cell hf 1; simp only [List.getElem?_cons_zero, List.getElem?_cons_succ] at g0 g1 g2 g5 g6; clear hr hf; go_simp; try with_reducible rfl
                    try simp only [Act.put, List.setIfInBounds_toArray, List.set_cons_zero, List.set_cons_succ]
                    refine wpAnyH_takeD (some 118) (i := 31) (v := ?_) rfl rfl (by kernel_rfl) (by kernel_rfl) (by kernel_rfl) (fun _ _ _ h => h) (.inl ⟨by kernel_rfl, ?_⟩) hS0 ?_
                    rotate_left
                    · intro w' hw'; obtain ⟨hr, hf, g3, g4⟩ := hw'; have g0 := Row.cell hr 0; have g1 := Row.cell hr 1; have g2 := Row.cell hr 2; have g5 := Row.cell hf 0; have g6 := Row.cell hf 1; simp only [List.getElem?_cons_zero, List.getElem?_cons_succ] at g0 g1 g2 g5 g6; clear hr hf; go_simp; try with_reducible rfl
                    try simp only [Act.put, List.setIfInBounds_toArray, List.set_cons_zero, List.set_cons_succ]
                    refine wpAnyH_all (rs := [32]) (by kernel_rfl) (by simp) ?_
                    intro i hi; simp only [List.mem_cons, List.not_mem_nil, or_false] at hi
                    subst hi
                    refine wpOp_step rfl (fun K hK => ?_)
                    go_simp
                    with_reducible refine (HFQ.out W0 (HS.out.below q0 HLT.out.1) (HR.out.below q0 HLT.out.2.1)).mono ?_
                    rintro e v2 ⟨rfl, hB⟩
                    have q9 := q0.trans (hB.mono q0.size)
                    clear hB
                    have hS9 : (fun W' : World => Row W' X 44 [.slice (some ⟨bk, 0, none⟩) nk ck, .slice (some ⟨bb, 0, none⟩) nb cb, .int .i64 c] ∧ Row W' F 42 [.int .i64 lo, .int .i64 hi] ∧ W'.cell? ⟨bk, c', none⟩ = some (.int .i64 (C : Int)) ∧ W'.cell? ⟨bk, k, none⟩ = some (.int .i64 (P : Int))) v2 := ⟨RX.out.below q9 HLT.out.2.2.2.2.1, RF.out.below q9 HLT.out.2.2.2.2.2, (q9.cell (p := ⟨bk, c', none⟩) HLT.out.2.2.1).trans CKC.out, (q9.cell (p := ⟨bk, k, none⟩) HLT.out.2.2.1).trans CKK.out⟩
                    refine hK _ _ ⟨hS9, ?_⟩
                    try simp only [Act.put, List.setIfInBounds_toArray, List.set_cons_zero, List.set_cons_succ]
                    clear hK K
                    refine wpAnyH_takeD (some 120) (i := 33) (v := ?_) rfl rfl (by kernel_rfl) (by kernel_rfl) (by kernel_rfl) (fun _ _ _ h => h) (.inl ⟨by kernel_rfl, ?_⟩) hS9 ?_
                    rotate_left
                    · intro w' hw'; go_simp; try with_reducible rfl
                    try simp only [Act.put, List.setIfInBounds_toArray, List.set_cons_zero, List.set_cons_succ]
                    refine wpAnyH_takeD (some 121) (i := 34) (v := ?_) rfl rfl (by kernel_rfl) (by kernel_rfl) (by kernel_rfl) (fun _ _ _ h => h) (.inl ⟨by kernel_rfl, ?_⟩) hS9 ?_
                    rotate_left
                    · intro w' hw'; go_simp; try with_reducible rfl
                    try simp only [Act.put, List.setIfInBounds_toArray, List.set_cons_zero, List.set_cons_succ]
                    refine wpAnyH_done (by kernel_rfl) ?_ _
                    have HQ9 := hid q9
                    clear hS9 hS0 q9 q0
                    cases fv with
                    | false =>
                      have HT := HT5.out (by rw [HSP.out]; rfl)
                      subst HT
                      go_wp2_with fail
                      go_ret
                      exact ⟨by first | rfl | simp, BV.out.trans (HQ9.out.mono BV.out.size)⟩
                    | true =>
                      have HT := hid (show stepP z js lo hi ks bs k = true by rw [HSP.out]; rfl)
                      go_wp2_with fail
                      go_roundw
                      case rel => exact ⟨k + 1, c' + 1, by have := HCK.out; omega, by omega, by go_num, fun t ht => by
                        rcases Nat.lt_or_ge t k with c | c
                        · exact HP5.out t c
                        · obtain rfl : t = k := by omega
                          exact HT.out, HQ9.out⟩
                      case measure => simp [intOf]; omega
                · obtain rfl : k = nk - 1 := by omega
                  have HT := T6.out (by first | rfl | trivial) (by first | rfl | trivial) (by rw [← HNK.out, ← HN.out]; exact HD.out) (fun j hj => HP.out j (by rw [HNB.out]; exact hj)) (fun j hj => hP5 j (by rw [HNK.out]; exact hj))
                  rw [← HN.out, ← HNK.out, ← HNB.out] at HT
                  have hnk9 : nk ≤ n := by have := rise_len HRK2.out (by omega); have := HNK.out; omega
                  have hnb9 : nb ≤ n := by have := rise_len HRB2.out (by omega); have := HNB.out; omega
                  have hge : ¬ (c' : Int) < (nk : Int) := by omega
                  obtain ⟨M, hM⟩ : ∃ M, (n : Int) - (nk : Int) = M := ⟨_, rfl⟩
                  obtain ⟨B2, hB2⟩ : ∃ M, 2 * (nb : Int) = M := ⟨_, rfl⟩
                  rw [hM, hB2] at HT
                  obtain ⟨S2, hS2⟩ : ∃ x, M + B2 = x := ⟨_, rfl⟩
                  rw [hS2] at HT
                  have wM : IntKind.i64.wrap ((n : Int) - (nk : Int)) = M := (IntWalk.i64_in _ (by omega)).trans hM
                  have wM1 : IntKind.i64.wrap M = M := IntWalk.i64_in _ (by omega)
                  have wB : IntKind.i64.wrap (2 * (nb : Int)) = B2 := (IntWalk.i64_in _ (by omega)).trans hB2
                  have wS : IntKind.i64.wrap (M + B2) = S2 := (IntWalk.i64_in _ (by omega)).trans hS2
                  have HT2 := hid HT
                  have HQ2 := hid q
                  clear hP5 q rX HT hM hB2 hS2 hck hnk9 hnb9 hlt hk
                  go_upto_region 15 with fail
                  go_quiet (fail)
                  go_wp2_with fail
                  go_ret
                  exact ⟨by rw [HT2.out]; first | rfl | simp, below_drewN (BV.out.trans (HQ2.out.mono BV.out.size)) _⟩
end Go.Proofs.Ytilbpgcgjbblaaa
