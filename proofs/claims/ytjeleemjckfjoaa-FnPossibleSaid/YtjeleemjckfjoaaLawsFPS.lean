/- The law on what is possible. -/
import Derived.Test.YtjeleemjckfjoaaPoL
namespace Go.Proofs.Ytjeleemjckfjoaa
open Go.RowKit
set_option linter.unusedVariables false
set_option linter.unusedSimpArgs false
theorem owns_len {w : World} {base n : Nat} {v : Value} {js : List (Int × Int)} (h : w.ownsRow base 32 2 v n (tvals js)) : ∃ a cp, v = .slice a n cp := by
  rcases h.2 with ⟨rfl, rfl⟩ | ⟨g, cap, cur, rfl, _⟩
  · exact ⟨_, _, rfl⟩
  · exact ⟨_, _, rfl⟩
theorem own_rstG {w : World} {base n : Nat} {v : Value} {js : List (Int × Int)} (h : w.ownsRow base 32 2 v n (tvals js)) (hn : 1 ≤ n) (hl : js.length ≤ 1048576) : ∃ g cp, v = .slice (some ⟨g, 0, none⟩) n cp ∧ n ≤ cp ∧ Rst w g js := by
  rcases h.2 with ⟨_, h2⟩ | ⟨g, cap, cur, h2, h3, h4, h5, h6, h7, h8⟩
  · omega
  · have hr : Row w g 32 (tvals js ++ cur.toList.drop (n * 2)) := by
      unfold Row
      rw [h4, ← h8, List.take_append_drop]
    exact ⟨g, cap, h2, h5, hr.lt, fun j hj => ⟨(hr.cell _).trans (tvals_get js _ j hj).1, (hr.cell _).trans (tvals_get js _ j hj).2⟩, hl⟩
set_option maxRecDepth 100000 in
set_option maxHeartbeats 4000000 in
theorem law_FnPossible_in (a : Option Addr) (len cap : Nat) (zs : List Int) (a' : Option Addr) (len' cap' : Nat) (zs' : List Int) (w : World) (h : InB w a len zs) (h' : InB w a' len' zs') (hl : len ≤ 3000) (hl' : len' ≤ 3000) :
    Calls Try.prog 3 #[.slice a len cap, .slice a' len' cap'] w fun e w' => e = .returned (.bool true) ∧ Below w.heap.size w w' := by
  have H2 := hid h'
  have F1 := hid (a2Long_no a len cap a' len' cap' w hl hl')
  have LG := hid (a2Log_any a len cap zs w h (by omega))
  have AT1 := hid (fun (n : Int) (W : World) (hI : InB W a' len' zs') (hn : 1 ≤ n ∧ n ≤ 1000000) => show Calls Try.prog 6 #[.slice a' len' cap', .int .i64 0, .int .i64 n] W (NumIn 0 n W) from a2At_any a' len' cap' zs' 0 n W hI hl' (by omega) hn)
  clear h h' hl hl'
  go_enter Try.func3, Try.ntmps3
  go_wp2_with fail
  with_reducible refine F1.out.mono ?_
  rintro e w1 ⟨rfl, hw⟩
  subst hw
  go_wp2_with fail
  with_reducible refine LG.out.mono ?_
  rintro e w1 ⟨Z, js, d, v, B, L, p, q, rfl, hZ, hn, hLP, hst, ow, hpq, hB⟩
  have hok : okL Z = true := by rcases hZ with rfl | rfl | rfl <;> decide
  have hz : 2 ≤ szL Z ∧ szL Z ≤ 1000 := by rcases hZ with rfl | rfl | rfl <;> decide
  obtain ⟨nz, hnz⟩ : ∃ n, Z.length = n := ⟨_, rfl⟩
  rw [hnz]
  have rF := Row.new w1 27 [.int .i64 p, .int .i64 q]
  have a2 : Below w1.heap.size w1 (w1.alloc (.cells #[.int .i64 p, .int .i64 q] 27)) := (Below.refl _ _).alloc (Nat.le_refl _) _
  have b2 := hB.trans (a2.mono hB.size)
  have st2 := hst.below a2 hst.1
  have ow2 := ow.alloc (.cells #[.int .i64 p, .int .i64 q] 27)
  obtain ⟨RF, hRF⟩ : ∃ q, w1.heap.size = q := ⟨_, rfl⟩
  obtain ⟨V2, hV2⟩ : ∃ X, X = w1.alloc (.cells #[.int .i64 p, .int .i64 q] 27) := ⟨_, rfl⟩
  rw [← hV2] at rF b2 st2 ow2
  rw [hRF] at rF
  have HV2 := hid hV2; have HRF := hid hRF; have HST := hid st2; have HOW := hid ow2; have B2 := hid b2; have R7 := hid rF; have HOK := hid hok; have HZZ := hid hz; have HNZ := hid hnz.symm; have HN := hid hn; have HLP := hid hLP; have HPQ := hid hpq
  clear hZ hn hLP hst ow hpq hB hok hz rF a2 b2 st2 ow2 hRF hV2 LG F1 hnz
  go_upto_region 4 with fail
  rw [← HV2.out, HRF.out]
  by_cases hn2 : js.length < 2
  · obtain ⟨a0, cp, rfl⟩ := owns_len HOW.out
    obtain ⟨n, hnn⟩ : ∃ n, js.length = n := ⟨_, rfl⟩
    rw [hnn] at hn2 ⊢
    have hn2' : (n : Int) < 2 := by omega
    clear hnn
    go_wp2_with fail
    go_ret
    exact ⟨rfl, B2.out⟩
  · obtain ⟨gl, cp, rfl, hcp, hR⟩ := own_rstG HOW.out (by omega) (by have := HN.out; omega)
    obtain ⟨n, hnn⟩ : ∃ n, js.length = n := ⟨_, rfl⟩
    have hnb := HN.out
    rw [hnn] at hn2 hcp hnb ⊢
    have hn2' : ¬ (n : Int) < 2 := by omega
    have wn : IntKind.i64.wrap ((n : Int) - 1) = (n : Int) - 1 := IntWalk.i64_in _ (by omega)
    have HR := hid hR; have HNN := hid hnn; have HCP := hid hcp; have HNB := hid hnb
    clear hnn hR hcp hnb
    have q0 : Below V2.heap.size V2 V2 := Below.refl _ _
    go_wp2_with fail
    with_reducible refine (AT1.out ((n : Int) - 1) V2 (H2.out.below B2.out (Nat.le_refl _)) (by have := HNB.out; omega)).mono ?_
    rintro e W2 ⟨t, t0, t1, rfl, hw⟩
    subst hw
    obtain ⟨k, rfl⟩ : ∃ k : Nat, t = k := ⟨t.toNat, by omega⟩
    have hk1 : k + 1 < n := by omega
    have hkn : k < n := by omega
    have wk : IntKind.i64.wrap ((k : Int) + 1) = ((k + 1 : Nat) : Int) := by rw [IntWalk.i64_in _ (by have := HNB.out; omega)]; omega
    have k0 : (0 : Int) ≤ (k : Int) := by omega
    have k1 : (0 : Int) ≤ ((k + 1 : Nat) : Int) := by omega
    have k2 : (k : Int) < (n : Int) := by omega
    have k3 : ((k + 1 : Nat) : Int) < (n : Int) := by omega
    obtain ⟨o1, o2, o3, o4, o5, o6⟩ := HLP.out.two HN.out (k := k) (by rw [HNN.out]; exact hk1)
    have of := okF_yes (lo := p) (hi := q) (by have := HPQ.out; omega) (by have := HPQ.out; omega) (by have := HPQ.out; omega)
    have ca := HR.out.2.1 k (by rw [HNN.out]; exact hkn)
    have cb := HR.out.2.1 (k + 1) (by rw [HNN.out]; exact hk1)
    obtain ⟨c, hc⟩ : ∃ c, k + 1 = c := ⟨_, rfl⟩
    obtain ⟨da, hda⟩ : ∃ y, rd js k = y := ⟨_, rfl⟩
    obtain ⟨u, hu⟩ : ∃ y, rv js k = y := ⟨_, rfl⟩
    obtain ⟨db, hdb⟩ : ∃ y, rd js (k + 1) = y := ⟨_, rfl⟩
    obtain ⟨x, hx⟩ : ∃ y, rv js (k + 1) = y := ⟨_, rfl⟩
    rw [hda, hu] at ca
    rw [hdb, hx, hc] at cb
    rw [hda, hu] at o1
    rw [hdb, hx] at o2
    rw [hda, hdb] at o3 o4
    rw [hu] at o5
    rw [hx] at o6
    rw [hc] at wk k1 k3 hk1
    obtain ⟨Lq, Gq, C2, D, hcn, hbk, hD, hle, key⟩ := poss_key HOK.out o1 o2 of o3
    have rnd0 := implRounds_any B nz nz Z HNZ.out da u db x p q
    have HCI := hid (fun W (hS : Stk W B Z) => show Calls Try.prog 8 #[.slice (some ⟨B, 0, none⟩) nz nz, .agg #[.int .i64 da, .int .i64 u], .agg #[.int .i64 db, .int .i64 x], .agg #[.int .i64 p, .int .i64 q]] W (GivesB W (.tuple #[.int .i64 Lq, .int .i64 Gq, .int .i64 C2])) from by
      have := implCounts_any B nz nz Z HNZ.out da u db x p q W hS
      rw [hcn] at this
      exact this)
    have HCS := hid (fun W (hS : Stk W B Z) => show Calls Try.prog 9 #[.slice (some ⟨B, 0, none⟩) nz nz, .agg #[.int .i64 da, .int .i64 u], .agg #[.int .i64 db, .int .i64 x], .agg #[.int .i64 p, .int .i64 q]] W (GivesB W (.tuple #[.int .i64 Lq, .int .i64 Gq, .int .i64 C2])) from by
      have := specCounts_any B nz nz Z HNZ.out da u db x p q W hS
      rw [hcn] at this
      exact this)
    have HBI := hid (fun W (hS : Stk W B Z) => show Calls Try.prog 10 #[.slice (some ⟨B, 0, none⟩) nz nz, .agg #[.int .i64 da, .int .i64 u], .agg #[.int .i64 db, .int .i64 x], .agg #[.int .i64 p, .int .i64 q]] W (GivesB W (.tuple #[.int .i64 D, .int .i64 0])) from by
      have := implBack_any B nz nz Z HNZ.out da u db x p q W hS
      rw [hbk] at this
      exact this)
    have HBS := hid (fun W (hS : Stk W B Z) => show Calls Try.prog 11 #[.slice (some ⟨B, 0, none⟩) nz nz, .agg #[.int .i64 da, .int .i64 u], .agg #[.int .i64 db, .int .i64 x], .agg #[.int .i64 p, .int .i64 q]] W (GivesB W (.tuple #[.int .i64 D, .int .i64 0])) from by
      have := specBack_any B nz nz Z HNZ.out da u db x p q W hS
      rw [hbk] at this
      exact this)
    have HSZ := hid (fun W (hS : Stk W B Z) => specSizeOf_any B nz nz Z W hS HNZ.out)
    rw [sizeR_yes HOK.out] at HSZ
    obtain ⟨z, hzz⟩ : ∃ z, szL Z = z := ⟨_, rfl⟩
    have hz2 := HZZ.out
    rw [hzz] at HSZ hD key hz2 o5 o6
    have HRI := hid (fun (hr : rndR Z da u db x p q = (((u + Lq) / z, (u + Gq) / z), 0)) W (hS : Stk W B Z) => show Calls Try.prog 12 #[.slice (some ⟨B, 0, none⟩) nz nz, .agg #[.int .i64 da, .int .i64 u], .agg #[.int .i64 db, .int .i64 x], .agg #[.int .i64 p, .int .i64 q]] W (GivesB W (.tuple #[.int .i64 ((u + Lq) / z), .int .i64 ((u + Gq) / z), .int .i64 0])) from by
      have := rnd0 W hS
      rw [hr] at this
      exact this)
    obtain ⟨dd, hdd⟩ : ∃ y, db - da = y := ⟨_, rfl⟩
    rw [hdd] at hle key
    have ddb : 1 ≤ dd ∧ dd ≤ 40 := by omega
    have pq := HPQ.out
    have m0 : 0 ≤ p * dd := Int.mul_nonneg pq.1 (by omega)
    have m1 : q * dd ≤ 16 * 40 := Int.mul_le_mul pq.2.2.2 ddb.2 (by omega) (by omega)
    obtain ⟨LO, hLO⟩ : ∃ y, p * dd = y := ⟨_, rfl⟩
    obtain ⟨HI, hHI⟩ : ∃ y, q * dd = y := ⟨_, rfl⟩
    rw [hLO] at hle key m0
    rw [hHI] at hle key m1
    have wdd : IntKind.i64.wrap (db - da) = dd := (IntWalk.i64_in _ (by omega)).trans hdd
    have wLO : IntKind.i64.wrap (p * dd) = LO := (IntWalk.i64_in _ (by omega)).trans hLO
    have wHI : IntKind.i64.wrap (q * dd) = HI := (IntWalk.i64_in _ (by omega)).trans hHI
    have BD := hid (And.intro hz2 (And.intro o5 (And.intro o6 (And.intro hD (And.intro m0 (And.intro hle m1))))))
    have KEY := hid key
    have ca0 := ca.1; have ca1 := ca.2; have cb0 := cb.1; have cb1 := cb.2
    -- the two boxes
    have r9 := Row.new V2 32 [.int .i64 da, .int .i64 u]
    have a9 : Below V2.heap.size V2 (V2.alloc (.cells #[.int .i64 da, .int .i64 u] 32)) := (Below.refl _ _).alloc (Nat.le_refl _) _
    obtain ⟨R9, hR9⟩ : ∃ q, V2.heap.size = q := ⟨_, rfl⟩
    rw [hR9] at r9 a9
    have r10 := Row.new (V2.alloc (.cells #[.int .i64 da, .int .i64 u] 32)) 32 [.int .i64 db, .int .i64 x]
    have s10 : (V2.alloc (.cells #[.int .i64 da, .int .i64 u] 32)).heap.size = R9 + 1 := by simp [hR9]
    rw [s10] at r10
    have a10 := a9.alloc (by rw [s10]; omega) (.cells #[.int .i64 db, .int .i64 x] 32)
    have r9' := r9.alloc (.cells #[.int .i64 db, .int .i64 x] 32)
    obtain ⟨V4, hV4⟩ : ∃ X, X = (V2.alloc (.cells #[.int .i64 da, .int .i64 u] 32)).alloc (.cells #[.int .i64 db, .int .i64 x] 32) := ⟨_, rfl⟩
    rw [← hV4] at r10 a10 r9'
    have cx0 := (a9.cell (p := ⟨gl, c * 2, none⟩) (by have := HR.out.1; show gl < R9; omega)).trans cb0
    have cx1 := (a9.cell (p := ⟨gl, c * 2 + 1, none⟩) (by have := HR.out.1; show gl < R9; omega)).trans cb1
    have R9x := hid r9'; have R10x := hid r10; have R7x := hid (R7.out.below a10 (by have := R7.out.lt; omega)); have HS4 := hid (HST.out.below a10 (by have := HST.out.1; omega))
    have B4 := hid (B2.out.trans (a10.mono (by have := B2.out.size; omega)))
    have HR9 := hid hR9; have HV4 := hid hV4; have HLT := hid (HS4.out.1)
    clear ca cb r9 a9 r10 s10 a10 r9' hR9 hV4 hz2 o1 o2 o3 o4 o5 o6 of hcn hbk hD hle key rnd0 hzz hdd hLO hHI m0 m1 pq ddb hda hu hdb hx t0 t1 hc R7 HST HOW AT1 H2 q0
    go_upto_region 9 with fail
    rw [HR9.out, ← HV4.out]
    clear ca0 ca1 cb0 cb1 cx0 cx1
    have qq : Below V4.heap.size V4 V4 := Below.refl _ _
    have x0 := (R9x.out.below qq R9x.out.lt).cell 0; have x1 := (R9x.out.below qq R9x.out.lt).cell 1; have y0 := (R10x.out.below qq R10x.out.lt).cell 0; have y1 := (R10x.out.below qq R10x.out.lt).cell 1; have f0 := (R7x.out.below qq R7x.out.lt).cell 0; have f1 := (R7x.out.below qq R7x.out.lt).cell 1
    simp only [List.getElem?_cons_zero, List.getElem?_cons_succ] at x0 x1 y0 y1 f0 f1
    go_wp2_with fail
    with_reducible refine (HSZ.out _ (HS4.out.below qq HLT.out)).mono ?_
    rintro e X0 ⟨rfl, hB⟩
    replace qq := qq.trans (hB.mono qq.size)
    clear hB x0 x1 y0 y1 f0 f1
    have x0 := (R9x.out.below qq R9x.out.lt).cell 0; have x1 := (R9x.out.below qq R9x.out.lt).cell 1; have y0 := (R10x.out.below qq R10x.out.lt).cell 0; have y1 := (R10x.out.below qq R10x.out.lt).cell 1; have f0 := (R7x.out.below qq R7x.out.lt).cell 0; have f1 := (R7x.out.below qq R7x.out.lt).cell 1
    simp only [List.getElem?_cons_zero, List.getElem?_cons_succ] at x0 x1 y0 y1 f0 f1
    go_wp2_with fail
    with_reducible refine (HCI.out _ (HS4.out.below qq HLT.out)).mono ?_
    rintro e X1 ⟨rfl, hB⟩
    replace qq := qq.trans (hB.mono qq.size)
    clear hB x0 x1 y0 y1 f0 f1
    have x0 := (R9x.out.below qq R9x.out.lt).cell 0; have x1 := (R9x.out.below qq R9x.out.lt).cell 1; have y0 := (R10x.out.below qq R10x.out.lt).cell 0; have y1 := (R10x.out.below qq R10x.out.lt).cell 1; have f0 := (R7x.out.below qq R7x.out.lt).cell 0; have f1 := (R7x.out.below qq R7x.out.lt).cell 1
    simp only [List.getElem?_cons_zero, List.getElem?_cons_succ] at x0 x1 y0 y1 f0 f1
    go_wp2_with fail
    with_reducible refine (HCS.out _ (HS4.out.below qq HLT.out)).mono ?_
    rintro e X2 ⟨rfl, hB⟩
    replace qq := qq.trans (hB.mono qq.size)
    clear hB x0 x1 y0 y1 f0 f1
    have x0 := (R9x.out.below qq R9x.out.lt).cell 0; have x1 := (R9x.out.below qq R9x.out.lt).cell 1; have y0 := (R10x.out.below qq R10x.out.lt).cell 0; have y1 := (R10x.out.below qq R10x.out.lt).cell 1; have f0 := (R7x.out.below qq R7x.out.lt).cell 0; have f1 := (R7x.out.below qq R7x.out.lt).cell 1
    simp only [List.getElem?_cons_zero, List.getElem?_cons_succ] at x0 x1 y0 y1 f0 f1
    go_wp2_with fail
    with_reducible refine (HBI.out _ (HS4.out.below qq HLT.out)).mono ?_
    rintro e X3 ⟨rfl, hB⟩
    replace qq := qq.trans (hB.mono qq.size)
    clear hB x0 x1 y0 y1 f0 f1
    have x0 := (R9x.out.below qq R9x.out.lt).cell 0; have x1 := (R9x.out.below qq R9x.out.lt).cell 1; have y0 := (R10x.out.below qq R10x.out.lt).cell 0; have y1 := (R10x.out.below qq R10x.out.lt).cell 1; have f0 := (R7x.out.below qq R7x.out.lt).cell 0; have f1 := (R7x.out.below qq R7x.out.lt).cell 1
    simp only [List.getElem?_cons_zero, List.getElem?_cons_succ] at x0 x1 y0 y1 f0 f1
    go_wp2_with fail
    with_reducible refine (HBS.out _ (HS4.out.below qq HLT.out)).mono ?_
    rintro e X4 ⟨rfl, hB⟩
    replace qq := qq.trans (hB.mono qq.size)
    clear hB x0 x1 y0 y1 f0 f1
    have x0 := (R9x.out.below qq R9x.out.lt).cell 0; have x1 := (R9x.out.below qq R9x.out.lt).cell 1; have y0 := (R10x.out.below qq R10x.out.lt).cell 0; have y1 := (R10x.out.below qq R10x.out.lt).cell 1; have f0 := (R7x.out.below qq R7x.out.lt).cell 0; have f1 := (R7x.out.below qq R7x.out.lt).cell 1
    simp only [List.getElem?_cons_zero, List.getElem?_cons_succ] at x0 x1 y0 y1 f0 f1
    clear x0 x1 y0 y1 f0 f1
    have QQ := hid qq
    obtain ⟨hz2, hu, hx, hD, m0, hle, m1⟩ := BD.out
    have n1 : (C2 != C2) = false := by simp
    have n2 : (Lq != Lq) = false := by simp
    have n3 : (Gq != Gq) = false := by simp
    have n4 : (D != D) = false := by simp
    have n5 : ¬ D < 0 := by omega
    have n6 : ¬ z ≤ D := by omega
    have x0 := (R9x.out.below qq R9x.out.lt).cell 0; have x1 := (R9x.out.below qq R9x.out.lt).cell 1; have y0 := (R10x.out.below qq R10x.out.lt).cell 0; have y1 := (R10x.out.below qq R10x.out.lt).cell 1; have f0 := (R7x.out.below qq R7x.out.lt).cell 0; have f1 := (R7x.out.below qq R7x.out.lt).cell 1
    simp only [List.getElem?_cons_zero, List.getElem?_cons_succ] at x0 x1 y0 y1 f0 f1
    clear qq hz2 hu hx hD m0 hle m1
    go_upto_region 16 with fail
    clear n1 n2 n3 n4 n5 n6
    obtain ⟨hz2, hu, hx, hD, m0, hle, m1⟩ := BD.out
    rcases KEY.out with ⟨rfl, rfl, hr, k1, k2, k3, k4, k5, k6⟩ | ⟨rfl, k1, k2⟩
    · have HRR := hid (HRI.out hr)
      have KK := hid (And.intro k1 (And.intro k2 (And.intro k3 (And.intro k4 (And.intro k5 k6)))))
      have w0' : IntKind.i64.wrap (x + 0) = x := by rw [Int.add_zero]; exact IntWalk.i64_in _ (by omega)
      have w0 : IntKind.i64.wrap x = x := IntWalk.i64_in _ (by omega)
      have m9 : x.tmod z = x := by rw [Int.tmod_eq_emod_of_nonneg hx.1]; exact Int.emod_eq_of_lt hx.1 hx.2
      have z0 : z ≠ 0 := by omega
      have HBB := hid (And.intro hu (And.intro hz2 (And.intro m0 m1)))
      clear hr k1 k2 k3 k4 k5 k6 hz2 hu hx hD m0 hle m1 HRI HCI HCS HBI HBS HSZ KEY BD
      go_upto_region 19 with fail
      go_loopw [21, 24, 25] (fun s21 s24 s25 wr => ∃ c : Int, s21 = .int .i64 0 ∧ s24 = .bool false ∧ s25 = .int .i64 c ∧ LO ≤ c ∧ c ≤ Lq ∧ Below V4.heap.size V4 wr) (fun _ _ s25 _ => (HI + 1 - intOf s25).toNat)
      case atStart => exact ⟨LO, rfl, rfl, rfl, Int.le_refl _, KK.out.1, QQ.out⟩
      case round =>
        obtain ⟨c, rfl, rfl, rfl, c1, c2, qq⟩ := hrel
        clear x0 x1 y0 y1 f0 f1
        have x0 := (R9x.out.below qq R9x.out.lt).cell 0; have x1 := (R9x.out.below qq R9x.out.lt).cell 1; have y0 := (R10x.out.below qq R10x.out.lt).cell 0; have y1 := (R10x.out.below qq R10x.out.lt).cell 1; have f0 := (R7x.out.below qq R7x.out.lt).cell 0; have f1 := (R7x.out.below qq R7x.out.lt).cell 1
        simp only [List.getElem?_cons_zero, List.getElem?_cons_succ] at x0 x1 y0 y1 f0 f1
        have kk := KK.out; have hb := HBB.out
        have h1 : c ≤ HI := by omega
        have wc : IntKind.i64.wrap (u + c) = u + c := IntWalk.i64_in _ (by omega)
        have mc : (u + c).tmod z = (u + c) % z := Int.tmod_eq_emod_of_nonneg (by omega)
        have bF : 0 ≤ (u + c) % z ∧ (u + c) % z < z := ⟨Int.emod_nonneg _ z0, Int.emod_lt_of_pos _ (by omega)⟩
        obtain ⟨F, hF⟩ : ∃ y, (u + c) % z = y := ⟨_, rfl⟩
        obtain ⟨uc, huc⟩ : ∃ y, u + c = y := ⟨_, rfl⟩
        rw [hF] at mc bF
        rw [huc] at mc
        have wc' : IntKind.i64.wrap (u + c) = uc := wc.trans huc
        have wF : IntKind.i64.wrap F = F := IntWalk.i64_in _ (by omega)
        by_cases hc : c = Lq
        · have hFx : F = x := by rw [← hF, hc]; exact kk.2.2.2.1
          subst hc
          have hl : ¬ c < c := by omega
          have hg : ¬ Gq < c := by omega
          have e1 : (x == x) = true := by simp
          rw [hFx] at mc
          clear wc bF hF huc hFx kk hb c1 c2
          go_upto_region 21 with fail
          go_quiet (fail)
          obtain ⟨D1, hQD1⟩ : ∃ X, X = wr.drewN nq := ⟨_, rfl⟩
          have qz : Below V4.heap.size V4 D1 := by rw [hQD1]; exact below_drewN qq _
          rw [← hQD1]
          clear hQD1 qq x0 x1 y0 y1 f0 f1
          have qq := qz
          clear qz
          have x0 := (R9x.out.below qq R9x.out.lt).cell 0; have x1 := (R9x.out.below qq R9x.out.lt).cell 1; have y0 := (R10x.out.below qq R10x.out.lt).cell 0; have y1 := (R10x.out.below qq R10x.out.lt).cell 1; have f0 := (R7x.out.below qq R7x.out.lt).cell 0; have f1 := (R7x.out.below qq R7x.out.lt).cell 1
          simp only [List.getElem?_cons_zero, List.getElem?_cons_succ] at x0 x1 y0 y1 f0 f1
          go_upto_region 25 with fail
          go_quiet (fail)
          obtain ⟨D2, hQD2⟩ : ∃ X, X = D1.drewN nq := ⟨_, rfl⟩
          have qz : Below V4.heap.size V4 D2 := by rw [hQD2]; exact below_drewN qq _
          rw [← hQD2]
          clear hQD2 qq x0 x1 y0 y1 f0 f1
          have qq := qz
          clear qz
          have x0 := (R9x.out.below qq R9x.out.lt).cell 0; have x1 := (R9x.out.below qq R9x.out.lt).cell 1; have y0 := (R10x.out.below qq R10x.out.lt).cell 0; have y1 := (R10x.out.below qq R10x.out.lt).cell 1; have f0 := (R7x.out.below qq R7x.out.lt).cell 0; have f1 := (R7x.out.below qq R7x.out.lt).cell 1
          simp only [List.getElem?_cons_zero, List.getElem?_cons_succ] at x0 x1 y0 y1 f0 f1
          have QW := hid qq
          clear qq
          go_wp2_with fail
          with_reducible refine (HRR.out _ (HS4.out.below QW.out HLT.out)).mono ?_
          rintro e W9 ⟨rfl, hB⟩
          have qq := QW.out.trans (hB.mono QW.out.size)
          clear hB x0 x1 y0 y1 f0 f1
          have x0 := (R9x.out.below qq R9x.out.lt).cell 0; have x1 := (R9x.out.below qq R9x.out.lt).cell 1; have y0 := (R10x.out.below qq R10x.out.lt).cell 0; have y1 := (R10x.out.below qq R10x.out.lt).cell 1; have f0 := (R7x.out.below qq R7x.out.lt).cell 0; have f1 := (R7x.out.below qq R7x.out.lt).cell 1
          simp only [List.getElem?_cons_zero, List.getElem?_cons_succ] at x0 x1 y0 y1 f0 f1
          have kk := KK.out; have hb := HBB.out
          have v1 : LO ≤ c := kk.1
          have v2 : Gq ≤ HI := kk.2.2.1
          have g4 := kk.2.2.2.2.1
          have wg : IntKind.i64.wrap (u + Gq) = u + Gq := IntWalk.i64_in _ (by omega)
          have mg : (u + Gq).tmod z = x := by rw [Int.tmod_eq_emod_of_nonneg (by omega)]; exact g4
          have dg : (u + Gq).tdiv z = (u + Gq) / z := Int.tdiv_eq_ediv_of_nonneg (by omega)
          have mc2 : (u + c).tmod z = x := by rw [Int.tmod_eq_emod_of_nonneg (by omega)]; exact kk.2.2.2.1
          have dc : (u + c).tdiv z = (u + c) / z := Int.tdiv_eq_ediv_of_nonneg (by omega)
          have wcc : IntKind.i64.wrap (u + c) = u + c := IntWalk.i64_in _ (by omega)
          have q1 : 0 ≤ (u + c) / z ∧ (u + c) / z ≤ u + c := ⟨Int.ediv_nonneg (by omega) (by omega), Int.ediv_le_self _ (by omega)⟩
          have q2 : 0 ≤ (u + Gq) / z ∧ (u + Gq) / z ≤ u + Gq := ⟨Int.ediv_nonneg (by omega) (by omega), Int.ediv_le_self _ (by omega)⟩
          have wq1 : IntKind.i64.wrap ((u + c) / z) = (u + c) / z := IntWalk.i64_in _ (by omega)
          have wq2 : IntKind.i64.wrap ((u + Gq) / z) = (u + Gq) / z := IntWalk.i64_in _ (by omega)
          obtain ⟨Qc, hQc⟩ : ∃ y, (u + c) / z = y := ⟨_, rfl⟩
          obtain ⟨Qg, hQg⟩ : ∃ y, (u + Gq) / z = y := ⟨_, rfl⟩
          obtain ⟨ug, hug⟩ : ∃ y, u + Gq = y := ⟨_, rfl⟩
          obtain ⟨uc2, huc2⟩ : ∃ y, u + c = y := ⟨_, rfl⟩
          have wg' : IntKind.i64.wrap (u + Gq) = ug := wg.trans hug
          have wcc' : IntKind.i64.wrap (u + c) = uc2 := wcc.trans huc2
          rw [hQc, hQg]
          rw [hQc] at dc wq1
          rw [hQg] at dg wq2
          rw [hug] at mg dg
          rw [huc2] at mc2 dc
          have e2 : (Qc == Qc) = true := by simp
          have e3 : (Qg == Qg) = true := by simp
          clear wc' mc hl hg wg wcc q1 q2 kk hb hQc hQg hug huc2 g4
          go_upto_region 32 with fail
          go_quiet (fail)
          obtain ⟨D3, hQD3⟩ : ∃ X, X = W9.drewN nq := ⟨_, rfl⟩
          have qz : Below V4.heap.size V4 D3 := by rw [hQD3]; exact below_drewN qq _
          rw [← hQD3]
          clear hQD3 qq x0 x1 y0 y1 f0 f1
          have qq := qz
          clear qz
          have x0 := (R9x.out.below qq R9x.out.lt).cell 0; have x1 := (R9x.out.below qq R9x.out.lt).cell 1; have y0 := (R10x.out.below qq R10x.out.lt).cell 0; have y1 := (R10x.out.below qq R10x.out.lt).cell 1; have f0 := (R7x.out.below qq R7x.out.lt).cell 0; have f1 := (R7x.out.below qq R7x.out.lt).cell 1
          simp only [List.getElem?_cons_zero, List.getElem?_cons_succ] at x0 x1 y0 y1 f0 f1
          have QE := hid qq
          clear qq
          go_wp2_with fail
          go_ret
          exact ⟨rfl, B4.out.trans (QE.out.mono B4.out.size)⟩
        · have hFx : F ≠ x := by rw [← hF]; exact kk.2.2.2.2.2 c c1 (by omega)
          have e1 : (F == x) = false := by simpa using hFx
          have wc1 : IntKind.i64.wrap (c + 1) = c + 1 := IntWalk.i64_in _ (by omega)
          have REL := hid (And.intro (show LO ≤ c + 1 by omega) (show c + 1 ≤ Lq by omega))
          have MEA := hid (show (HI + 1 - (c + 1)).toNat < (HI + 1 - c).toNat by omega)
          clear wc bF hF huc hFx kk hb c1 c2 hc
          go_upto_region 21 with fail
          go_quiet (fail)
          obtain ⟨D1, hQD1⟩ : ∃ X, X = wr.drewN nq := ⟨_, rfl⟩
          have qz : Below V4.heap.size V4 D1 := by rw [hQD1]; exact below_drewN qq _
          rw [← hQD1]
          clear hQD1 qq x0 x1 y0 y1 f0 f1
          have qq := qz
          clear qz
          have x0 := (R9x.out.below qq R9x.out.lt).cell 0; have x1 := (R9x.out.below qq R9x.out.lt).cell 1; have y0 := (R10x.out.below qq R10x.out.lt).cell 0; have y1 := (R10x.out.below qq R10x.out.lt).cell 1; have f0 := (R7x.out.below qq R7x.out.lt).cell 0; have f1 := (R7x.out.below qq R7x.out.lt).cell 1
          simp only [List.getElem?_cons_zero, List.getElem?_cons_succ] at x0 x1 y0 y1 f0 f1
          go_upto_region 25 with fail
          go_quiet (fail)
          obtain ⟨D2, hQD2⟩ : ∃ X, X = D1.drewN nq := ⟨_, rfl⟩
          have qz : Below V4.heap.size V4 D2 := by rw [hQD2]; exact below_drewN qq _
          rw [← hQD2]
          clear hQD2 qq x0 x1 y0 y1 f0 f1
          have qq := qz
          clear qz
          have x0 := (R9x.out.below qq R9x.out.lt).cell 0; have x1 := (R9x.out.below qq R9x.out.lt).cell 1; have y0 := (R10x.out.below qq R10x.out.lt).cell 0; have y1 := (R10x.out.below qq R10x.out.lt).cell 1; have f0 := (R7x.out.below qq R7x.out.lt).cell 0; have f1 := (R7x.out.below qq R7x.out.lt).cell 1
          simp only [List.getElem?_cons_zero, List.getElem?_cons_succ] at x0 x1 y0 y1 f0 f1
          have QW := hid qq
          clear qq
          go_wp2_with fail
          go_roundw
          case rel => exact ⟨c + 1, rfl, rfl, rfl, REL.out.1, REL.out.2, QW.out⟩
          case measure => simpa [intOf] using MEA.out
    · have z0 : z ≠ 0 := by omega
      have wc : IntKind.i64.wrap (u + LO) = u + LO := IntWalk.i64_in _ (by omega)
      have mc : (u + LO).tmod z = (u + LO) % z := Int.tmod_eq_emod_of_nonneg (by omega)
      have wv : IntKind.i64.wrap (x + D) = x + D := IntWalk.i64_in _ (by omega)
      have mv : (x + D).tmod z = (x + D) % z := Int.tmod_eq_emod_of_nonneg (by omega)
      rw [← k1] at mv
      have bF : 0 ≤ (u + LO) % z ∧ (u + LO) % z < z := ⟨Int.emod_nonneg _ z0, Int.emod_lt_of_pos _ (by omega)⟩
      obtain ⟨F, hF⟩ : ∃ y, (u + LO) % z = y := ⟨_, rfl⟩
      rw [hF] at mc mv k2 bF
      have wF : IntKind.i64.wrap F = F := IntWalk.i64_in _ (by omega)
      have e1 : (F == x) = false := by simpa using k2
      have e2 : (F == F) = true := by simp
      clear k1 k2 hz2 hu hx hD m0 m1 hF bF HRI HCI HCS HBI HBS HSZ KEY BD
      go_upto_region 19 with fail
      go_loopw [21, 24, 25] (fun s21 s24 s25 wr => s21 = .int .i64 D ∧ s24 = .bool false ∧ s25 = .int .i64 LO ∧ Below V4.heap.size V4 wr) (fun _ _ s25 _ => (HI + 1 - intOf s25).toNat)
      case atStart => exact ⟨rfl, rfl, rfl, QQ.out⟩
      case round =>
        obtain ⟨rfl, rfl, rfl, qq⟩ := hrel
        clear x0 x1 y0 y1 f0 f1
        have x0 := (R9x.out.below qq R9x.out.lt).cell 0; have x1 := (R9x.out.below qq R9x.out.lt).cell 1; have y0 := (R10x.out.below qq R10x.out.lt).cell 0; have y1 := (R10x.out.below qq R10x.out.lt).cell 1; have f0 := (R7x.out.below qq R7x.out.lt).cell 0; have f1 := (R7x.out.below qq R7x.out.lt).cell 1
        simp only [List.getElem?_cons_zero, List.getElem?_cons_succ] at x0 x1 y0 y1 f0 f1
        go_upto_region 21 with fail
        go_quiet (fail)
        obtain ⟨D1, hQD1⟩ : ∃ X, X = wr.drewN nq := ⟨_, rfl⟩
        have qz : Below V4.heap.size V4 D1 := by rw [hQD1]; exact below_drewN qq _
        rw [← hQD1]
        clear hQD1 qq x0 x1 y0 y1 f0 f1
        have qq := qz
        clear qz
        have x0 := (R9x.out.below qq R9x.out.lt).cell 0; have x1 := (R9x.out.below qq R9x.out.lt).cell 1; have y0 := (R10x.out.below qq R10x.out.lt).cell 0; have y1 := (R10x.out.below qq R10x.out.lt).cell 1; have f0 := (R7x.out.below qq R7x.out.lt).cell 0; have f1 := (R7x.out.below qq R7x.out.lt).cell 1
        simp only [List.getElem?_cons_zero, List.getElem?_cons_succ] at x0 x1 y0 y1 f0 f1
        go_upto_region 25 with fail
        go_quiet (fail)
        obtain ⟨D2, hQD2⟩ : ∃ X, X = D1.drewN nq := ⟨_, rfl⟩
        have qz : Below V4.heap.size V4 D2 := by rw [hQD2]; exact below_drewN qq _
        rw [← hQD2]
        clear hQD2 qq x0 x1 y0 y1 f0 f1
        have qq := qz
        clear qz
        have x0 := (R9x.out.below qq R9x.out.lt).cell 0; have x1 := (R9x.out.below qq R9x.out.lt).cell 1; have y0 := (R10x.out.below qq R10x.out.lt).cell 0; have y1 := (R10x.out.below qq R10x.out.lt).cell 1; have f0 := (R7x.out.below qq R7x.out.lt).cell 0; have f1 := (R7x.out.below qq R7x.out.lt).cell 1
        simp only [List.getElem?_cons_zero, List.getElem?_cons_succ] at x0 x1 y0 y1 f0 f1
        have QW := hid qq
        clear qq
        go_wp2_with fail
        go_ret
        exact ⟨rfl, B4.out.trans (QW.out.mono B4.out.size)⟩
set_option maxRecDepth 100000 in
set_option maxHeartbeats 1000000 in
theorem law_FnPossible (a : Option Addr) (len cap : Nat) (zs : List Int) (a' : Option Addr) (len' cap' : Nat) (zs' : List Int) (w : World) (h : InB w a len zs) (h' : InB w a' len' zs') :
    Calls Try.prog 3 #[.slice a len cap, .slice a' len' cap'] w fun e w' => e = .returned (.bool true) ∧ Below w.heap.size w w' := by
  by_cases hl : len ≤ 3000 ∧ len' ≤ 3000
  · exact law_FnPossible_in a len cap zs a' len' cap' zs' w h h' hl.1 hl.2
  · have F1 := hid (a2Long_yes a len cap a' len' cap' w (by omega))
    clear h h' hl
    go_enter Try.func3, Try.ntmps3
    go_wp2_with fail
    with_reducible refine F1.out.mono ?_
    rintro e w1 ⟨rfl, hw⟩
    subst hw
    go_wp2_with fail
    go_ret
    exact ⟨rfl, Below.refl _ _⟩
end Go.Proofs.Ytjeleemjckfjoaa
