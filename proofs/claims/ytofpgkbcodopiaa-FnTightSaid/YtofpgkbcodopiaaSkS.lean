/- A wheel that seems to be stuck; the model's. -/
import Derived.Test.YtofpgkbcodopiaaSkM
import Derived.Test.YtofpgkbcodopiaaOfS
import Derived.Test.YtofpgkbcodopiaaEndsT
import Derived.Test.YtofpgkbcodopiaaSizes
import Derived.Test.YtofpgkbcodopiaaHeld
import Derived.OrdersHeld
import Derived.Deep.RegionHeld3
namespace Go.Proofs.Ytofpgkbcodopiaa
open Go.RowKit
set_option linter.unusedVariables false
set_option linter.unusedSimpArgs false
theorem oct_dg (l : List Int) (k : Nat) (hk : k < 8) : ([dg l 0, dg l 1, dg l 2, dg l 3, dg l 4, dg l 5, dg l 6, dg l 7] : List Int)[k]?.getD 0 = dg l k := by
  match k, hk with
  | 0, _ => rfl
  | 1, _ => rfl
  | 2, _ => rfl
  | 3, _ => rfl
  | 4, _ => rfl
  | 5, _ => rfl
  | 6, _ => rfl
  | 7, _ => rfl
theorem row_dg {w : World} {g : Nat} {T : TypeId} {l : List Int} (h : Row w g T [.int .u8 (dg (l) 0), .int .u8 (dg (l) 1), .int .u8 (dg (l) 2), .int .u8 (dg (l) 3), .int .u8 (dg (l) 4), .int .u8 (dg (l) 5), .int .u8 (dg (l) 6), .int .u8 (dg (l) 7)]) (k : Nat) (hk : k < 8) : w.cell? ⟨g, k, none⟩ = some (.int .u8 (dg l k)) := by
  rw [h.cell k]
  match k, hk with
  | 0, _ => rfl
  | 1, _ => rfl
  | 2, _ => rfl
  | 3, _ => rfl
  | 4, _ => rfl
  | 5, _ => rfl
  | 6, _ => rfl
  | 7, _ => rfl
theorem dg_is {zs : List Int} {v : Int} {k : Nat} (hk : k < zs.length) (h8 : zs.length ≤ 8) : dg (dgL zs v) k = dgv zs k v := by
  have := dgL_get zs v k (by omega)
  rw [if_pos hk] at this
  exact this
theorem index_dg (l : List Int) (k : Nat) (hk : k < 8) (w : World) : (Instr.index 43 (.agg #[.int .u8 (dg (l) 0), .int .u8 (dg (l) 1), .int .u8 (dg (l) 2), .int .u8 (dg (l) 3), .int .u8 (dg (l) 4), .int .u8 (dg (l) 5), .int .u8 (dg (l) 6), .int .u8 (dg (l) 7)]) (.int .i64 (k : Int))).run Try.prog w = .ok (.int .u8 (dg l k)) w := by
  rw [index_oct _ _ _ _ _ _ _ _ k hk w, oct_dg l k hk]
theorem anyB_succ (P : Nat → Bool) (k : Nat) : anyB P (k + 1) = (anyB P k || P k) := by unfold anyB; rw [List.range_succ]; simp
/-- a digit above a wheel differs -/
def difP (zs : List Int) (wl : Nat) (v u : Int) (j : Nat) : Bool := decide (wl < j) && (dgv zs j v != dgv zs j u)
theorem difP_low {zs : List Int} {wl : Nat} {v u : Int} : anyB (difP zs wl v u) (wl + 1) = false := anyB_no (fun j hj => by unfold difP; rw [decide_eq_false (by omega)]; rfl)
theorem movP_low {zs : List Int} {js : List (Int × Int)} {wl a : Nat} : anyB (movP zs js wl a) (a + 1) = false := anyB_no (fun j hj => by unfold movP; rw [decide_eq_false (by omega)]; rfl)
theorem difP_all {zs : List Int} (hz : inB zs zs.length) {wl : Nat} (hw : wl < zs.length) {v u : Int} (hv : 0 ≤ v ∧ v < szL zs) (hu : 0 ≤ u ∧ u < szL zs) : anyB (difP zs wl v u) zs.length = (v / szL (zs.take (wl + 1)) != u / szL (zs.take (wl + 1))) := by
  have key := above_iff hz hv hu (zs.length - (wl + 1)) (wl + 1) (by omega)
  cases h : anyB (difP zs wl v u) zs.length with
  | true =>
    symm
    rw [bne_iff_ne]
    intro e
    have h2 := key.1 e
    unfold anyB at h
    rw [List.any_eq_true] at h
    obtain ⟨j, hj, hd⟩ := h
    have hj2 := List.mem_range.1 hj
    unfold difP at hd
    simp only [Bool.and_eq_true, decide_eq_true_eq, bne_iff_ne, ne_eq] at hd
    exact hd.2 (h2 j (by omega) hj2)
  | false =>
    symm
    rw [bne_eq_false_iff_eq]
    refine key.2 (fun j h1 h2 => ?_)
    unfold anyB at h
    rw [List.any_eq_false] at h
    have := h j (List.mem_range.2 h2)
    unfold difP at this
    rw [decide_eq_true (show wl < j by omega)] at this
    simpa using this
set_option maxRecDepth 100000 in
set_option maxHeartbeats 4000000 in
theorem specStuck_any (bS nS capS : Nat) (zs : List Int) (hnS : nS = zs.length) (b n cap : Nat) (js : List (Int × Int)) (hn : n = js.length) (x : Int) (w : World) (hS : Stk w bS zs) (hR : Rst w b js) (hcS : nS ≤ capS) :
    Calls Try.prog 13 #[.slice (some ⟨bS, 0, none⟩) nS capS, .slice (some ⟨b, 0, none⟩) n cap, .int .i64 x] w (GivesB w (tup2 (stuckR zs js x).1 (stuckR zs js x).2)) := by
  have HA := hid (l04Ok_any bS nS capS zs hnS b n cap js hn w hS hR)
  cases hg : okG zs js with
  | false =>
    rw [stuckR_log hg]
    unfold tup2
    rw [hg] at HA
    clear hS hR hn hnS hg hcS
    go_enter Try.func13, Try.ntmps13
    go_wp2_with fail
    with_reducible refine HA.out.mono ?_
    rintro e w1 ⟨rfl, hB⟩
    have Q := hid hB
    clear hB
    go_wp2_with fail
    go_ret2
    exact ⟨by first | rfl | simp, Q.out⟩
  | true =>
    rw [hg] at HA
    obtain ⟨gv, g40, g1, g2⟩ := okG_out hg
    obtain ⟨_, h8, hin, z1, z2⟩ := okL_out gv
    have hn40 : n ≤ 40 := by omega
    have hnS8 : nS ≤ 8 := by omega
    by_cases hx : 0 ≤ x ∧ x < zs.length
    · obtain ⟨wl, rfl⟩ : ∃ wl : Nat, x = (wl : Int) := ⟨x.toNat, by omega⟩
      have hwl : wl < zs.length := by omega
      have HW := hid (fun W => l01Wheel_yes (some ⟨bS, 0, none⟩) nS capS (by omega) (wl : Int) (by omega) W)
      have HD := hid (fun (v : Int) (hv : 0 ≤ v ∧ v ≤ 1000000000000) W (s : Stk W bS zs) => l01Of_any bS nS capS zs hnS gv v hv.1 hv.2 W s)
      have RV := hid (fun i (hi : i < n) => show 0 ≤ rv js i ∧ rv js i < szL zs from by have := okRd_out (g1 i (by omega)); omega)
      have HYES := hid (fun h => stuckR_yes (w := wl) hg hwl h)
      have HNO := hid (fun h => stuckR_no (w := wl) hg hwl h)
      have HZ2 := hid z2
      have HIN := hid hin; have HWL := hid hwl; have HNS := hid hnS; have HN := hid hn
      have CR := hid (fun j (hj : j < n) => hR.2.1 j (by rw [← hn]; exact hj))
      have HLT := hid (show bS < w.heap.size ∧ b < w.heap.size from ⟨hS.1, hR.1⟩)
      have HS := hid hS
      have hwS : wl < nS := by omega
      have hw8 : wl < 8 := by omega
      have HIX := hid (fun l W => index_dg l wl hw8 W)
      obtain ⟨R, hRR⟩ : ∃ R, stuckR zs js (wl : Int) = R := ⟨_, rfl⟩
      rw [hRR] at HYES HNO ⊢
      have wn : IntKind.i64.wrap ((n : Int) - 1) = (n : Int) - 1 := IntWalk.i64_in _ (by omega)
      unfold tup2
      clear hS hR hn hnS hg gv g40 g1 g2 h8 hin z1 z2 hx hwl hRR
      go_enter Try.func13, Try.ntmps13
      go_wp2_with fail
      with_reducible refine HA.out.mono ?_
      rintro e w1 ⟨rfl, hB⟩
      have Q := hid hB
      clear hB
      go_wp2_with fail
      with_reducible refine (HW.out _).mono ?_
      rintro e w2 ⟨rfl, hw⟩
      subst hw
      by_cases hn0 : n = 0
      · have HT := hid (HNO.out (anyB_no (fun j hj => by have := HN.out; omega)))
        have e1 : ((n : Int) - 1) = -1 := by omega
        have e2 : IntKind.i64.wrap ((n : Int) - 1) = -1 := by rw [wn]; exact e1
        have e3 : ¬ (0 : Int) < (n : Int) := by omega
        clear wn e1
        subst hn0
        go_wp2_with fail
        refine wp_loop_rounds 1 ?_
        rw [rounds_succ]
        go_upto_region 7 with fail
        go_quiet (fail)
        go_wp2_with fail
        refine wp_loop_rounds 1 ?_
        rw [rounds_succ]
        go_wp2_with fail
        go_ret2
        exact ⟨by rw [HT.out]; first | rfl | simp, below_drewN Q.out _⟩
      · have n1 : 1 ≤ n := by omega
        have hl1 : (0 : Int) ≤ (n : Int) - 1 := by omega
        obtain ⟨m, hm⟩ : ∃ m : Nat, n - 1 = m := ⟨_, rfl⟩
        have wm : IntKind.i64.wrap ((n : Int) - 1) = (m : Int) := by rw [wn]; omega
        have hSN : sinceN zs js wl = backF (sameP zs js wl n) m := by unfold sinceN; rw [← HN.out, hm]
        have HSN := hid hSN; have HM := hid hm
        have hm0 : (0 : Int) ≤ (m : Int) := by omega
        have hmn : (m : Int) < (n : Int) := by omega
        clear wn hn0 hSN hl1
        go_wp2_with fail
        go_loopw [9] (fun s9 wr => ∃ k : Nat, k ≤ m ∧ s9 = .int .i64 k ∧ backF (sameP zs js wl n) k = sinceN zs js wl ∧ Below w.heap.size w wr) (fun i _ => (intOf i).toNat)
        case atStart => exact ⟨m, Nat.le_refl _, rfl, HSN.out.symm, Q.out⟩
        case round =>
          obtain ⟨k, hk, rfl, hbk, q⟩ := hrel
          have stop : (k = 0 ∨ (0 < k ∧ sameP zs js wl n (k - 1) = false)) ∨ (0 < k ∧ sameP zs js wl n (k - 1) = true) := by
            by_cases c : k = 0
            · exact .inl (.inl c)
            · cases hp : sameP zs js wl n (k - 1) with
              | true => exact .inr ⟨by omega, rfl⟩
              | false => exact .inl (.inr ⟨by omega, rfl⟩)
          have HBK := hid hbk; have HQ := hid q
          rcases stop with stop | ⟨hk0, hp⟩
          · have hat : sinceN zs js wl = k := by
              rcases stop with rfl | ⟨a, b⟩
              · rw [← hbk]; rfl
              · rw [← hbk]; exact backF_no a b
            have HAT := hid hat; have HST := hid stop
            clear hbk hat
            have kk : k = 0 ∨ 0 < k := by omega
            rcases kk with hk0 | hk0
            · have hk1 : ¬ (0 : Int) < (k : Int) := by omega
              have hk2 : ¬ 0 < k := by omega
              have hk3 : decide ((0 : Int) < (k : Int)) = false := decide_eq_false hk1
              clear stop q hk0
              go_upto_region 7 with fail
              go_quiet (fail)
              obtain ⟨D1, hD1⟩ : ∃ X, X = wr.drewN nq := ⟨_, rfl⟩
              have q : Below w.heap.size w D1 := by rw [hD1]; exact below_drewN HQ.out _
              rw [← hD1]
              clear hD1 hk1 hk2 hk3
              have HQ2 := hid q
              have at1 : IntKind.i64.wrap ((k : Int) + 1) = ((k + 1 : Nat) : Int) := by rw [IntWalk.i64_in _ (by omega)]; omega
              have hkp : (0 : Int) ≤ (k : Int) := by omega
              have hkn2 : (k : Int) < (n : Int) := by omega
              have wl1 : IntKind.i64.wrap ((wl : Int) + 1) = ((wl + 1 : Nat) : Int) := by rw [IntWalk.i64_in _ (by omega)]; omega
              have ca := (CR.out k (by omega)).2
              have rva := RV.out k (by omega)
              obtain ⟨va, hva⟩ : ∃ u, rv js k = u := ⟨_, rfl⟩
              rw [hva] at ca rva
              have CA := hid ca; have RVA := hid rva; have HVA := hid hva
              have HDA := hid (fun W s => HD.out va (by have := HZ2.out; omega) W s)
              clear q ca rva hva
              go_wp2_with fail
              go_loopw [10, 11] (fun s10 s11 wr => ∃ i : Nat, k + 1 ≤ i ∧ i ≤ n ∧ s11 = .int .i64 i ∧ s10 = .bool (anyB (movP zs js wl k) i) ∧ Below w.heap.size w wr) (fun _ i _ => n - (intOf i).toNat)
              case atStart => exact ⟨k + 1, Nat.le_refl _, by omega, by first | rfl | go_num, by rw [movP_low], HQ2.out⟩
              case round =>
                obtain ⟨i, hi1, hi2, rfl, rfl, q⟩ := hrel
                by_cases hlt : i < n
                · have hlt' : (i : Int) < (n : Int) := by omega
                  have hi0 : (0 : Int) ≤ (i : Int) := by omega
                  have ci := (CR.out i hlt).2
                  have rvi := RV.out i hlt
                  have hany := anyB_succ (movP zs js wl k) i
                  have hmv : movP zs js wl k i = (rv js k / szL (zs.take (wl + 1)) != rv js i / szL (zs.take (wl + 1))) := by unfold movP; rw [decide_eq_true (show k < i by omega)]; rfl
                  rw [HVA.out] at hmv
                  obtain ⟨vi, hvi⟩ : ∃ u, rv js i = u := ⟨_, rfl⟩
                  rw [hvi] at ci rvi hmv
                  rw [← difP_all HIN.out HWL.out RVA.out rvi, ← HNS.out] at hmv
                  rw [hmv] at hany
                  obtain ⟨mi, hmi⟩ : ∃ r, anyB (movP zs js wl k) i = r := ⟨_, rfl⟩
                  rw [hmi] at hany
                  rw [hmi]
                  have HANY := hid hany
                  have HDI := hid (fun W s => HD.out vi (by have := HZ2.out; omega) W s)
                  have ca2 := (q.cell (p := ⟨b, k * 2 + 1, none⟩) HLT.out.2).trans CA.out
                  have CI := hid ci
                  have HQ3 := hid q
                  clear hany hmv ci rvi hvi hmi q
                  go_wp2_with fail
                  with_reducible refine (HDA.out wr (HS.out.below HQ3.out HLT.out.1)).mono ?_
                  rintro e v3 ⟨rfl, hB⟩
                  have q3 := HQ3.out.trans (hB.mono HQ3.out.size)
                  have rA := Row.new v3 43 [.int .u8 (dg (dgL zs va) 0), .int .u8 (dg (dgL zs va) 1), .int .u8 (dg (dgL zs va) 2), .int .u8 (dg (dgL zs va) 3), .int .u8 (dg (dgL zs va) 4), .int .u8 (dg (dgL zs va) 5), .int .u8 (dg (dgL zs va) 6), .int .u8 (dg (dgL zs va) 7)]
                  have bA : Below v3.heap.size v3 (v3.alloc (.cells #[.int .u8 (dg (dgL zs va) 0), .int .u8 (dg (dgL zs va) 1), .int .u8 (dg (dgL zs va) 2), .int .u8 (dg (dgL zs va) 3), .int .u8 (dg (dgL zs va) 4), .int .u8 (dg (dgL zs va) 5), .int .u8 (dg (dgL zs va) 6), .int .u8 (dg (dgL zs va) 7)] 43)) := (Below.refl _ _).alloc (Nat.le_refl _) _
                  have q4 := q3.trans (bA.mono q3.size)
                  obtain ⟨GA, hGA⟩ : ∃ y, v3.heap.size = y := ⟨_, rfl⟩
                  obtain ⟨V4, hV4⟩ : ∃ y, y = v3.alloc (.cells #[.int .u8 (dg (dgL zs va) 0), .int .u8 (dg (dgL zs va) 1), .int .u8 (dg (dgL zs va) 2), .int .u8 (dg (dgL zs va) 3), .int .u8 (dg (dgL zs va) 4), .int .u8 (dg (dgL zs va) 5), .int .u8 (dg (dgL zs va) 6), .int .u8 (dg (dgL zs va) 7)] 43) := ⟨_, rfl⟩
                  rw [← hV4] at rA q4
                  rw [hGA] at rA
                  have ci2 := (q4.cell (p := ⟨b, i * 2 + 1, none⟩) HLT.out.2).trans CI.out
                  have HRA := hid rA; have HQ4 := hid q4; have HV4 := hid hV4; have HGA := hid hGA
                  have HD4 := hid (HDI.out V4 (HS.out.below q4 HLT.out.1))
                  clear hB q3 rA bA q4 hGA hV4 ca2
                  go_upto_region 14 with fail
                  rw [← HV4.out, HGA.out]
                  go_wp2_with fail
                  with_reducible refine HD4.out.mono ?_
                  rintro e v5 ⟨rfl, hB⟩
                  have q5 := HQ4.out.trans (hB.mono HQ4.out.size)
                  have rA5 := HRA.out.below hB HRA.out.lt
                  have rB := Row.new v5 43 [.int .u8 (dg (dgL zs vi) 0), .int .u8 (dg (dgL zs vi) 1), .int .u8 (dg (dgL zs vi) 2), .int .u8 (dg (dgL zs vi) 3), .int .u8 (dg (dgL zs vi) 4), .int .u8 (dg (dgL zs vi) 5), .int .u8 (dg (dgL zs vi) 6), .int .u8 (dg (dgL zs vi) 7)]
                  have bB : Below v5.heap.size v5 (v5.alloc (.cells #[.int .u8 (dg (dgL zs vi) 0), .int .u8 (dg (dgL zs vi) 1), .int .u8 (dg (dgL zs vi) 2), .int .u8 (dg (dgL zs vi) 3), .int .u8 (dg (dgL zs vi) 4), .int .u8 (dg (dgL zs vi) 5), .int .u8 (dg (dgL zs vi) 6), .int .u8 (dg (dgL zs vi) 7)] 43)) := (Below.refl _ _).alloc (Nat.le_refl _) _
                  have q6 := q5.trans (bB.mono q5.size)
                  have rA6 := rA5.below bB rA5.lt
                  obtain ⟨GB, hGB⟩ : ∃ y, v5.heap.size = y := ⟨_, rfl⟩
                  obtain ⟨V6, hV6⟩ : ∃ y, y = v5.alloc (.cells #[.int .u8 (dg (dgL zs vi) 0), .int .u8 (dg (dgL zs vi) 1), .int .u8 (dg (dgL zs vi) 2), .int .u8 (dg (dgL zs vi) 3), .int .u8 (dg (dgL zs vi) 4), .int .u8 (dg (dgL zs vi) 5), .int .u8 (dg (dgL zs vi) 6), .int .u8 (dg (dgL zs vi) 7)] 43) := ⟨_, rfl⟩
                  rw [← hV6] at rB q6 rA6
                  rw [hGB] at rB
                  have HRA := hid rA6; have HRB := hid rB; have HQ6 := hid q6; have HV6 := hid hV6; have HGB := hid hGB
                  clear hB q5 rA5 rB bB q6 rA6 hGB hV6 ci2
                  go_upto_region 15 with fail
                  rw [← HV6.out, HGB.out]
                  go_wp2_with fail
                  go_loopw [10, 14] (fun s10 s14 wr => ∃ t : Nat, wl + 1 ≤ t ∧ t ≤ nS ∧ s14 = .int .i64 t ∧ s10 = .bool (mi || anyB (difP zs wl va vi) t) ∧ Below V6.heap.size V6 wr) (fun _ i _ => nS - (intOf i).toNat)
                  case atStart => exact ⟨wl + 1, Nat.le_refl _, by omega, by first | rfl | go_num, by rw [difP_low, Bool.or_false], Below.refl _ _⟩
                  case round =>
                    obtain ⟨t, ht1, ht2, rfl, rfl, p⟩ := hrel
                    by_cases htl : t < nS
                    · have htl' : (t : Int) < (nS : Int) := by omega
                      have ht0 : (0 : Int) ≤ (t : Int) := by omega
                      have ht8 : t < 8 := by omega
                      have ht8' : (t : Int) < 8 := by omega
                      have cA := row_dg (HRA.out.below p HRA.out.lt) t ht8
                      have cB := row_dg (HRB.out.below p HRB.out.lt) t ht8
                      have hs := anyB_succ (difP zs wl va vi) t
                      have hdp : difP zs wl va vi t = (dg (dgL zs va) t != dg (dgL zs vi) t) := by
                        unfold difP; rw [decide_eq_true (show wl < t by omega), dg_is (by have := HNS.out; omega) (by have := HNS.out; omega), dg_is (by have := HNS.out; omega) (by have := HNS.out; omega)]; rfl
                      obtain ⟨xa, hxa⟩ : ∃ y, dg (dgL zs va) t = y := ⟨_, rfl⟩
                      obtain ⟨xb, hxb⟩ : ∃ y, dg (dgL zs vi) t = y := ⟨_, rfl⟩
                      rw [hxa] at cA hdp
                      rw [hxb] at cB hdp
                      rw [hdp] at hs
                      obtain ⟨cur, hcur⟩ : ∃ r, (mi || anyB (difP zs wl va vi) t) = r := ⟨_, rfl⟩
                      have hnext : (mi || anyB (difP zs wl va vi) (t + 1)) = (cur || (xa != xb)) := by rw [hs, ← Bool.or_assoc, hcur]
                      rw [hcur]
                      have HNX := hid hnext; have HP := hid p
                      clear hs hdp hcur hnext p hxa hxb
                      cases cur with
                      | true =>
                        go_upto_region 18 with fail
                        go_quiet (fail)
                        go_wp2_with fail
                        go_roundw
                        case rel => exact ⟨t + 1, by omega, by omega, by first | rfl | go_num, by rw [HNX.out]; rfl, below_drewN HP.out _⟩
                        case measure => simp [intOf]; omega
                      | false =>
                        obtain ⟨ne, hne⟩ : ∃ r, (xa != xb) = r := ⟨_, rfl⟩
                        have HNE := hid hne
                        cases ne with
                        | true =>
                          go_upto_region 18 with fail
                          go_quiet (fail)
                          go_wp2_with fail
                          go_roundw
                          case rel => exact ⟨t + 1, by omega, by omega, by first | rfl | go_num, by rw [HNX.out, HNE.out]; rfl, below_drewN HP.out _⟩
                          case measure => simp [intOf]; omega
                        | false =>
                          go_upto_region 18 with fail
                          go_quiet (fail)
                          go_wp2_with fail
                          go_roundw
                          case rel => exact ⟨t + 1, by omega, by omega, by first | rfl | go_num, by rw [HNX.out, HNE.out]; rfl, below_drewN HP.out _⟩
                          case measure => simp [intOf]; omega
                    · have htn : t = nS := by omega
                      have hge : ¬ (t : Int) < (nS : Int) := by omega
                      have HP := hid (HQ6.out.trans (p.mono HQ6.out.size))
                      rw [htn]
                      rw [← HANY.out]
                      have HTN := hid htn
                      clear p htn
                      go_wp2_with fail
                      go_roundw
                      case rel => exact ⟨i + 1, by omega, by omega, by first | rfl | go_num, rfl, HP.out⟩
                      case measure => simp [intOf]; omega
                · have hin : i = n := by omega
                  subst hin
                  have hge : ¬ (i : Int) < (i : Int) := by omega
                  have HQ3 := hid q
                  clear q hlt
                  cases hfin : anyB (movP zs js wl k) i with
                  | true =>
                    have HT := hid (HYES.out (by rw [HAT.out, ← HN.out]; exact hfin))
                    rw [HAT.out] at HT
                    clear hfin
                    go_wp2_with fail
                    go_ret2
                    exact ⟨by rw [HT.out]; first | rfl | simp, HQ3.out⟩
                  | false =>
                    have HT := hid (HNO.out (by rw [HAT.out, ← HN.out]; exact hfin))
                    clear hfin
                    go_wp2_with fail
                    go_ret2
                    exact ⟨by rw [HT.out]; first | rfl | simp, HQ3.out⟩
            · have hp : sameP zs js wl n (k - 1) = false := by
                rcases HST.out with e | e
                · omega
                · exact e.2
              clear stop
              obtain ⟨Kp, hK⟩ : ∃ Kp, k - 1 = Kp := ⟨_, rfl⟩
              have wk : IntKind.i64.wrap ((k : Int) - 1) = (Kp : Int) := by rw [IntWalk.i64_in _ (by omega)]; omega
              have hK0 : (0 : Int) ≤ (Kp : Int) := by omega
              have hKn : (Kp : Int) < (n : Int) := by omega
              have hk1 : (0 : Int) < (k : Int) := by omega
              have cu := (CR.out Kp (by omega)).2
              have cl := (CR.out m (by omega)).2
              have rvu := RV.out Kp (by omega); have rvl := RV.out m (by omega)
              rw [hK] at hp
              have hpe : (dgv zs wl (rv js Kp) == dgv zs wl (rv js m)) = false := by have h := hp; unfold sameP dgJ at h; rw [HM.out] at h; exact h
              obtain ⟨u, hu⟩ : ∃ u, rv js Kp = u := ⟨_, rfl⟩
              obtain ⟨ul, hul⟩ : ∃ u, rv js m = u := ⟨_, rfl⟩
              rw [hu] at cu hpe rvu
              rw [hul] at cl hpe rvl
              rw [← dg_is HWL.out (by have := HNS.out; omega), ← dg_is HWL.out (by have := HNS.out; omega)] at hpe
              have CU := hid cu; have CL := hid cl
              have HDU := hid (fun W s => HD.out u (by have := HZ2.out; omega) W s)
              have HDL := hid (fun W s => HD.out ul (by have := HZ2.out; omega) W s)
              have ixu := HIX.out (dgL zs u)
              have ixl := HIX.out (dgL zs ul)
              obtain ⟨du, hdu⟩ : ∃ y, dg (dgL zs u) wl = y := ⟨_, rfl⟩
              obtain ⟨dl, hdl⟩ : ∃ y, dg (dgL zs ul) wl = y := ⟨_, rfl⟩
              rw [hdu] at ixu hpe
              rw [hdl] at ixl hpe
              have HKK := hid hK
              clear hK cu cl rvu rvl hu hul hp hdu hdl
              go_upto_region 7 with fail
              refine wp_region_held (S := fun W' : World => W'.cell? ⟨b, Kp * 2 + 1, none⟩ = some (.int .i64 u) ∧ W'.cell? ⟨b, m * 2 + 1, none⟩ = some (.int .i64 ul)) (by kernel_rfl) ?_
              change wpAnyH _ _ _ _ _ _ _ _ (World.drew _)
              obtain ⟨W0, hW0⟩ : ∃ X, X = World.drew wr := ⟨_, rfl⟩
              have q0 : Below w.heap.size w W0 := by rw [hW0]; exact q.drew
              have hS0 : (fun W' : World => W'.cell? ⟨b, Kp * 2 + 1, none⟩ = some (.int .i64 u) ∧ W'.cell? ⟨b, m * 2 + 1, none⟩ = some (.int .i64 ul)) W0 := ⟨(q0.cell (p := ⟨b, Kp * 2 + 1, none⟩) HLT.out.2).trans CU.out, (q0.cell (p := ⟨b, m * 2 + 1, none⟩) HLT.out.2).trans CL.out⟩
              rw [← hW0]
              clear hW0 q
              refine wpAnyH_takeD (some 27) (i := 0) (v := ?_) rfl rfl (by kernel_rfl) (by kernel_rfl) (by kernel_rfl) (fun _ _ _ h => h) (.inl ⟨by kernel_rfl, ?_⟩) hS0 ?_
              rotate_left
              · intro w' hw'; go_simp; try with_reducible rfl
              try simp only [Act.put, List.setIfInBounds_toArray, List.set_cons_zero, List.set_cons_succ]
              refine wpAnyH_takeD (some 28) (i := 1) (v := ?_) rfl rfl (by kernel_rfl) (by kernel_rfl) (by kernel_rfl) (fun _ _ _ h => h) (.inl ⟨by kernel_rfl, ?_⟩) hS0 ?_
              rotate_left
              · intro w' hw'; go_simp; try with_reducible rfl
              try simp only [Act.put, List.setIfInBounds_toArray, List.set_cons_zero, List.set_cons_succ]
              refine wpAnyH_takeD (some 29) (i := 2) (v := ?_) rfl rfl (by kernel_rfl) (by kernel_rfl) (by kernel_rfl) (fun _ _ _ h => h) (.inl ⟨by kernel_rfl, ?_⟩) hS0 ?_
              rotate_left
              · intro w' hw'; go_simp; try with_reducible rfl
              try simp only [Act.put, List.setIfInBounds_toArray, List.set_cons_zero, List.set_cons_succ]
              refine wpAnyH_takeD (some 30) (i := 3) (v := ?_) rfl rfl (by kernel_rfl) (by kernel_rfl) (by kernel_rfl) (fun _ _ _ h => h) (.inl ⟨by kernel_rfl, ?_⟩) hS0 ?_
              rotate_left
              · intro w' hw'; go_simp; try with_reducible rfl
              try simp only [Act.put, List.setIfInBounds_toArray, List.set_cons_zero, List.set_cons_succ]
              refine wpAnyH_takeD (some 31) (i := 4) (v := ?_) rfl rfl (by kernel_rfl) (by kernel_rfl) (by kernel_rfl) (fun _ _ _ h => h) (.inl ⟨by kernel_rfl, ?_⟩) hS0 ?_
              rotate_left
              · intro w' hw'; go_simp; try with_reducible rfl
              try simp only [Act.put, List.setIfInBounds_toArray, List.set_cons_zero, List.set_cons_succ]
              refine wpAnyH_takeD (some 32) (i := 5) (v := ?_) rfl rfl (by kernel_rfl) (by kernel_rfl) (by kernel_rfl) (fun _ _ _ h => h) (.inl ⟨by kernel_rfl, ?_⟩) hS0 ?_
              rotate_left
              · intro w' hw'; go_simp; try with_reducible rfl
              try simp only [Act.put, List.setIfInBounds_toArray, List.set_cons_zero, List.set_cons_succ]
              refine wpAnyH_takeD (some 33) (i := 6) (v := ?_) rfl rfl (by kernel_rfl) (by kernel_rfl) (by kernel_rfl) (fun _ _ _ h => h) (.inl ⟨by kernel_rfl, ?_⟩) hS0 ?_
              rotate_left
              · intro w' hw'; go_simp; try with_reducible rfl
              try simp only [Act.put, List.setIfInBounds_toArray, List.set_cons_zero, List.set_cons_succ]
              refine wpAnyH_takeD (some 34) (i := 7) (v := ?_) rfl rfl (by kernel_rfl) (by kernel_rfl) (by kernel_rfl) (fun _ _ _ h => h) (.inl ⟨by kernel_rfl, ?_⟩) hS0 ?_
              rotate_left
              · intro w' hw'; obtain ⟨g3, g4⟩ := hw'; go_simp; try with_reducible rfl
              try simp only [Act.put, List.setIfInBounds_toArray, List.set_cons_zero, List.set_cons_succ]
              refine wpAnyH_takeD (some 35) (i := 8) (v := ?_) rfl rfl (by kernel_rfl) (by kernel_rfl) (by kernel_rfl) (fun _ _ _ h => h) (.inl ⟨by kernel_rfl, ?_⟩) hS0 ?_
              rotate_left
              · intro w' hw'; obtain ⟨g3, g4⟩ := hw'; go_simp; try with_reducible rfl
              try simp only [Act.put, List.setIfInBounds_toArray, List.set_cons_zero, List.set_cons_succ]
              refine wpAnyH_takeD (some 36) (i := 9) (v := ?_) rfl rfl (by kernel_rfl) (by kernel_rfl) (by kernel_rfl) (fun _ _ _ h => h) (.inl ⟨by kernel_rfl, ?_⟩) hS0 ?_
              rotate_left
              · intro w' hw'; obtain ⟨g3, g4⟩ := hw'; go_simp; try with_reducible rfl
              try simp only [Act.put, List.setIfInBounds_toArray, List.set_cons_zero, List.set_cons_succ]
              refine wpAnyH_takeD (some 38) (i := 11) (v := ?_) rfl rfl (by kernel_rfl) (by kernel_rfl) (by kernel_rfl) (fun _ _ _ h => h) (.inl ⟨by kernel_rfl, ?_⟩) hS0 ?_
              rotate_left
              · intro w' hw'; go_simp; try with_reducible rfl
              try simp only [Act.put, List.setIfInBounds_toArray, List.set_cons_zero, List.set_cons_succ]
              refine wpAnyH_takeD (some 40) (i := 13) (v := ?_) rfl rfl (by kernel_rfl) (by kernel_rfl) (by kernel_rfl) (fun _ _ _ h => h) (.inl ⟨by kernel_rfl, ?_⟩) hS0 ?_
              rotate_left
              · intro w' hw'; go_simp; try with_reducible rfl
              try simp only [Act.put, List.setIfInBounds_toArray, List.set_cons_zero, List.set_cons_succ]
              refine wpAnyH_takeD (some 41) (i := 14) (v := ?_) rfl rfl (by kernel_rfl) (by kernel_rfl) (by kernel_rfl) (fun _ _ _ h => h) (.inl ⟨by kernel_rfl, ?_⟩) hS0 ?_
              rotate_left
              · intro w' hw'; go_simp; try with_reducible rfl
              try simp only [Act.put, List.setIfInBounds_toArray, List.set_cons_zero, List.set_cons_succ]
              refine wpAnyH_takeD (some 42) (i := 15) (v := ?_) rfl rfl (by kernel_rfl) (by kernel_rfl) (by kernel_rfl) (fun _ _ _ h => h) (.inl ⟨by kernel_rfl, ?_⟩) hS0 ?_
              rotate_left
              · intro w' hw'; go_simp; try with_reducible rfl
              try simp only [Act.put, List.setIfInBounds_toArray, List.set_cons_zero, List.set_cons_succ]
              refine wpAnyH_takeD (some 43) (i := 16) (v := ?_) rfl rfl (by kernel_rfl) (by kernel_rfl) (by kernel_rfl) (fun _ _ _ h => h) (.inl ⟨by kernel_rfl, ?_⟩) hS0 ?_
              rotate_left
              · intro w' hw'; go_simp; try with_reducible rfl
              try simp only [Act.put, List.setIfInBounds_toArray, List.set_cons_zero, List.set_cons_succ]
              refine wpAnyH_takeD (some 44) (i := 17) (v := ?_) rfl rfl (by kernel_rfl) (by kernel_rfl) (by kernel_rfl) (fun _ _ _ h => h) (.inl ⟨by kernel_rfl, ?_⟩) hS0 ?_
              rotate_left
              · intro w' hw'; obtain ⟨g3, g4⟩ := hw'; go_simp; try with_reducible rfl
              try simp only [Act.put, List.setIfInBounds_toArray, List.set_cons_zero, List.set_cons_succ]
              refine wpAnyH_takeD (some 45) (i := 18) (v := ?_) rfl rfl (by kernel_rfl) (by kernel_rfl) (by kernel_rfl) (fun _ _ _ h => h) (.inl ⟨by kernel_rfl, ?_⟩) hS0 ?_
              rotate_left
              · intro w' hw'; obtain ⟨g3, g4⟩ := hw'; go_simp; try with_reducible rfl
              try simp only [Act.put, List.setIfInBounds_toArray, List.set_cons_zero, List.set_cons_succ]
              refine wpAnyH_takeD (some 46) (i := 19) (v := ?_) rfl rfl (by kernel_rfl) (by kernel_rfl) (by kernel_rfl) (fun _ _ _ h => h) (.inl ⟨by kernel_rfl, ?_⟩) hS0 ?_
              rotate_left
              · intro w' hw'; obtain ⟨g3, g4⟩ := hw'; go_simp; try with_reducible rfl
              try simp only [Act.put, List.setIfInBounds_toArray, List.set_cons_zero, List.set_cons_succ]
              refine wpAnyH_takeD (some 48) (i := 21) (v := ?_) rfl rfl (by kernel_rfl) (by kernel_rfl) (by kernel_rfl) (fun _ _ _ h => h) (.inl ⟨by kernel_rfl, ?_⟩) hS0 ?_
              rotate_left
              · intro w' hw'; go_simp; try with_reducible rfl
              try simp only [Act.put, List.setIfInBounds_toArray, List.set_cons_zero, List.set_cons_succ]
              refine wpAnyH_all (rs := [10]) (by kernel_rfl) (by simp) ?_
              intro i hi; simp only [List.mem_cons, List.not_mem_nil, or_false] at hi
              subst hi
              refine wpOp_step rfl (fun K hK => ?_)
              go_simp
              with_reducible refine (HDU.out W0 (HS.out.below q0 HLT.out.1)).mono ?_
              rintro e v1 ⟨rfl, hB⟩
              have q1 := q0.trans (hB.mono q0.size)
              clear hB
              have hS1 : (fun W' : World => W'.cell? ⟨b, Kp * 2 + 1, none⟩ = some (.int .i64 u) ∧ W'.cell? ⟨b, m * 2 + 1, none⟩ = some (.int .i64 ul)) v1 := ⟨(q1.cell (p := ⟨b, Kp * 2 + 1, none⟩) HLT.out.2).trans CU.out, (q1.cell (p := ⟨b, m * 2 + 1, none⟩) HLT.out.2).trans CL.out⟩
              refine hK _ _ ⟨hS1, ?_⟩
              try simp only [Act.put, List.setIfInBounds_toArray, List.set_cons_zero, List.set_cons_succ]
              clear hK K
              refine wpAnyH_takeD (some 39) (i := 12) (v := ?_) rfl rfl (by kernel_rfl) (by kernel_rfl) (by kernel_rfl) (fun _ _ _ h => h) (.inl ⟨by kernel_rfl, ?_⟩) hS1 ?_
              rotate_left
              · intro w' hw'; obtain ⟨g3, g4⟩ := hw'; go_simp; try with_reducible rfl
              try simp only [Act.put, List.setIfInBounds_toArray, List.set_cons_zero, List.set_cons_succ]
              refine wpAnyH_all (rs := [20]) (by kernel_rfl) (by simp) ?_
              intro i hi; simp only [List.mem_cons, List.not_mem_nil, or_false] at hi
              subst hi
              refine wpOp_step rfl (fun K hK => ?_)
              go_simp
              with_reducible refine (HDL.out v1 (HS.out.below q1 HLT.out.1)).mono ?_
              rintro e v2 ⟨rfl, hB⟩
              have q2 := q1.trans (hB.mono q1.size)
              clear hB
              have hS2 : (fun W' : World => W'.cell? ⟨b, Kp * 2 + 1, none⟩ = some (.int .i64 u) ∧ W'.cell? ⟨b, m * 2 + 1, none⟩ = some (.int .i64 ul)) v2 := ⟨(q2.cell (p := ⟨b, Kp * 2 + 1, none⟩) HLT.out.2).trans CU.out, (q2.cell (p := ⟨b, m * 2 + 1, none⟩) HLT.out.2).trans CL.out⟩
              refine hK _ _ ⟨hS2, ?_⟩
              try simp only [Act.put, List.setIfInBounds_toArray, List.set_cons_zero, List.set_cons_succ]
              clear hK K
              refine wpAnyH_takeD (some 49) (i := 22) (v := ?_) rfl rfl (by kernel_rfl) (by kernel_rfl) (by kernel_rfl) (fun _ _ _ h => h) (.inl ⟨by kernel_rfl, ?_⟩) hS2 ?_
              rotate_left
              · intro w' hw'; obtain ⟨g3, g4⟩ := hw'; go_simp; try with_reducible rfl
              try simp only [Act.put, List.setIfInBounds_toArray, List.set_cons_zero, List.set_cons_succ]
              refine wpAnyH_takeD (some 50) (i := 23) (v := ?_) rfl rfl (by kernel_rfl) (by kernel_rfl) (by kernel_rfl) (fun _ _ _ h => h) (.inl ⟨by kernel_rfl, ?_⟩) hS2 ?_
              rotate_left
              · intro w' hw'; go_simp; try with_reducible rfl
              try simp only [Act.put, List.setIfInBounds_toArray, List.set_cons_zero, List.set_cons_succ]
              refine wpAnyH_takeD (some 51) (i := 24) (v := ?_) rfl rfl (by kernel_rfl) (by kernel_rfl) (by kernel_rfl) (fun _ _ _ h => h) (.inl ⟨by kernel_rfl, ?_⟩) hS2 ?_
              rotate_left
              · intro w' hw'; go_simp; try with_reducible rfl
              try simp only [Act.put, List.setIfInBounds_toArray, List.set_cons_zero, List.set_cons_succ]
              refine wpAnyH_done (by kernel_rfl) ?_ _
              have q := q2
              clear hS0 hS1 hS2 q0 q1 q2
              have HQ2 := hid q
              have at1 : IntKind.i64.wrap ((k : Int) + 1) = ((k + 1 : Nat) : Int) := by rw [IntWalk.i64_in _ (by omega)]; omega
              have hkp : (0 : Int) ≤ (k : Int) := by omega
              have hkn2 : (k : Int) < (n : Int) := by omega
              have wl1 : IntKind.i64.wrap ((wl : Int) + 1) = ((wl + 1 : Nat) : Int) := by rw [IntWalk.i64_in _ (by omega)]; omega
              have ca := (CR.out k (by omega)).2
              have rva := RV.out k (by omega)
              obtain ⟨va, hva⟩ : ∃ u, rv js k = u := ⟨_, rfl⟩
              rw [hva] at ca rva
              have CA := hid ca; have RVA := hid rva; have HVA := hid hva
              have HDA := hid (fun W s => HD.out va (by have := HZ2.out; omega) W s)
              clear q ca rva hva
              go_wp2_with fail
              go_loopw [10, 11] (fun s10 s11 wr => ∃ i : Nat, k + 1 ≤ i ∧ i ≤ n ∧ s11 = .int .i64 i ∧ s10 = .bool (anyB (movP zs js wl k) i) ∧ Below w.heap.size w wr) (fun _ i _ => n - (intOf i).toNat)
              case atStart => exact ⟨k + 1, Nat.le_refl _, by omega, by first | rfl | go_num, by rw [movP_low], HQ2.out⟩
              case round =>
                obtain ⟨i, hi1, hi2, rfl, rfl, q⟩ := hrel
                by_cases hlt : i < n
                · have hlt' : (i : Int) < (n : Int) := by omega
                  have hi0 : (0 : Int) ≤ (i : Int) := by omega
                  have ci := (CR.out i hlt).2
                  have rvi := RV.out i hlt
                  have hany := anyB_succ (movP zs js wl k) i
                  have hmv : movP zs js wl k i = (rv js k / szL (zs.take (wl + 1)) != rv js i / szL (zs.take (wl + 1))) := by unfold movP; rw [decide_eq_true (show k < i by omega)]; rfl
                  rw [HVA.out] at hmv
                  obtain ⟨vi, hvi⟩ : ∃ u, rv js i = u := ⟨_, rfl⟩
                  rw [hvi] at ci rvi hmv
                  rw [← difP_all HIN.out HWL.out RVA.out rvi, ← HNS.out] at hmv
                  rw [hmv] at hany
                  obtain ⟨mi, hmi⟩ : ∃ r, anyB (movP zs js wl k) i = r := ⟨_, rfl⟩
                  rw [hmi] at hany
                  rw [hmi]
                  have HANY := hid hany
                  have HDI := hid (fun W s => HD.out vi (by have := HZ2.out; omega) W s)
                  have ca2 := (q.cell (p := ⟨b, k * 2 + 1, none⟩) HLT.out.2).trans CA.out
                  have CI := hid ci
                  have HQ3 := hid q
                  clear hany hmv ci rvi hvi hmi q
                  go_wp2_with fail
                  with_reducible refine (HDA.out wr (HS.out.below HQ3.out HLT.out.1)).mono ?_
                  rintro e v3 ⟨rfl, hB⟩
                  have q3 := HQ3.out.trans (hB.mono HQ3.out.size)
                  have rA := Row.new v3 43 [.int .u8 (dg (dgL zs va) 0), .int .u8 (dg (dgL zs va) 1), .int .u8 (dg (dgL zs va) 2), .int .u8 (dg (dgL zs va) 3), .int .u8 (dg (dgL zs va) 4), .int .u8 (dg (dgL zs va) 5), .int .u8 (dg (dgL zs va) 6), .int .u8 (dg (dgL zs va) 7)]
                  have bA : Below v3.heap.size v3 (v3.alloc (.cells #[.int .u8 (dg (dgL zs va) 0), .int .u8 (dg (dgL zs va) 1), .int .u8 (dg (dgL zs va) 2), .int .u8 (dg (dgL zs va) 3), .int .u8 (dg (dgL zs va) 4), .int .u8 (dg (dgL zs va) 5), .int .u8 (dg (dgL zs va) 6), .int .u8 (dg (dgL zs va) 7)] 43)) := (Below.refl _ _).alloc (Nat.le_refl _) _
                  have q4 := q3.trans (bA.mono q3.size)
                  obtain ⟨GA, hGA⟩ : ∃ y, v3.heap.size = y := ⟨_, rfl⟩
                  obtain ⟨V4, hV4⟩ : ∃ y, y = v3.alloc (.cells #[.int .u8 (dg (dgL zs va) 0), .int .u8 (dg (dgL zs va) 1), .int .u8 (dg (dgL zs va) 2), .int .u8 (dg (dgL zs va) 3), .int .u8 (dg (dgL zs va) 4), .int .u8 (dg (dgL zs va) 5), .int .u8 (dg (dgL zs va) 6), .int .u8 (dg (dgL zs va) 7)] 43) := ⟨_, rfl⟩
                  rw [← hV4] at rA q4
                  rw [hGA] at rA
                  have ci2 := (q4.cell (p := ⟨b, i * 2 + 1, none⟩) HLT.out.2).trans CI.out
                  have HRA := hid rA; have HQ4 := hid q4; have HV4 := hid hV4; have HGA := hid hGA
                  have HD4 := hid (HDI.out V4 (HS.out.below q4 HLT.out.1))
                  clear hB q3 rA bA q4 hGA hV4 ca2
                  go_upto_region 14 with fail
                  rw [← HV4.out, HGA.out]
                  go_wp2_with fail
                  with_reducible refine HD4.out.mono ?_
                  rintro e v5 ⟨rfl, hB⟩
                  have q5 := HQ4.out.trans (hB.mono HQ4.out.size)
                  have rA5 := HRA.out.below hB HRA.out.lt
                  have rB := Row.new v5 43 [.int .u8 (dg (dgL zs vi) 0), .int .u8 (dg (dgL zs vi) 1), .int .u8 (dg (dgL zs vi) 2), .int .u8 (dg (dgL zs vi) 3), .int .u8 (dg (dgL zs vi) 4), .int .u8 (dg (dgL zs vi) 5), .int .u8 (dg (dgL zs vi) 6), .int .u8 (dg (dgL zs vi) 7)]
                  have bB : Below v5.heap.size v5 (v5.alloc (.cells #[.int .u8 (dg (dgL zs vi) 0), .int .u8 (dg (dgL zs vi) 1), .int .u8 (dg (dgL zs vi) 2), .int .u8 (dg (dgL zs vi) 3), .int .u8 (dg (dgL zs vi) 4), .int .u8 (dg (dgL zs vi) 5), .int .u8 (dg (dgL zs vi) 6), .int .u8 (dg (dgL zs vi) 7)] 43)) := (Below.refl _ _).alloc (Nat.le_refl _) _
                  have q6 := q5.trans (bB.mono q5.size)
                  have rA6 := rA5.below bB rA5.lt
                  obtain ⟨GB, hGB⟩ : ∃ y, v5.heap.size = y := ⟨_, rfl⟩
                  obtain ⟨V6, hV6⟩ : ∃ y, y = v5.alloc (.cells #[.int .u8 (dg (dgL zs vi) 0), .int .u8 (dg (dgL zs vi) 1), .int .u8 (dg (dgL zs vi) 2), .int .u8 (dg (dgL zs vi) 3), .int .u8 (dg (dgL zs vi) 4), .int .u8 (dg (dgL zs vi) 5), .int .u8 (dg (dgL zs vi) 6), .int .u8 (dg (dgL zs vi) 7)] 43) := ⟨_, rfl⟩
                  rw [← hV6] at rB q6 rA6
                  rw [hGB] at rB
                  have HRA := hid rA6; have HRB := hid rB; have HQ6 := hid q6; have HV6 := hid hV6; have HGB := hid hGB
                  clear hB q5 rA5 rB bB q6 rA6 hGB hV6 ci2
                  go_upto_region 15 with fail
                  rw [← HV6.out, HGB.out]
                  go_wp2_with fail
                  go_loopw [10, 14] (fun s10 s14 wr => ∃ t : Nat, wl + 1 ≤ t ∧ t ≤ nS ∧ s14 = .int .i64 t ∧ s10 = .bool (mi || anyB (difP zs wl va vi) t) ∧ Below V6.heap.size V6 wr) (fun _ i _ => nS - (intOf i).toNat)
                  case atStart => exact ⟨wl + 1, Nat.le_refl _, by omega, by first | rfl | go_num, by rw [difP_low, Bool.or_false], Below.refl _ _⟩
                  case round =>
                    obtain ⟨t, ht1, ht2, rfl, rfl, p⟩ := hrel
                    by_cases htl : t < nS
                    · have htl' : (t : Int) < (nS : Int) := by omega
                      have ht0 : (0 : Int) ≤ (t : Int) := by omega
                      have ht8 : t < 8 := by omega
                      have ht8' : (t : Int) < 8 := by omega
                      have cA := row_dg (HRA.out.below p HRA.out.lt) t ht8
                      have cB := row_dg (HRB.out.below p HRB.out.lt) t ht8
                      have hs := anyB_succ (difP zs wl va vi) t
                      have hdp : difP zs wl va vi t = (dg (dgL zs va) t != dg (dgL zs vi) t) := by
                        unfold difP; rw [decide_eq_true (show wl < t by omega), dg_is (by have := HNS.out; omega) (by have := HNS.out; omega), dg_is (by have := HNS.out; omega) (by have := HNS.out; omega)]; rfl
                      obtain ⟨xa, hxa⟩ : ∃ y, dg (dgL zs va) t = y := ⟨_, rfl⟩
                      obtain ⟨xb, hxb⟩ : ∃ y, dg (dgL zs vi) t = y := ⟨_, rfl⟩
                      rw [hxa] at cA hdp
                      rw [hxb] at cB hdp
                      rw [hdp] at hs
                      obtain ⟨cur, hcur⟩ : ∃ r, (mi || anyB (difP zs wl va vi) t) = r := ⟨_, rfl⟩
                      have hnext : (mi || anyB (difP zs wl va vi) (t + 1)) = (cur || (xa != xb)) := by rw [hs, ← Bool.or_assoc, hcur]
                      rw [hcur]
                      have HNX := hid hnext; have HP := hid p
                      clear hs hdp hcur hnext p hxa hxb
                      cases cur with
                      | true =>
                        go_upto_region 18 with fail
                        go_quiet (fail)
                        go_wp2_with fail
                        go_roundw
                        case rel => exact ⟨t + 1, by omega, by omega, by first | rfl | go_num, by rw [HNX.out]; rfl, below_drewN HP.out _⟩
                        case measure => simp [intOf]; omega
                      | false =>
                        obtain ⟨ne, hne⟩ : ∃ r, (xa != xb) = r := ⟨_, rfl⟩
                        have HNE := hid hne
                        cases ne with
                        | true =>
                          go_upto_region 18 with fail
                          go_quiet (fail)
                          go_wp2_with fail
                          go_roundw
                          case rel => exact ⟨t + 1, by omega, by omega, by first | rfl | go_num, by rw [HNX.out, HNE.out]; rfl, below_drewN HP.out _⟩
                          case measure => simp [intOf]; omega
                        | false =>
                          go_upto_region 18 with fail
                          go_quiet (fail)
                          go_wp2_with fail
                          go_roundw
                          case rel => exact ⟨t + 1, by omega, by omega, by first | rfl | go_num, by rw [HNX.out, HNE.out]; rfl, below_drewN HP.out _⟩
                          case measure => simp [intOf]; omega
                    · have htn : t = nS := by omega
                      have hge : ¬ (t : Int) < (nS : Int) := by omega
                      have HP := hid (HQ6.out.trans (p.mono HQ6.out.size))
                      rw [htn]
                      rw [← HANY.out]
                      have HTN := hid htn
                      clear p htn
                      go_wp2_with fail
                      go_roundw
                      case rel => exact ⟨i + 1, by omega, by omega, by first | rfl | go_num, rfl, HP.out⟩
                      case measure => simp [intOf]; omega
                · have hin : i = n := by omega
                  subst hin
                  have hge : ¬ (i : Int) < (i : Int) := by omega
                  have HQ3 := hid q
                  clear q hlt
                  cases hfin : anyB (movP zs js wl k) i with
                  | true =>
                    have HT := hid (HYES.out (by rw [HAT.out, ← HN.out]; exact hfin))
                    rw [HAT.out] at HT
                    clear hfin
                    go_wp2_with fail
                    go_ret2
                    exact ⟨by rw [HT.out]; first | rfl | simp, HQ3.out⟩
                  | false =>
                    have HT := hid (HNO.out (by rw [HAT.out, ← HN.out]; exact hfin))
                    clear hfin
                    go_wp2_with fail
                    go_ret2
                    exact ⟨by rw [HT.out]; first | rfl | simp, HQ3.out⟩
          · have HB2 := hid (backF_yes hk0 hp)
            clear hbk
            obtain ⟨Kp, hK⟩ : ∃ Kp, k - 1 = Kp := ⟨_, rfl⟩
            have wk : IntKind.i64.wrap ((k : Int) - 1) = (Kp : Int) := by rw [IntWalk.i64_in _ (by omega)]; omega
            have hK0 : (0 : Int) ≤ (Kp : Int) := by omega
            have hKn : (Kp : Int) < (n : Int) := by omega
            have hk1 : (0 : Int) < (k : Int) := by omega
            have cu := (CR.out Kp (by omega)).2
            have cl := (CR.out m (by omega)).2
            have rvu := RV.out Kp (by omega); have rvl := RV.out m (by omega)
            rw [hK] at hp
            have hpe : (dgv zs wl (rv js Kp) == dgv zs wl (rv js m)) = true := by have h := hp; unfold sameP dgJ at h; rw [HM.out] at h; exact h
            obtain ⟨u, hu⟩ : ∃ u, rv js Kp = u := ⟨_, rfl⟩
            obtain ⟨ul, hul⟩ : ∃ u, rv js m = u := ⟨_, rfl⟩
            rw [hu] at cu hpe rvu
            rw [hul] at cl hpe rvl
            rw [← dg_is HWL.out (by have := HNS.out; omega), ← dg_is HWL.out (by have := HNS.out; omega)] at hpe
            have CU := hid cu; have CL := hid cl
            have HDU := hid (fun W s => HD.out u (by have := HZ2.out; omega) W s)
            have HDL := hid (fun W s => HD.out ul (by have := HZ2.out; omega) W s)
            have ixu := HIX.out (dgL zs u)
            have ixl := HIX.out (dgL zs ul)
            obtain ⟨du, hdu⟩ : ∃ y, dg (dgL zs u) wl = y := ⟨_, rfl⟩
            obtain ⟨dl, hdl⟩ : ∃ y, dg (dgL zs ul) wl = y := ⟨_, rfl⟩
            rw [hdu] at ixu hpe
            rw [hdl] at ixl hpe
            have HKK := hid hK
            clear hK cu cl rvu rvl hu hul hp hdu hdl
            go_upto_region 7 with fail
            refine wp_region_held (S := fun W' : World => W'.cell? ⟨b, Kp * 2 + 1, none⟩ = some (.int .i64 u) ∧ W'.cell? ⟨b, m * 2 + 1, none⟩ = some (.int .i64 ul)) (by kernel_rfl) ?_
            change wpAnyH _ _ _ _ _ _ _ _ (World.drew _)
            obtain ⟨W0, hW0⟩ : ∃ X, X = World.drew wr := ⟨_, rfl⟩
            have q0 : Below w.heap.size w W0 := by rw [hW0]; exact q.drew
            have hS0 : (fun W' : World => W'.cell? ⟨b, Kp * 2 + 1, none⟩ = some (.int .i64 u) ∧ W'.cell? ⟨b, m * 2 + 1, none⟩ = some (.int .i64 ul)) W0 := ⟨(q0.cell (p := ⟨b, Kp * 2 + 1, none⟩) HLT.out.2).trans CU.out, (q0.cell (p := ⟨b, m * 2 + 1, none⟩) HLT.out.2).trans CL.out⟩
            rw [← hW0]
            clear hW0 q
            refine wpAnyH_takeD (some 27) (i := 0) (v := ?_) rfl rfl (by kernel_rfl) (by kernel_rfl) (by kernel_rfl) (fun _ _ _ h => h) (.inl ⟨by kernel_rfl, ?_⟩) hS0 ?_
            rotate_left
            · intro w' hw'; go_simp; try with_reducible rfl
            try simp only [Act.put, List.setIfInBounds_toArray, List.set_cons_zero, List.set_cons_succ]
            refine wpAnyH_takeD (some 28) (i := 1) (v := ?_) rfl rfl (by kernel_rfl) (by kernel_rfl) (by kernel_rfl) (fun _ _ _ h => h) (.inl ⟨by kernel_rfl, ?_⟩) hS0 ?_
            rotate_left
            · intro w' hw'; go_simp; try with_reducible rfl
            try simp only [Act.put, List.setIfInBounds_toArray, List.set_cons_zero, List.set_cons_succ]
            refine wpAnyH_takeD (some 29) (i := 2) (v := ?_) rfl rfl (by kernel_rfl) (by kernel_rfl) (by kernel_rfl) (fun _ _ _ h => h) (.inl ⟨by kernel_rfl, ?_⟩) hS0 ?_
            rotate_left
            · intro w' hw'; go_simp; try with_reducible rfl
            try simp only [Act.put, List.setIfInBounds_toArray, List.set_cons_zero, List.set_cons_succ]
            refine wpAnyH_takeD (some 30) (i := 3) (v := ?_) rfl rfl (by kernel_rfl) (by kernel_rfl) (by kernel_rfl) (fun _ _ _ h => h) (.inl ⟨by kernel_rfl, ?_⟩) hS0 ?_
            rotate_left
            · intro w' hw'; go_simp; try with_reducible rfl
            try simp only [Act.put, List.setIfInBounds_toArray, List.set_cons_zero, List.set_cons_succ]
            refine wpAnyH_takeD (some 31) (i := 4) (v := ?_) rfl rfl (by kernel_rfl) (by kernel_rfl) (by kernel_rfl) (fun _ _ _ h => h) (.inl ⟨by kernel_rfl, ?_⟩) hS0 ?_
            rotate_left
            · intro w' hw'; go_simp; try with_reducible rfl
            try simp only [Act.put, List.setIfInBounds_toArray, List.set_cons_zero, List.set_cons_succ]
            refine wpAnyH_takeD (some 32) (i := 5) (v := ?_) rfl rfl (by kernel_rfl) (by kernel_rfl) (by kernel_rfl) (fun _ _ _ h => h) (.inl ⟨by kernel_rfl, ?_⟩) hS0 ?_
            rotate_left
            · intro w' hw'; go_simp; try with_reducible rfl
            try simp only [Act.put, List.setIfInBounds_toArray, List.set_cons_zero, List.set_cons_succ]
            refine wpAnyH_takeD (some 33) (i := 6) (v := ?_) rfl rfl (by kernel_rfl) (by kernel_rfl) (by kernel_rfl) (fun _ _ _ h => h) (.inl ⟨by kernel_rfl, ?_⟩) hS0 ?_
            rotate_left
            · intro w' hw'; go_simp; try with_reducible rfl
            try simp only [Act.put, List.setIfInBounds_toArray, List.set_cons_zero, List.set_cons_succ]
            refine wpAnyH_takeD (some 34) (i := 7) (v := ?_) rfl rfl (by kernel_rfl) (by kernel_rfl) (by kernel_rfl) (fun _ _ _ h => h) (.inl ⟨by kernel_rfl, ?_⟩) hS0 ?_
            rotate_left
            · intro w' hw'; obtain ⟨g3, g4⟩ := hw'; go_simp; try with_reducible rfl
            try simp only [Act.put, List.setIfInBounds_toArray, List.set_cons_zero, List.set_cons_succ]
            refine wpAnyH_takeD (some 35) (i := 8) (v := ?_) rfl rfl (by kernel_rfl) (by kernel_rfl) (by kernel_rfl) (fun _ _ _ h => h) (.inl ⟨by kernel_rfl, ?_⟩) hS0 ?_
            rotate_left
            · intro w' hw'; obtain ⟨g3, g4⟩ := hw'; go_simp; try with_reducible rfl
            try simp only [Act.put, List.setIfInBounds_toArray, List.set_cons_zero, List.set_cons_succ]
            refine wpAnyH_takeD (some 36) (i := 9) (v := ?_) rfl rfl (by kernel_rfl) (by kernel_rfl) (by kernel_rfl) (fun _ _ _ h => h) (.inl ⟨by kernel_rfl, ?_⟩) hS0 ?_
            rotate_left
            · intro w' hw'; obtain ⟨g3, g4⟩ := hw'; go_simp; try with_reducible rfl
            try simp only [Act.put, List.setIfInBounds_toArray, List.set_cons_zero, List.set_cons_succ]
            refine wpAnyH_takeD (some 38) (i := 11) (v := ?_) rfl rfl (by kernel_rfl) (by kernel_rfl) (by kernel_rfl) (fun _ _ _ h => h) (.inl ⟨by kernel_rfl, ?_⟩) hS0 ?_
            rotate_left
            · intro w' hw'; go_simp; try with_reducible rfl
            try simp only [Act.put, List.setIfInBounds_toArray, List.set_cons_zero, List.set_cons_succ]
            refine wpAnyH_takeD (some 40) (i := 13) (v := ?_) rfl rfl (by kernel_rfl) (by kernel_rfl) (by kernel_rfl) (fun _ _ _ h => h) (.inl ⟨by kernel_rfl, ?_⟩) hS0 ?_
            rotate_left
            · intro w' hw'; go_simp; try with_reducible rfl
            try simp only [Act.put, List.setIfInBounds_toArray, List.set_cons_zero, List.set_cons_succ]
            refine wpAnyH_takeD (some 41) (i := 14) (v := ?_) rfl rfl (by kernel_rfl) (by kernel_rfl) (by kernel_rfl) (fun _ _ _ h => h) (.inl ⟨by kernel_rfl, ?_⟩) hS0 ?_
            rotate_left
            · intro w' hw'; go_simp; try with_reducible rfl
            try simp only [Act.put, List.setIfInBounds_toArray, List.set_cons_zero, List.set_cons_succ]
            refine wpAnyH_takeD (some 42) (i := 15) (v := ?_) rfl rfl (by kernel_rfl) (by kernel_rfl) (by kernel_rfl) (fun _ _ _ h => h) (.inl ⟨by kernel_rfl, ?_⟩) hS0 ?_
            rotate_left
            · intro w' hw'; go_simp; try with_reducible rfl
            try simp only [Act.put, List.setIfInBounds_toArray, List.set_cons_zero, List.set_cons_succ]
            refine wpAnyH_takeD (some 43) (i := 16) (v := ?_) rfl rfl (by kernel_rfl) (by kernel_rfl) (by kernel_rfl) (fun _ _ _ h => h) (.inl ⟨by kernel_rfl, ?_⟩) hS0 ?_
            rotate_left
            · intro w' hw'; go_simp; try with_reducible rfl
            try simp only [Act.put, List.setIfInBounds_toArray, List.set_cons_zero, List.set_cons_succ]
            refine wpAnyH_takeD (some 44) (i := 17) (v := ?_) rfl rfl (by kernel_rfl) (by kernel_rfl) (by kernel_rfl) (fun _ _ _ h => h) (.inl ⟨by kernel_rfl, ?_⟩) hS0 ?_
            rotate_left
            · intro w' hw'; obtain ⟨g3, g4⟩ := hw'; go_simp; try with_reducible rfl
            try simp only [Act.put, List.setIfInBounds_toArray, List.set_cons_zero, List.set_cons_succ]
            refine wpAnyH_takeD (some 45) (i := 18) (v := ?_) rfl rfl (by kernel_rfl) (by kernel_rfl) (by kernel_rfl) (fun _ _ _ h => h) (.inl ⟨by kernel_rfl, ?_⟩) hS0 ?_
            rotate_left
            · intro w' hw'; obtain ⟨g3, g4⟩ := hw'; go_simp; try with_reducible rfl
            try simp only [Act.put, List.setIfInBounds_toArray, List.set_cons_zero, List.set_cons_succ]
            refine wpAnyH_takeD (some 46) (i := 19) (v := ?_) rfl rfl (by kernel_rfl) (by kernel_rfl) (by kernel_rfl) (fun _ _ _ h => h) (.inl ⟨by kernel_rfl, ?_⟩) hS0 ?_
            rotate_left
            · intro w' hw'; obtain ⟨g3, g4⟩ := hw'; go_simp; try with_reducible rfl
            try simp only [Act.put, List.setIfInBounds_toArray, List.set_cons_zero, List.set_cons_succ]
            refine wpAnyH_takeD (some 48) (i := 21) (v := ?_) rfl rfl (by kernel_rfl) (by kernel_rfl) (by kernel_rfl) (fun _ _ _ h => h) (.inl ⟨by kernel_rfl, ?_⟩) hS0 ?_
            rotate_left
            · intro w' hw'; go_simp; try with_reducible rfl
            try simp only [Act.put, List.setIfInBounds_toArray, List.set_cons_zero, List.set_cons_succ]
            refine wpAnyH_all (rs := [10]) (by kernel_rfl) (by simp) ?_
            intro i hi; simp only [List.mem_cons, List.not_mem_nil, or_false] at hi
            subst hi
            refine wpOp_step rfl (fun K hK => ?_)
            go_simp
            with_reducible refine (HDU.out W0 (HS.out.below q0 HLT.out.1)).mono ?_
            rintro e v1 ⟨rfl, hB⟩
            have q1 := q0.trans (hB.mono q0.size)
            clear hB
            have hS1 : (fun W' : World => W'.cell? ⟨b, Kp * 2 + 1, none⟩ = some (.int .i64 u) ∧ W'.cell? ⟨b, m * 2 + 1, none⟩ = some (.int .i64 ul)) v1 := ⟨(q1.cell (p := ⟨b, Kp * 2 + 1, none⟩) HLT.out.2).trans CU.out, (q1.cell (p := ⟨b, m * 2 + 1, none⟩) HLT.out.2).trans CL.out⟩
            refine hK _ _ ⟨hS1, ?_⟩
            try simp only [Act.put, List.setIfInBounds_toArray, List.set_cons_zero, List.set_cons_succ]
            clear hK K
            refine wpAnyH_takeD (some 39) (i := 12) (v := ?_) rfl rfl (by kernel_rfl) (by kernel_rfl) (by kernel_rfl) (fun _ _ _ h => h) (.inl ⟨by kernel_rfl, ?_⟩) hS1 ?_
            rotate_left
            · intro w' hw'; obtain ⟨g3, g4⟩ := hw'; go_simp; try with_reducible rfl
            try simp only [Act.put, List.setIfInBounds_toArray, List.set_cons_zero, List.set_cons_succ]
            refine wpAnyH_all (rs := [20]) (by kernel_rfl) (by simp) ?_
            intro i hi; simp only [List.mem_cons, List.not_mem_nil, or_false] at hi
            subst hi
            refine wpOp_step rfl (fun K hK => ?_)
            go_simp
            with_reducible refine (HDL.out v1 (HS.out.below q1 HLT.out.1)).mono ?_
            rintro e v2 ⟨rfl, hB⟩
            have q2 := q1.trans (hB.mono q1.size)
            clear hB
            have hS2 : (fun W' : World => W'.cell? ⟨b, Kp * 2 + 1, none⟩ = some (.int .i64 u) ∧ W'.cell? ⟨b, m * 2 + 1, none⟩ = some (.int .i64 ul)) v2 := ⟨(q2.cell (p := ⟨b, Kp * 2 + 1, none⟩) HLT.out.2).trans CU.out, (q2.cell (p := ⟨b, m * 2 + 1, none⟩) HLT.out.2).trans CL.out⟩
            refine hK _ _ ⟨hS2, ?_⟩
            try simp only [Act.put, List.setIfInBounds_toArray, List.set_cons_zero, List.set_cons_succ]
            clear hK K
            refine wpAnyH_takeD (some 49) (i := 22) (v := ?_) rfl rfl (by kernel_rfl) (by kernel_rfl) (by kernel_rfl) (fun _ _ _ h => h) (.inl ⟨by kernel_rfl, ?_⟩) hS2 ?_
            rotate_left
            · intro w' hw'; obtain ⟨g3, g4⟩ := hw'; go_simp; try with_reducible rfl
            try simp only [Act.put, List.setIfInBounds_toArray, List.set_cons_zero, List.set_cons_succ]
            refine wpAnyH_takeD (some 50) (i := 23) (v := ?_) rfl rfl (by kernel_rfl) (by kernel_rfl) (by kernel_rfl) (fun _ _ _ h => h) (.inl ⟨by kernel_rfl, ?_⟩) hS2 ?_
            rotate_left
            · intro w' hw'; go_simp; try with_reducible rfl
            try simp only [Act.put, List.setIfInBounds_toArray, List.set_cons_zero, List.set_cons_succ]
            refine wpAnyH_takeD (some 51) (i := 24) (v := ?_) rfl rfl (by kernel_rfl) (by kernel_rfl) (by kernel_rfl) (fun _ _ _ h => h) (.inl ⟨by kernel_rfl, ?_⟩) hS2 ?_
            rotate_left
            · intro w' hw'; go_simp; try with_reducible rfl
            try simp only [Act.put, List.setIfInBounds_toArray, List.set_cons_zero, List.set_cons_succ]
            refine wpAnyH_done (by kernel_rfl) ?_ _
            have Q2 := hid q2
            clear hS0 hS1 hS2 q0 q1 q2
            go_wp2_with fail
            go_roundw
            case rel => exact ⟨Kp, by have := HKK.out; omega, by first | rfl | go_num, by rw [← HKK.out, ← HB2.out]; exact HBK.out, Q2.out⟩
            case measure => have := HKK.out; simp [intOf]; omega
    · rw [stuckR_out hg hx]
      unfold tup2
      have HW := hid (fun W => l01Wheel_no (some ⟨bS, 0, none⟩) nS capS (by omega) x (by omega) W)
      clear hS hR hn hnS hg hcS gv g40 g1 g2 h8 hin z1 z2 hx
      go_enter Try.func13, Try.ntmps13
      go_wp2_with fail
      with_reducible refine HA.out.mono ?_
      rintro e w1 ⟨rfl, hB⟩
      have Q := hid hB
      clear hB
      go_wp2_with fail
      with_reducible refine (HW.out _).mono ?_
      rintro e w2 ⟨rfl, hw⟩
      subst hw
      go_wp2_with fail
      go_ret2
      exact ⟨by first | rfl | simp, Q.out⟩
end Go.Proofs.Ytofpgkbcodopiaa
