/- The totals of stories: mathematics, and the model's. -/
import Derived.Test.YtilbpgcgjbblaaaCsC
namespace Go.Proofs.Ytilbpgcgjbblaaa
open Go.RowKit
set_option linter.unusedVariables false
set_option linter.unusedSimpArgs false
/-- what an interval between two readings that are kept counts, at least and at most -/
def dlo (z : Int) (js : List (Int × Int)) (lo : Int) (ks bs : List Int) (k : Nat) : Int := if hasL bs (lv ks (k + 1)) then 0 else lstI z (rv js (kN ks (k + 1)) - rv js (kN ks k)) (lo * (rd js (kN ks (k + 1)) - rd js (kN ks k)))
def dhi (z : Int) (js : List (Int × Int)) (hi : Int) (ks bs : List Int) (k : Nat) : Int := if hasL bs (lv ks (k + 1)) then 0 else gstI z (rv js (kN ks (k + 1)) - rv js (kN ks k)) (hi * (rd js (kN ks (k + 1)) - rd js (kN ks k)))
def sumN (f : Nat → Int) : Nat → Int
  | 0 => 0
  | k + 1 => sumN f k + f k
theorem sumN_bd {f : Nat → Int} {m : Nat} (h : ∀ j, j < m → 0 ≤ f j ∧ f j ≤ 2000000000000) : ∀ k, k ≤ m → 0 ≤ sumN f k ∧ sumN f k ≤ 2000000000000 * (k : Int)
  | 0, _ => by simp [sumN]
  | k + 1, hk => by
    have a := sumN_bd h k (by omega)
    have b := h k (by omega)
    rw [sumN]; omega
def sumF {m : Nat} (f : Nat → Int) (pre : List (Fin m)) : Int := (pre.map fun x => f x.1).foldl (· + ·) 0
theorem sumF_snoc {m : Nat} (f : Nat → Int) (pre : List (Fin m)) (x : Fin m) : sumF f (pre ++ [x]) = sumF f pre + f x.1 := by simp [sumF]
theorem sumF_bd {m : Nat} {f : Nat → Int} (h : ∀ j, j < m → 0 ≤ f j ∧ f j ≤ 2000000000000) (pre : List (Fin m)) : 0 ≤ sumF f pre ∧ sumF f pre ≤ 2000000000000 * (pre.length : Int) := by
  have key : ∀ (l : List (Fin m)) (a : Int), a ≤ (l.map fun x => f x.1).foldl (· + ·) a ∧ (l.map fun x => f x.1).foldl (· + ·) a ≤ a + 2000000000000 * (l.length : Int) := by
    intro l
    induction l with
    | nil => intro a; simp
    | cons x l ih =>
      intro a
      have b := h x.1 x.2
      have c := ih (a + f x.1)
      simp only [List.map_cons, List.foldl_cons, List.length_cons]
      omega
  have := key pre 0
  unfold sumF
  omega
theorem sumF_take {m : Nat} (f : Nat → Int) : ∀ k, k ≤ m → sumF f ((List.finRange m).take k) = sumN f k
  | 0, _ => by simp [sumF, sumN]
  | k + 1, h => by rw [finTake_succ m k (by omega), sumF_snoc, sumF_take f k (by omega), sumN]
theorem sumF_all {m : Nat} (f : Nat → Int) : sumF f (List.finRange m) = sumN f m := by
  have := sumF_take (m := m) f m (Nat.le_refl _)
  rwa [finTake_all m] at this
/-- the totals of a story, with a code -/
def totR (zs : List Int) (js : List (Int × Int)) (lo hi : Int) (ks bs : List Int) (c : Int) : (Int × Int) × Int :=
  if okG zs js && okF lo hi then (if tellB (szL zs) js lo hi ks bs c then ((sumN (dlo (szL zs) js lo ks bs) (ks.length - 1), sumN (dhi (szL zs) js hi ks bs) (ks.length - 1)), 0) else ((0, 0), 4)) else ((0, 0), 1)
section
variable {zs : List Int} {js : List (Int × Int)} {lo hi : Int} {ks bs : List Int} {c : Int}
theorem totR_no (h : (okG zs js && okF lo hi) = false) : totR zs js lo hi ks bs c = ((0, 0), 1) := by unfold totR; rw [h]; rfl
theorem totR_false (h : (okG zs js && okF lo hi) = true) (k : tellB (szL zs) js lo hi ks bs c = false) : totR zs js lo hi ks bs c = ((0, 0), 4) := by unfold totR; rw [h, k]; rfl
theorem totR_yes (h : (okG zs js && okF lo hi) = true) (k : tellB (szL zs) js lo hi ks bs c = true) : totR zs js lo hi ks bs c = ((sumN (dlo (szL zs) js lo ks bs) (ks.length - 1), sumN (dhi (szL zs) js hi ks bs) (ks.length - 1)), 0) := by unfold totR; rw [h, k]; rfl
theorem tell_out {z : Int} (h : tellB z js lo hi ks bs c = true) : riseB ks js.length = true ∧ riseB bs js.length = true ∧ ∀ j, j < ks.length - 1 → stepP z js lo hi ks bs j = true := by
  unfold tellB at h
  simp only [Bool.and_eq_true] at h
  exact ⟨h.1, h.2.1, allB_out h.2.2.2.2.1⟩
end
/-- the readings of a log: bounds of what lies between two of them -/
theorem log_two {zs : List Int} {js : List (Int × Int)} (hg : okG zs js = true) {P C : Nat} (hPC : P < C) (hC : C < js.length) : (-1000000000000 ≤ rv js C - rv js P ∧ rv js C - rv js P ≤ 1000000000000) ∧ (1 ≤ rd js C - rd js P ∧ rd js C - rd js P ≤ 100000) := by
  obtain ⟨gv, g40, g1, g2⟩ := okG_out hg
  obtain ⟨_, _, _, z1, z2⟩ := okL_out gv
  have hmono : ∀ d i, i + d + 1 < js.length → rd js i < rd js (i + d + 1) := by
    intro d
    induction d with
    | zero => intro i hi'; have := g2 i (by omega); simpa using this
    | succ d ih => intro i hi'; have a1 := ih i (by omega); have a2 := g2 (i + d + 1) (by omega); rw [show i + (d + 1) + 1 = i + d + 1 + 1 by omega]; omega
  have := hmono (C - P - 1) P (by omega)
  rw [show P + (C - P - 1) + 1 = C by omega] at this
  have o1 := okRd_out (g1 P (by omega))
  have o2 := okRd_out (g1 C (by omega))
  omega
theorem dlo_bd {zs : List Int} {js : List (Int × Int)} {lo hi : Int} {ks bs : List Int} {c : Int} (hg : okG zs js = true) (hf : okF lo hi = true) (ht : tellB (szL zs) js lo hi ks bs c = true) (j : Nat) (hj : j < ks.length - 1) :
    (0 ≤ dlo (szL zs) js lo ks bs j ∧ dlo (szL zs) js lo ks bs j ≤ 2000000000000) ∧ (0 ≤ dhi (szL zs) js hi ks bs j ∧ dhi (szL zs) js hi ks bs j ≤ 2000000000000) := by
  obtain ⟨h1, h2, h5⟩ := tell_out ht
  obtain ⟨gv, g40, g1, g2⟩ := okG_out hg
  obtain ⟨_, _, _, z1, z2⟩ := okL_out gv
  obtain ⟨f1, f2, f3⟩ := okF_out hf
  have hs := h5 j hj
  unfold stepP at hs
  unfold dlo dhi
  cases hv : hasL bs (lv ks (j + 1)) with
  | true => simp
  | false =>
    rw [hv, Bool.false_or] at hs
    have o1 := riseP_out (allB_out h1 j (by omega))
    have o2 := riseP_out (allB_out h1 (j + 1) (by omega))
    have o3 := o2.2.2 (by omega)
    simp only [Nat.add_sub_cancel] at o3
    have hk : kN ks j < kN ks (j + 1) ∧ kN ks (j + 1) < js.length := by unfold kN; omega
    have tw := log_two hg hk.1 hk.2
    unfold fitK at hs
    have hs0 := hs
    rw [pos_iff _ _ _ _ z1] at hs
    have hle := of_decide_eq_true hs
    have a1 := gst_ge (szL zs) _ _ _ z1 hle
    have a2 := gst_le (szL zs) (rv js (kN ks (j + 1)) - rv js (kN ks j)) (hi * (rd js (kN ks (j + 1)) - rd js (kN ks j))) z1
    have m1 := mul_small lo (rd js (kN ks (j + 1)) - rd js (kN ks j)) (by omega) (by omega)
    have m2 := mul_small hi (rd js (kN ks (j + 1)) - rd js (kN ks j)) (by omega) (by omega)
    have e0 := Int.emod_nonneg (rv js (kN ks (j + 1)) - rv js (kN ks j) - lo * (rd js (kN ks (j + 1)) - rd js (kN ks j))) (show szL zs ≠ 0 by omega)
    have e1 := Int.emod_lt_of_pos (rv js (kN ks (j + 1)) - rv js (kN ks j) - lo * (rd js (kN ks (j + 1)) - rd js (kN ks j))) (show 0 < szL zs by omega)
    have e2 : lstI (szL zs) (rv js (kN ks (j + 1)) - rv js (kN ks j)) (lo * (rd js (kN ks (j + 1)) - rd js (kN ks j))) = lo * (rd js (kN ks (j + 1)) - rd js (kN ks j)) + (rv js (kN ks (j + 1)) - rv js (kN ks j) - lo * (rd js (kN ks (j + 1)) - rd js (kN ks j))) % szL zs := rfl
    simp only [Bool.false_eq_true, if_false]
    omega
set_option maxRecDepth 100000 in
set_option maxHeartbeats 2000000 in
theorem specTotal_any (bS nS capS : Nat) (zs : List Int) (hnS : nS = zs.length) (b n cap : Nat) (js : List (Int × Int)) (hn : n = js.length) (lo hi : Int) (bk nk ck bb nb cb : Nat) (ks bs : List Int) (c : Int) (hnk : nk = ks.length) (hnb : nb = bs.length) (w : World)
    (hS : Stk w bS zs) (hR : Rst w b js) (hK : Lst w bk ks) (hBr : Lst w bb bs) :
    Calls Try.prog 19 #[.slice (some ⟨bS, 0, none⟩) nS capS, .slice (some ⟨b, 0, none⟩) n cap, .agg #[.int .i64 lo, .int .i64 hi], .agg #[.slice (some ⟨bk, 0, none⟩) nk ck, .slice (some ⟨bb, 0, none⟩) nb cb, .int .i64 c]] w (GivesB w (tup3 (totR zs js lo hi ks bs c))) := by
  have rF0 := Row.new w 42 [.int .i64 lo, .int .i64 hi]
  have rX0 := Row.new (w.alloc (.cells #[.int .i64 lo, .int .i64 hi] 42)) 44 [.slice (some ⟨bk, 0, none⟩) nk ck, .slice (some ⟨bb, 0, none⟩) nb cb, .int .i64 c]
  simp only [World.size_alloc] at rX0
  obtain ⟨F, hF⟩ : ∃ F, w.heap.size = F := ⟨_, rfl⟩
  obtain ⟨V, hV⟩ : ∃ V, V = (w.alloc (.cells #[.int .i64 lo, .int .i64 hi] 42)).alloc (.cells #[.slice (some ⟨bk, 0, none⟩) nk ck, .slice (some ⟨bb, 0, none⟩) nb cb, .int .i64 c] 44) := ⟨_, rfl⟩
  have sV : V.heap.size = F + 2 := by rw [hV]; simp [hF]
  have bV : Below w.heap.size w V := by rw [hV]; exact ((Below.refl _ w).alloc (Nat.le_refl _) _).alloc (by simp) _
  have rF : Row V F 42 [.int .i64 lo, .int .i64 hi] := by rw [hV, ← hF]; exact rF0.alloc _
  have rX : Row V (F + 1) 44 [.slice (some ⟨bk, 0, none⟩) nk ck, .slice (some ⟨bb, 0, none⟩) nb cb, .int .i64 c] := by rw [hV, ← hF]; exact rX0
  have HLT := hid (show bS < V.heap.size ∧ b < V.heap.size ∧ bk < V.heap.size ∧ bb < V.heap.size from by have a1 := hS.1; have a2 := hR.1; have a3 := hK.1; have a4 := hBr.1; omega)
  have HS := hid (hS.below bV hS.1); have HR := hid (hR.below bV hR.1); have HK := hid (hK.below bV hK.1); have HBR := hid (hBr.below bV hBr.1)
  have RX := hid rX; have RF := hid rF; have BV := hid bV; have HV := hid hV; have HF := hid hF; have SV := hid sV
  have f0 := rF.cell 0; have f1 := rF.cell 1
  simp only [List.getElem?_cons_zero, List.getElem?_cons_succ] at f0 f1
  have HA := hid (l04Asked_any bS nS capS zs hnS b n cap js hn lo hi V HS.out HR.out)
  rw [askG_is] at HA
  cases hok : (okG zs js && okF lo hi) with
  | false =>
    rw [totR_no hok]
    unfold tup3
    rw [hok] at HA
    clear hS hR hK hBr rF0 rX0 rF rX bV hV sV hF hnk hnb hn hnS hok
    go_enter Try.func19, Try.ntmps19
    go_upto_region 1 with fail
    rw [← HV.out]
    try simp only [HF.out]
    go_wp2_with fail
    with_reducible refine HA.out.mono ?_
    rintro e w1 ⟨rfl, hB⟩
    have QQ := hid hB
    clear hB f0 f1
    go_wp2_with fail
    go_ret3
    exact ⟨by first | rfl | simp, BV.out.trans (QQ.out.mono BV.out.size)⟩
  | true =>
    rw [hok] at HA
    have hg : okG zs js = true := by simp at hok; exact hok.1
    have hf : okF lo hi = true := by simp at hok; exact hok.2
    have HT := hid (fun W hS hR hK hBr hX => told_any bS nS capS zs hnS b n cap js hn lo hi (F + 1) bk nk ck bb nb cb ks bs c hnk hnb W hS hR hK hBr hX hg hf)
    cases ht : tellB (szL zs) js lo hi ks bs c with
    | false =>
      rw [totR_false hok ht]
      unfold tup3
      rw [ht] at HT
      clear hS hR hK hBr rF0 rX0 rF rX bV hV sV hF hnk hnb hn hnS hok hg hf ht
      go_enter Try.func19, Try.ntmps19
      go_upto_region 1 with fail
      rw [← HV.out]
      try simp only [HF.out]
      go_wp2_with fail
      with_reducible refine HA.out.mono ?_
      rintro e w1 ⟨rfl, hB⟩
      have q := hB
      have rF := RF.out.below q RF.out.lt
      clear hB f0 f1
      have f0 := rF.cell 0; have f1 := rF.cell 1
      simp only [List.getElem?_cons_zero, List.getElem?_cons_succ] at f0 f1
      have HT1 := hid (HT.out w1 (HS.out.below q HLT.out.1) (HR.out.below q HLT.out.2.1) (HK.out.below q HLT.out.2.2.1) (HBR.out.below q HLT.out.2.2.2) (RX.out.below q RX.out.lt))
      have QQ := hid q
      clear q rF
      go_wp2_with fail
      with_reducible refine HT1.out.mono ?_
      rintro e w2 ⟨rfl, hB⟩
      have Q2 := hid (QQ.out.trans (hB.mono QQ.out.size))
      clear hB f0 f1
      go_wp2_with fail
      go_ret3
      exact ⟨by first | rfl | simp, BV.out.trans (Q2.out.mono BV.out.size)⟩
    | true =>
      rw [totR_yes hok ht]
      unfold tup3
      rw [ht] at HT
      obtain ⟨h1, h2, h5⟩ := tell_out ht
      obtain ⟨gv, g40, g1, g2⟩ := okG_out hg
      obtain ⟨fl1, fl2, fl3⟩ := okF_out hf
      have z1 := (okL_out gv).2.2.2.1
      have n40 : n ≤ 40 := by omega
      have nk40 : nk ≤ 40 := by have := rise_len h1 (by omega); omega
      have BD := hid (fun j hj => dlo_bd hg hf ht j hj)
      have HH := hid (fun (y : Int) W (hW : Lst W bb bs) => has_any bb nb cb bs hnb y W hW)
      have HC4 := hid (fun (P C : Nat) (hPC : P < C) (hC : C < n) (hp : fitK (szL zs) js lo hi P C = true) W (s : Stk W bS zs) => show Calls Try.prog 39 #[.slice (some ⟨bS, 0, none⟩) nS capS, .agg #[.int .i64 (rd js P), .int .i64 (rv js P)], .agg #[.int .i64 (rd js C), .int .i64 (rv js C)], .agg #[.int .i64 lo, .int .i64 hi]] W (GivesB W (.tuple #[.int .i64 (lstI (szL zs) (rv js C - rv js P) (lo * (rd js C - rd js P))), .int .i64 (gstI (szL zs) (rv js C - rv js P) (hi * (rd js C - rd js P))), .bool true])) from by
        have tw := log_two hg hPC (by rw [← hn]; exact hC)
        have := l04Counts_any bS nS capS zs hnS gv (rd js P) (rv js P) (rd js C) (rv js C) lo hi tw.1 (by omega) (by omega) (by omega) W s
        rw [cnt3_yes z1 hp] at this
        exact this)
      have HNK := hid hnk; have HNB := hid hnb; have HN := hid hn
      have CK := hid (fun j (hj : j < nk) => HK.out.2.1 j (by rw [← hnk]; exact hj))
      have CR := hid (fun j (hj : j < n) => HR.out.2.1 j (by rw [← hn]; exact hj))
      have HR5 := hid h5; have HR1 := hid h1
      rw [← hnk]
      obtain ⟨z, hz⟩ : ∃ z, szL zs = z := ⟨_, rfl⟩
      rw [hz] at BD HC4 HR5 ⊢
      have hlk : nk ≤ 1048576 := by omega
      clear hS hR hK hBr rF0 rX0 rF rX bV hV sV hF hnk hnb hn hnS hok hg hf ht h1 h2 h5 gv g40 g1 g2 fl1 fl2 fl3 z1 n40 hz
      go_enter Try.func19, Try.ntmps19
      go_upto_region 1 with fail
      rw [← HV.out]
      try simp only [HF.out]
      go_wp2_with fail
      with_reducible refine HA.out.mono ?_
      rintro e w1 ⟨rfl, hB⟩
      have q := hB
      have rF := RF.out.below q RF.out.lt
      clear hB f0 f1
      have f0 := rF.cell 0; have f1 := rF.cell 1
      simp only [List.getElem?_cons_zero, List.getElem?_cons_succ] at f0 f1
      have HT1 := hid (HT.out w1 (HS.out.below q HLT.out.1) (HR.out.below q HLT.out.2.1) (HK.out.below q HLT.out.2.2.1) (HBR.out.below q HLT.out.2.2.2) (RX.out.below q RX.out.lt))
      have QQ := hid q
      clear q rF
      go_wp2_with fail
      with_reducible refine HT1.out.mono ?_
      rintro e w2 ⟨rfl, hB⟩
      have Q2 := hid (QQ.out.trans (hB.mono QQ.out.size))
      clear hB f0 f1
      go_wp2_with fail
      go_loopw [12, 13, 14] (fun s12 s13 s14 wr => ∃ k c' : Nat, c' = k + 1 ∧ k ≤ nk - 1 ∧ s14 = .int .i64 c' ∧ s12 = .int .i64 (sumN (dlo z js lo ks bs) k) ∧ s13 = .int .i64 (sumN (dhi z js hi ks bs) k) ∧ Below V.heap.size V wr) (fun _ _ i _ => nk - (intOf i).toNat)
      case atStart => exact ⟨0, 1, rfl, Nat.zero_le _, rfl, rfl, rfl, Q2.out⟩
      case round =>
        obtain ⟨k, c', hck, hk, rfl, rfl, rfl, q⟩ := hrel
        have rX := RX.out.below q RX.out.lt
        have x0 := rX.cell 0; have x1 := rX.cell 1; have x2 := rX.cell 2
        simp only [List.getElem?_cons_zero, List.getElem?_cons_succ] at x0 x1 x2
        have hc0 : (0 : Int) ≤ (c' : Int) := by omega
        by_cases hlt : k < nk - 1
        · have hlt' : (c' : Int) < (nk : Int) := by omega
          have hcn : c' < nk := by omega
          have o1 := riseP_out (allB_out HR1.out k (by rw [← HNK.out]; omega))
          have o2 := riseP_out (allB_out HR1.out c' (by rw [← HNK.out]; omega))
          have o3 := o2.2.2 (by omega)
          rw [show c' - 1 = k by omega] at o3
          have ckc := CK.out c' hcn
          have ckk := CK.out k (by omega)
          have hst := HR5.out k (by rw [← HNK.out]; exact hlt)
          have b1 := sumN_bd (f := dlo z js lo ks bs) (m := nk - 1) (fun j hj => (BD.out j (by rw [← HNK.out]; exact hj)).1) k (by omega)
          have b2 := sumN_bd (f := dhi z js hi ks bs) (m := nk - 1) (fun j hj => (BD.out j (by rw [← HNK.out]; exact hj)).2) k (by omega)
          have b3 := BD.out k (by rw [← HNK.out]; exact hlt)
          have s1 : sumN (dlo z js lo ks bs) (k + 1) = sumN (dlo z js lo ks bs) k + dlo z js lo ks bs k := rfl
          have s2 : sumN (dhi z js hi ks bs) (k + 1) = sumN (dhi z js hi ks bs) k + dhi z js hi ks bs k := rfl
          have d1 : dlo z js lo ks bs k = if hasL bs (lv ks (k + 1)) then 0 else lstI z (rv js (kN ks (k + 1)) - rv js (kN ks k)) (lo * (rd js (kN ks (k + 1)) - rd js (kN ks k))) := rfl
          have d2 : dhi z js hi ks bs k = if hasL bs (lv ks (k + 1)) then 0 else gstI z (rv js (kN ks (k + 1)) - rv js (kN ks k)) (hi * (rd js (kN ks (k + 1)) - rd js (kN ks k))) := rfl
          unfold stepP at hst
          rw [← hck] at d1 d2 hst
          obtain ⟨C, hC⟩ : ∃ C : Nat, lv ks c' = (C : Int) := ⟨(lv ks c').toNat, by omega⟩
          obtain ⟨P, hPq⟩ : ∃ C : Nat, lv ks k = (C : Int) := ⟨(lv ks k).toNat, by omega⟩
          have kc : kN ks c' = C := by unfold kN; rw [hC]; omega
          have kk : kN ks k = P := by unfold kN; rw [hPq]; omega
          rw [hC, kc, kk] at d1 d2 hst
          rw [hC, hPq] at o3
          rw [hC] at o2
          have hPC : P < C := by omega
          have hCn : C < n := by have := HN.out; omega
          rw [show ks[c']?.getD 0 = (C : Int) from hC] at ckc
          rw [show ks[k]?.getD 0 = (P : Int) from hPq] at ckk
          have crP := CR.out P (by omega)
          have crC := CR.out C hCn
          have wk : IntKind.i64.wrap ((c' : Int) - 1) = (k : Int) := by rw [IntWalk.i64_in _ (by omega)]; omega
          have hk0 : (0 : Int) ≤ (k : Int) := by omega
          have hkn : (k : Int) < (nk : Int) := by omega
          have c1 := (q.cell (p := ⟨bk, c', none⟩) HLT.out.2.2.1).trans ckc
          have hP0 : (0 : Int) ≤ (P : Int) := by omega
          have hP1 : (P : Int) < (n : Int) := by omega
          have hC0 : (0 : Int) ≤ (C : Int) := by omega
          have hC1 : (C : Int) < (n : Int) := by omega
          have HHq := hid (fun d => HH.out (C : Int) (wr.drewN d) (HBR.out.below (below_drewN q d) HLT.out.2.2.2))
          have HFQ := hid (fun hp W s => HC4.out P C hPC hCn hp W s)
          obtain ⟨hv, hhv⟩ : ∃ r, hasL bs (C : Int) = r := ⟨_, rfl⟩
          rw [hhv] at HHq d1 d2 hst
          obtain ⟨TL, hTL⟩ : ∃ x, sumN (dlo z js lo ks bs) k = x := ⟨_, rfl⟩
          obtain ⟨TH, hTH⟩ : ∃ x, sumN (dhi z js hi ks bs) k = x := ⟨_, rfl⟩
          rw [hTL] at b1 s1 ⊢
          rw [hTH] at b2 s2 ⊢
          have CKC := hid ckc; have CKK := hid ckk; have HCK := hid hck; have CRP := hid crP; have CRC := hid crC; have HQ := hid q
          clear hC hPq kc kk o1 o2 o3 hhv hPC hCn hck ckc ckk crP crC hTL hTH rX
          cases hv with
          | true =>
            rw [if_pos rfl] at d1 d2
            rw [d1, Int.add_zero] at s1
            rw [d2, Int.add_zero] at s2
            have S1 := hid s1; have S2 := hid s2
            clear s1 s2 d1 d2 b1 b2 b3 hst q
            go_upto_region 11 with fail
            go_quiet ((go_at_call 38; exact quiet_sm (HHq.out _)))
            go_wp2_with fail
            go_roundw
            case rel => exact ⟨k + 1, c' + 1, by have := HCK.out; omega, by omega, by go_num, by rw [S1.out], by rw [S2.out], below_drewN HQ.out _⟩
            case measure => simp [intOf]; omega
          | false =>
            rw [if_neg (by simp)] at d1 d2
            rw [Bool.false_or] at hst
            have HFR := hid (fun W s => HFQ.out hst W s)
            rw [d1] at b3 s1
            rw [d2] at b3 s2
            obtain ⟨Lx, hLx⟩ : ∃ x, lstI z (rv js C - rv js P) (lo * (rd js C - rd js P)) = x := ⟨_, rfl⟩
            obtain ⟨Gx, hGx⟩ : ∃ x, gstI z (rv js C - rv js P) (hi * (rd js C - rd js P)) = x := ⟨_, rfl⟩
            rw [hLx] at b3 s1 HFR
            rw [hGx] at b3 s2 HFR
            obtain ⟨dp, hdp⟩ : ∃ x, rd js P = x := ⟨_, rfl⟩
            obtain ⟨vp, hvp⟩ : ∃ x, rv js P = x := ⟨_, rfl⟩
            obtain ⟨dc, hdc⟩ : ∃ x, rd js C = x := ⟨_, rfl⟩
            obtain ⟨vc, hvc⟩ : ∃ x, rv js C = x := ⟨_, rfl⟩
            rw [hdp, hvp, hdc, hvc] at HFR
            rw [hdp, hvp] at CRP
            rw [hdc, hvc] at CRC
            have wL : IntKind.i64.wrap (TL + Lx) = TL + Lx := IntWalk.i64_in _ (by omega)
            have wG : IntKind.i64.wrap (TH + Gx) = TH + Gx := IntWalk.i64_in _ (by omega)
            have S1 := hid s1; have S2 := hid s2
            clear s1 s2 d1 d2 b1 b2 b3 hst hLx hGx hdp hvp hdc hvc HFQ q
            go_upto_region 11 with fail
            go_quiet ((go_at_call 38; exact quiet_sm (HHq.out _)))
            obtain ⟨D1, hD1⟩ : ∃ X, X = wr.drewN nq := ⟨_, rfl⟩
            have q : Below V.heap.size V D1 := by rw [hD1]; exact below_drewN HQ.out _
            rw [← hD1]
            clear hD1 x0 x1 x2 c1
            go_upto_region 12 with fail
            refine wp_region_held (S := fun W' : World => Row W' (F + 1) 44 [.slice (some ⟨bk, 0, none⟩) nk ck, .slice (some ⟨bb, 0, none⟩) nb cb, .int .i64 c] ∧ Row W' F 42 [.int .i64 lo, .int .i64 hi] ∧ W'.cell? ⟨bk, c', none⟩ = some (.int .i64 (C : Int)) ∧ W'.cell? ⟨bk, k, none⟩ = some (.int .i64 (P : Int)) ∧ W'.cell? ⟨b, P * 2, none⟩ = some (.int .i64 dp) ∧ W'.cell? ⟨b, P * 2 + 1, none⟩ = some (.int .i64 vp) ∧ W'.cell? ⟨b, C * 2, none⟩ = some (.int .i64 dc) ∧ W'.cell? ⟨b, C * 2 + 1, none⟩ = some (.int .i64 vc)) (by kernel_rfl) ?_
            change wpAnyH _ _ _ _ _ _ _ _ (World.drew _)
            obtain ⟨W0, hW0⟩ : ∃ X, X = World.drew D1 := ⟨_, rfl⟩
            have q0 : Below V.heap.size V W0 := by rw [hW0]; exact q.drew
            have hS0 : (fun W' : World => Row W' (F + 1) 44 [.slice (some ⟨bk, 0, none⟩) nk ck, .slice (some ⟨bb, 0, none⟩) nb cb, .int .i64 c] ∧ Row W' F 42 [.int .i64 lo, .int .i64 hi] ∧ W'.cell? ⟨bk, c', none⟩ = some (.int .i64 (C : Int)) ∧ W'.cell? ⟨bk, k, none⟩ = some (.int .i64 (P : Int)) ∧ W'.cell? ⟨b, P * 2, none⟩ = some (.int .i64 dp) ∧ W'.cell? ⟨b, P * 2 + 1, none⟩ = some (.int .i64 vp) ∧ W'.cell? ⟨b, C * 2, none⟩ = some (.int .i64 dc) ∧ W'.cell? ⟨b, C * 2 + 1, none⟩ = some (.int .i64 vc)) W0 := ⟨RX.out.below q0 RX.out.lt, RF.out.below q0 RF.out.lt, (q0.cell (p := ⟨bk, c', none⟩) HLT.out.2.2.1).trans CKC.out, (q0.cell (p := ⟨bk, k, none⟩) HLT.out.2.2.1).trans CKK.out, (q0.cell (p := ⟨b, P * 2, none⟩) HLT.out.2.1).trans CRP.out.1, (q0.cell (p := ⟨b, P * 2 + 1, none⟩) HLT.out.2.1).trans CRP.out.2, (q0.cell (p := ⟨b, C * 2, none⟩) HLT.out.2.1).trans CRC.out.1, (q0.cell (p := ⟨b, C * 2 + 1, none⟩) HLT.out.2.1).trans CRC.out.2⟩
            rw [← hW0]
            clear hW0 q
            refine wpAnyH_takeD (some 46) (i := 0) (v := ?_) rfl rfl (by kernel_rfl) (by kernel_rfl) (by kernel_rfl) (fun _ _ _ h => h) (.inl ⟨by kernel_rfl, ?_⟩) hS0 ?_
            rotate_left
            · intro w' hw'; go_simp; try with_reducible rfl
            try simp only [Act.put, List.setIfInBounds_toArray, List.set_cons_zero, List.set_cons_succ]
            refine wpAnyH_takeD (some 47) (i := 1) (v := ?_) rfl rfl (by kernel_rfl) (by kernel_rfl) (by kernel_rfl) (fun _ _ _ h => h) (.inl ⟨by kernel_rfl, ?_⟩) hS0 ?_
            rotate_left
            · intro w' hw'; go_simp; try with_reducible rfl
            try simp only [Act.put, List.setIfInBounds_toArray, List.set_cons_zero, List.set_cons_succ]
            refine wpAnyH_takeD (some 48) (i := 2) (v := ?_) rfl rfl (by kernel_rfl) (by kernel_rfl) (by kernel_rfl) (fun _ _ _ h => h) (.inl ⟨by kernel_rfl, ?_⟩) hS0 ?_
            rotate_left
            · intro w' hw'; obtain ⟨hr, hf, g3, g4, g7, g8, g9, g10⟩ := hw'; have g0 := Row.cell hr 0; have g1 := Row.cell hr 1; have g2 := Row.cell hr 2; have g5 := Row.cell hf 0; have g6 := Row.cell hf 1; simp only [List.getElem?_cons_zero, List.getElem?_cons_succ] at g0 g1 g2 g5 g6; clear hr hf; go_simp; try with_reducible rfl
            try simp only [Act.put, List.setIfInBounds_toArray, List.set_cons_zero, List.set_cons_succ]
            refine wpAnyH_takeD (some 49) (i := 3) (v := ?_) rfl rfl (by kernel_rfl) (by kernel_rfl) (by kernel_rfl) (fun _ _ _ h => h) (.inl ⟨by kernel_rfl, ?_⟩) hS0 ?_
            rotate_left
            · intro w' hw'; obtain ⟨hr, hf, g3, g4, g7, g8, g9, g10⟩ := hw'; have g0 := Row.cell hr 0; have g1 := Row.cell hr 1; have g2 := Row.cell hr 2; have g5 := Row.cell hf 0; have g6 := Row.cell hf 1; simp only [List.getElem?_cons_zero, List.getElem?_cons_succ] at g0 g1 g2 g5 g6; clear hr hf; go_simp; try with_reducible rfl
            try simp only [Act.put, List.setIfInBounds_toArray, List.set_cons_zero, List.set_cons_succ]
            refine wpAnyH_takeD (some 50) (i := 4) (v := ?_) rfl rfl (by kernel_rfl) (by kernel_rfl) (by kernel_rfl) (fun _ _ _ h => h) (.inl ⟨by kernel_rfl, ?_⟩) hS0 ?_
            rotate_left
            · intro w' hw'; go_simp; try with_reducible rfl
            try simp only [Act.put, List.setIfInBounds_toArray, List.set_cons_zero, List.set_cons_succ]
            refine wpAnyH_takeD (some 51) (i := 5) (v := ?_) rfl rfl (by kernel_rfl) (by kernel_rfl) (by kernel_rfl) (fun _ _ _ h => h) (.inl ⟨by kernel_rfl, ?_⟩) hS0 ?_
            rotate_left
            · intro w' hw'; go_simp; try with_reducible rfl
            try simp only [Act.put, List.setIfInBounds_toArray, List.set_cons_zero, List.set_cons_succ]
            refine wpAnyH_takeD (some 52) (i := 6) (v := ?_) rfl rfl (by kernel_rfl) (by kernel_rfl) (by kernel_rfl) (fun _ _ _ h => h) (.inl ⟨by kernel_rfl, ?_⟩) hS0 ?_
            rotate_left
            · intro w' hw'; obtain ⟨hr, hf, g3, g4, g7, g8, g9, g10⟩ := hw'; have g0 := Row.cell hr 0; have g1 := Row.cell hr 1; have g2 := Row.cell hr 2; have g5 := Row.cell hf 0; have g6 := Row.cell hf 1; simp only [List.getElem?_cons_zero, List.getElem?_cons_succ] at g0 g1 g2 g5 g6; clear hr hf; go_simp; try with_reducible rfl
            try simp only [Act.put, List.setIfInBounds_toArray, List.set_cons_zero, List.set_cons_succ]
            refine wpAnyH_takeD (some 53) (i := 7) (v := ?_) rfl rfl (by kernel_rfl) (by kernel_rfl) (by kernel_rfl) (fun _ _ _ h => h) (.inl ⟨by kernel_rfl, ?_⟩) hS0 ?_
            rotate_left
            · intro w' hw'; obtain ⟨hr, hf, g3, g4, g7, g8, g9, g10⟩ := hw'; have g0 := Row.cell hr 0; have g1 := Row.cell hr 1; have g2 := Row.cell hr 2; have g5 := Row.cell hf 0; have g6 := Row.cell hf 1; simp only [List.getElem?_cons_zero, List.getElem?_cons_succ] at g0 g1 g2 g5 g6; clear hr hf; go_simp; try with_reducible rfl
            try simp only [Act.put, List.setIfInBounds_toArray, List.set_cons_zero, List.set_cons_succ]
            refine wpAnyH_takeD (some 54) (i := 8) (v := ?_) rfl rfl (by kernel_rfl) (by kernel_rfl) (by kernel_rfl) (fun _ _ _ h => h) (.inl ⟨by kernel_rfl, ?_⟩) hS0 ?_
            rotate_left
            · intro w' hw'; obtain ⟨hr, hf, g3, g4, g7, g8, g9, g10⟩ := hw'; have g0 := Row.cell hr 0; have g1 := Row.cell hr 1; have g2 := Row.cell hr 2; have g5 := Row.cell hf 0; have g6 := Row.cell hf 1; simp only [List.getElem?_cons_zero, List.getElem?_cons_succ] at g0 g1 g2 g5 g6; clear hr hf; go_simp; try with_reducible rfl
            try simp only [Act.put, List.setIfInBounds_toArray, List.set_cons_zero, List.set_cons_succ]
            refine wpAnyH_takeD (some 55) (i := 9) (v := ?_) rfl rfl (by kernel_rfl) (by kernel_rfl) (by kernel_rfl) (fun _ _ _ h => h) (.inl ⟨by kernel_rfl, ?_⟩) hS0 ?_
            rotate_left
            · intro w' hw'; obtain ⟨hr, hf, g3, g4, g7, g8, g9, g10⟩ := hw'; have g0 := Row.cell hr 0; have g1 := Row.cell hr 1; have g2 := Row.cell hr 2; have g5 := Row.cell hf 0; have g6 := Row.cell hf 1; simp only [List.getElem?_cons_zero, List.getElem?_cons_succ] at g0 g1 g2 g5 g6; clear hr hf; go_simp; try with_reducible rfl
            try simp only [Act.put, List.setIfInBounds_toArray, List.set_cons_zero, List.set_cons_succ]
            refine wpAnyH_takeD (some 56) (i := 10) (v := ?_) rfl rfl (by kernel_rfl) (by kernel_rfl) (by kernel_rfl) (fun _ _ _ h => h) (.inl ⟨by kernel_rfl, ?_⟩) hS0 ?_
            rotate_left
            · intro w' hw'; go_simp; try with_reducible rfl
            try simp only [Act.put, List.setIfInBounds_toArray, List.set_cons_zero, List.set_cons_succ]
            refine wpAnyH_takeD (some 57) (i := 11) (v := ?_) rfl rfl (by kernel_rfl) (by kernel_rfl) (by kernel_rfl) (fun _ _ _ h => h) (.inl ⟨by kernel_rfl, ?_⟩) hS0 ?_
            rotate_left
            · intro w' hw'; obtain ⟨hr, hf, g3, g4, g7, g8, g9, g10⟩ := hw'; have g0 := Row.cell hr 0; have g1 := Row.cell hr 1; have g2 := Row.cell hr 2; have g5 := Row.cell hf 0; have g6 := Row.cell hf 1; simp only [List.getElem?_cons_zero, List.getElem?_cons_succ] at g0 g1 g2 g5 g6; clear hr hf; go_simp; try with_reducible rfl
            try simp only [Act.put, List.setIfInBounds_toArray, List.set_cons_zero, List.set_cons_succ]
            refine wpAnyH_takeD (some 58) (i := 12) (v := ?_) rfl rfl (by kernel_rfl) (by kernel_rfl) (by kernel_rfl) (fun _ _ _ h => h) (.inl ⟨by kernel_rfl, ?_⟩) hS0 ?_
            rotate_left
            · intro w' hw'; obtain ⟨hr, hf, g3, g4, g7, g8, g9, g10⟩ := hw'; have g0 := Row.cell hr 0; have g1 := Row.cell hr 1; have g2 := Row.cell hr 2; have g5 := Row.cell hf 0; have g6 := Row.cell hf 1; simp only [List.getElem?_cons_zero, List.getElem?_cons_succ] at g0 g1 g2 g5 g6; clear hr hf; go_simp; try with_reducible rfl
            try simp only [Act.put, List.setIfInBounds_toArray, List.set_cons_zero, List.set_cons_succ]
            refine wpAnyH_takeD (some 59) (i := 13) (v := ?_) rfl rfl (by kernel_rfl) (by kernel_rfl) (by kernel_rfl) (fun _ _ _ h => h) (.inl ⟨by kernel_rfl, ?_⟩) hS0 ?_
            rotate_left
            · intro w' hw'; go_simp; try with_reducible rfl
            try simp only [Act.put, List.setIfInBounds_toArray, List.set_cons_zero, List.set_cons_succ]
            refine wpAnyH_takeD (some 60) (i := 14) (v := ?_) rfl rfl (by kernel_rfl) (by kernel_rfl) (by kernel_rfl) (fun _ _ _ h => h) (.inl ⟨by kernel_rfl, ?_⟩) hS0 ?_
            rotate_left
            · intro w' hw'; obtain ⟨hr, hf, g3, g4, g7, g8, g9, g10⟩ := hw'; have g0 := Row.cell hr 0; have g1 := Row.cell hr 1; have g2 := Row.cell hr 2; have g5 := Row.cell hf 0; have g6 := Row.cell hf 1; simp only [List.getElem?_cons_zero, List.getElem?_cons_succ] at g0 g1 g2 g5 g6; clear hr hf; go_simp; try with_reducible rfl
            try simp only [Act.put, List.setIfInBounds_toArray, List.set_cons_zero, List.set_cons_succ]
            refine wpAnyH_takeD (some 61) (i := 15) (v := ?_) rfl rfl (by kernel_rfl) (by kernel_rfl) (by kernel_rfl) (fun _ _ _ h => h) (.inl ⟨by kernel_rfl, ?_⟩) hS0 ?_
            rotate_left
            · intro w' hw'; obtain ⟨hr, hf, g3, g4, g7, g8, g9, g10⟩ := hw'; have g0 := Row.cell hr 0; have g1 := Row.cell hr 1; have g2 := Row.cell hr 2; have g5 := Row.cell hf 0; have g6 := Row.cell hf 1; simp only [List.getElem?_cons_zero, List.getElem?_cons_succ] at g0 g1 g2 g5 g6; clear hr hf; go_simp; try with_reducible rfl
            try simp only [Act.put, List.setIfInBounds_toArray, List.set_cons_zero, List.set_cons_succ]
            refine wpAnyH_takeD (some 62) (i := 16) (v := ?_) rfl rfl (by kernel_rfl) (by kernel_rfl) (by kernel_rfl) (fun _ _ _ h => h) (.inl ⟨by kernel_rfl, ?_⟩) hS0 ?_
            rotate_left
            · intro w' hw'; obtain ⟨hr, hf, g3, g4, g7, g8, g9, g10⟩ := hw'; have g0 := Row.cell hr 0; have g1 := Row.cell hr 1; have g2 := Row.cell hr 2; have g5 := Row.cell hf 0; have g6 := Row.cell hf 1; simp only [List.getElem?_cons_zero, List.getElem?_cons_succ] at g0 g1 g2 g5 g6; clear hr hf; go_simp; try with_reducible rfl
            try simp only [Act.put, List.setIfInBounds_toArray, List.set_cons_zero, List.set_cons_succ]
            refine wpAnyH_takeD (some 63) (i := 17) (v := ?_) rfl rfl (by kernel_rfl) (by kernel_rfl) (by kernel_rfl) (fun _ _ _ h => h) (.inl ⟨by kernel_rfl, ?_⟩) hS0 ?_
            rotate_left
            · intro w' hw'; obtain ⟨hr, hf, g3, g4, g7, g8, g9, g10⟩ := hw'; have g0 := Row.cell hr 0; have g1 := Row.cell hr 1; have g2 := Row.cell hr 2; have g5 := Row.cell hf 0; have g6 := Row.cell hf 1; simp only [List.getElem?_cons_zero, List.getElem?_cons_succ] at g0 g1 g2 g5 g6; clear hr hf; go_simp; try with_reducible rfl
            try simp only [Act.put, List.setIfInBounds_toArray, List.set_cons_zero, List.set_cons_succ]
            refine wpAnyH_takeD (some 64) (i := 18) (v := ?_) rfl rfl (by kernel_rfl) (by kernel_rfl) (by kernel_rfl) (fun _ _ _ h => h) (.inl ⟨by kernel_rfl, ?_⟩) hS0 ?_
            rotate_left
            · intro w' hw'; obtain ⟨hr, hf, g3, g4, g7, g8, g9, g10⟩ := hw'; have g0 := Row.cell hr 0; have g1 := Row.cell hr 1; have g2 := Row.cell hr 2; have g5 := Row.cell hf 0; have g6 := Row.cell hf 1; simp only [List.getElem?_cons_zero, List.getElem?_cons_succ] at g0 g1 g2 g5 g6; clear hr hf; go_simp; try with_reducible rfl
            try simp only [Act.put, List.setIfInBounds_toArray, List.set_cons_zero, List.set_cons_succ]
            refine wpAnyH_all (rs := [19]) (by kernel_rfl) (by simp) ?_
            intro i hi; simp only [List.mem_cons, List.not_mem_nil, or_false] at hi
            subst hi
            refine wpOp_step rfl (fun K hK => ?_)
            go_simp
            with_reducible refine (HFR.out W0 (HS.out.below q0 HLT.out.1)).mono ?_
            rintro e v2 ⟨rfl, hB⟩
            have q9 := q0.trans (hB.mono q0.size)
            clear hB
            have hS9 : (fun W' : World => Row W' (F + 1) 44 [.slice (some ⟨bk, 0, none⟩) nk ck, .slice (some ⟨bb, 0, none⟩) nb cb, .int .i64 c] ∧ Row W' F 42 [.int .i64 lo, .int .i64 hi] ∧ W'.cell? ⟨bk, c', none⟩ = some (.int .i64 (C : Int)) ∧ W'.cell? ⟨bk, k, none⟩ = some (.int .i64 (P : Int)) ∧ W'.cell? ⟨b, P * 2, none⟩ = some (.int .i64 dp) ∧ W'.cell? ⟨b, P * 2 + 1, none⟩ = some (.int .i64 vp) ∧ W'.cell? ⟨b, C * 2, none⟩ = some (.int .i64 dc) ∧ W'.cell? ⟨b, C * 2 + 1, none⟩ = some (.int .i64 vc)) v2 := ⟨RX.out.below q9 RX.out.lt, RF.out.below q9 RF.out.lt, (q9.cell (p := ⟨bk, c', none⟩) HLT.out.2.2.1).trans CKC.out, (q9.cell (p := ⟨bk, k, none⟩) HLT.out.2.2.1).trans CKK.out, (q9.cell (p := ⟨b, P * 2, none⟩) HLT.out.2.1).trans CRP.out.1, (q9.cell (p := ⟨b, P * 2 + 1, none⟩) HLT.out.2.1).trans CRP.out.2, (q9.cell (p := ⟨b, C * 2, none⟩) HLT.out.2.1).trans CRC.out.1, (q9.cell (p := ⟨b, C * 2 + 1, none⟩) HLT.out.2.1).trans CRC.out.2⟩
            refine hK _ _ ⟨hS9, ?_⟩
            try simp only [Act.put, List.setIfInBounds_toArray, List.set_cons_zero, List.set_cons_succ]
            clear hK K
            refine wpAnyH_takeD (some 45) (i := 20) (v := ?_) rfl rfl (by kernel_rfl) (by kernel_rfl) (by kernel_rfl) (fun _ _ _ h => h) (.inl ⟨by kernel_rfl, ?_⟩) hS9 ?_
            rotate_left
            · intro w' hw'; go_simp; try with_reducible rfl
            try simp only [Act.put, List.setIfInBounds_toArray, List.set_cons_zero, List.set_cons_succ]
            refine wpAnyH_takeD (some 66) (i := 21) (v := ?_) rfl rfl (by kernel_rfl) (by kernel_rfl) (by kernel_rfl) (fun _ _ _ h => h) (.inl ⟨by kernel_rfl, ?_⟩) hS9 ?_
            rotate_left
            · intro w' hw'; go_simp; try with_reducible rfl
            try simp only [Act.put, List.setIfInBounds_toArray, List.set_cons_zero, List.set_cons_succ]
            refine wpAnyH_takeD (some 67) (i := 22) (v := ?_) rfl rfl (by kernel_rfl) (by kernel_rfl) (by kernel_rfl) (fun _ _ _ h => h) (.inl ⟨by kernel_rfl, ?_⟩) hS9 ?_
            rotate_left
            · intro w' hw'; go_simp; try with_reducible rfl
            try simp only [Act.put, List.setIfInBounds_toArray, List.set_cons_zero, List.set_cons_succ]
            refine wpAnyH_takeD (some 68) (i := 23) (v := ?_) rfl rfl (by kernel_rfl) (by kernel_rfl) (by kernel_rfl) (fun _ _ _ h => h) (.inl ⟨by kernel_rfl, ?_⟩) hS9 ?_
            rotate_left
            · intro w' hw'; go_simp; try with_reducible rfl
            try simp only [Act.put, List.setIfInBounds_toArray, List.set_cons_zero, List.set_cons_succ]
            refine wpAnyH_takeD (some 15) (i := 24) (v := ?_) rfl rfl (by kernel_rfl) (by kernel_rfl) (by kernel_rfl) (fun _ _ _ h => h) (.inl ⟨by kernel_rfl, ?_⟩) hS9 ?_
            rotate_left
            · intro w' hw'; go_simp; try with_reducible rfl
            try simp only [Act.put, List.setIfInBounds_toArray, List.set_cons_zero, List.set_cons_succ]
            refine wpAnyH_takeD (some 16) (i := 25) (v := ?_) rfl rfl (by kernel_rfl) (by kernel_rfl) (by kernel_rfl) (fun _ _ _ h => h) (.inl ⟨by kernel_rfl, ?_⟩) hS9 ?_
            rotate_left
            · intro w' hw'; go_simp; try with_reducible rfl
            try simp only [Act.put, List.setIfInBounds_toArray, List.set_cons_zero, List.set_cons_succ]
            refine wpAnyH_takeD (some 17) (i := 26) (v := ?_) rfl rfl (by kernel_rfl) (by kernel_rfl) (by kernel_rfl) (fun _ _ _ h => h) (.inl ⟨by kernel_rfl, ?_⟩) hS9 ?_
            rotate_left
            · intro w' hw'; go_simp; try with_reducible rfl
            try simp only [Act.put, List.setIfInBounds_toArray, List.set_cons_zero, List.set_cons_succ]
            refine wpAnyH_done (by kernel_rfl) ?_ _
            have HQ9 := hid q9
            clear hS9 hS0 q9 q0
            go_wp2_with fail
            go_roundw
            case rel => exact ⟨k + 1, c' + 1, by have := HCK.out; omega, by omega, by go_num, by rw [S1.out], by rw [S2.out], HQ9.out⟩
            case measure => simp [intOf]; omega
        · have hge : ¬ (c' : Int) < (nk : Int) := by omega
          have hkk : k = nk - 1 := by omega
          subst hkk
          have HQ := hid q
          clear q rX hlt hck
          go_wp2_with fail
          go_ret3
          exact ⟨by first | rfl | simp, BV.out.trans (HQ.out.mono BV.out.size)⟩
end Go.Proofs.Ytilbpgcgjbblaaa
