/- The law over TotalOfStory. -/
import Derived.Test.YtilbpgcgjbblaaaCtE
import Derived.Test.YtilbpgcgjbblaaaOpen
import Derived.Test.YtilbpgcgjbblaaaSamG
import Derived.Test.YtilbpgcgjbblaaaStory
namespace Go.Proofs.Ytilbpgcgjbblaaa
open Go.RowKit
set_option linter.unusedVariables false
set_option linter.unusedSimpArgs false
theorem toFlow_anyT (p q : Int) (w : World) : Calls Try.prog 15 #[.agg #[.int .i64 p, .int .i64 q]] w (GivesB w (.agg #[.int .i64 p, .int .i64 q])) := by
  go_enter Try.func15, Try.ntmps15
  go_wp2
  exact bodyPost_ret (v := .agg #[.int .i64 p, .int .i64 q]) (by simp [results, Try.results15, go_sem]) rfl ⟨rfl, (((Below.refl _ _).alloc (Nat.le_refl _) _).alloc (by simp) _).alloc (by simp; omega) _⟩
set_option maxRecDepth 100000 in
set_option maxHeartbeats 8000000 in
theorem law_FnExactTotalOfStory (a : Option Addr) (len cap : Nat) (zs : List Int) (a' : Option Addr) (len' cap' : Nat) (js : List (Int × Int)) (p0 q0 : Int) (ak : Option Addr) (lk ck : Nat) (ks : List Int) (ab : Option Addr) (lb cb : Nat) (bs : List Int) (c : Int) (w : World) (h : InB w a len zs) (hl' : len' ≤ 9223372036854775807) (h' : InR w a' len' js) (hp0 : I64 p0) (hq0 : I64 q0) (hlk : lk ≤ 9223372036854775807) (hlb : lb ≤ 9223372036854775807) (hk : InI w ak lk ks) (hb : InI w ab lb bs) :
    Calls Try.prog 5 #[.slice a len cap, .slice a' len' cap', .agg #[.int .i64 p0, .int .i64 q0], .agg #[.slice ak lk ck, .slice ab lb cb, .int .i64 c]] w fun e w' => e = .returned (.bool true) ∧ Below w.heap.size w w' := by
  have rF0 := Row.new w 35 [.int .i64 p0, .int .i64 q0]
  have rX0 := Row.new (w.alloc (.cells #[.int .i64 p0, .int .i64 q0] 35)) 38 [.slice ak lk ck, .slice ab lb cb, .int .i64 c]
  simp only [World.size_alloc] at rX0
  obtain ⟨F, hF⟩ : ∃ F, w.heap.size = F := ⟨_, rfl⟩
  obtain ⟨W, hW⟩ : ∃ V, V = (w.alloc (.cells #[.int .i64 p0, .int .i64 q0] 35)).alloc (.cells #[.slice ak lk ck, .slice ab lb cb, .int .i64 c] 38) := ⟨_, rfl⟩
  have sW : W.heap.size = F + 2 := by rw [hW]; simp [hF]
  have bW : Below w.heap.size w W := by rw [hW]; exact ((Below.refl _ w).alloc (Nat.le_refl _) _).alloc (by simp) _
  have rF : Row W F 35 [.int .i64 p0, .int .i64 q0] := by rw [hW, ← hF]; exact rF0.alloc _
  have rX : Row W (F + 1) 38 [.slice ak lk ck, .slice ab lb cb, .int .i64 c] := by rw [hW, ← hF]; exact rX0
  have RF := hid rF; have RX := hid rX; have BW := hid bW; have HW := hid hW; have HF := hid hF; have SW := hid sW
  have HI := hid (h.below bW (Nat.le_refl _)); have HJ := hid (h'.below bW (Nat.le_refl _)); have HKI := hid (hk.below bW (Nat.le_refl _)); have HBI := hid (hb.below bW (Nat.le_refl _))
  have hn : Hid (len = zs.length) := hid h.1.symm
  have hm : Hid (len' = js.length) := hid h'.1.symm
  have hkn : Hid (lk = ks.length) := hid hk.1.symm
  have hbn : Hid (lb = bs.length) := hid hb.1.symm
  have FSZ := hid (show F < W.heap.size ∧ F + 1 < W.heap.size by omega)
  clear rF0 rX0 rF rX bW hW hF sW h h' hk hb
  by_cases hs : 1048576 < len
  · have hs1 : (1048576 : Int) < (len : Int) := by omega
    clear hs
    go_enter Try.func5, Try.ntmps5
    go_upto_region 1 with fail
    rw [← HW.out]
    go_wp2_with fail
    go_ret
    exact ⟨rfl, BW.out⟩
  by_cases hs' : 1048576 < len'
  · have HZ := hid (fun w => szReads_no a' len' cap' w hs' hl')
    have hs1 : ¬ (1048576 : Int) < (len : Int) := by omega
    clear hs hs'
    go_enter Try.func5, Try.ntmps5
    go_upto_region 1 with fail
    rw [← HW.out]
    go_wp2_with fail
    with_reducible refine (HZ.out _).mono ?_
    rintro e w' ⟨rfl, hw⟩
    subst hw
    go_wp2_with fail
    go_ret
    exact ⟨rfl, BW.out⟩
  have hle : len ≤ 1048576 := by omega
  have hle' : len' ≤ 1048576 := by omega
  have HZ := hid (fun w => szReads_ok a' len' cap' w hle')
  have hz : (0 : Int) ≤ 1048576 - (len' : Int) := by omega
  have hs1 : ¬ (1048576 : Int) < (len : Int) := by omega
  have x0 := RX.out.cell 0; have x1 := RX.out.cell 1; have x2 := RX.out.cell 2
  simp only [List.getElem?_cons_zero, List.getElem?_cons_succ] at x0 x1 x2
  by_cases hs2 : 1048576 - len' < lk + lb
  · have HZ2 := hid (fun w => szY_no ak lk ck ab lb cb c (1048576 - (len' : Int)) w (by omega) (by omega) hlk hlb)
    clear hs hs' hs2
    go_enter Try.func5, Try.ntmps5
    go_upto_region 1 with fail
    rw [← HW.out]
    try simp only [HF.out]
    go_wp2_with fail
    with_reducible refine (HZ.out _).mono ?_
    rintro e w' ⟨rfl, hw⟩
    subst hw
    go_wp2_with fail
    with_reducible refine (HZ2.out _).mono ?_
    rintro e w1 ⟨rfl, hB⟩
    have q := hid hB
    clear hB x0 x1 x2
    go_wp2_with fail
    go_ret
    exact ⟨rfl, BW.out.trans (q.out.mono BW.out.size)⟩
  have HZ2 := hid (fun w => szY_ok ak lk ck ab lb cb c (1048576 - (len' : Int)) w (by omega) (by omega) hlk hlb)
  have hz2 : (0 : Int) ≤ 1048576 - (len' : Int) - (lk : Int) - (lb : Int) := by omega
  have hke : lk ≤ 1048576 := by omega
  have hbe : lb ≤ 1048576 := by omega
  have HS := hid (fun b b' g g' w1 (k : Stk w1 b zs) (k' : Rst w1 b' js) (k1 : Lst w1 g ks) (k2 : Lst w1 g' bs) => specTotal_any b len len zs hn.out b' len' len' js hm.out p0 q0 g lk lk g' lb lb ks bs c hkn.out hbn.out w1 k k' k1 k2)
  have HM := hid (fun b b' g g' w1 (k : Stk w1 b zs) (k' : Rst w1 b' js) (k1 : Lst w1 g ks) (k2 : Lst w1 g' bs) => implTotal_any b len len zs hn.out b' len' len' js hm.out p0 q0 g lk lk g' lb lb ks bs c hkn.out hbn.out w1 k k' k1 k2)
  obtain ⟨⟨⟨o0, o1⟩, o2⟩, hR⟩ : ∃ r, totR zs js p0 q0 ks bs c = r := ⟨_, rfl⟩
  rw [hR] at HS HM
  unfold tup3 at HS HM
  simp only at HS HM
  have e0 : (o0 != o0) = false := by simp
  have e1 : (o1 != o1) = false := by simp
  have e2 : (o2 != o2) = false := by simp
  clear hR hs hs' hs2
  go_enter Try.func5, Try.ntmps5
  go_upto_region 1 with fail
  rw [← HW.out]
  try simp only [HF.out]
  go_wp2_with fail
  with_reducible refine (HZ.out _).mono ?_
  rintro e w' ⟨rfl, hw⟩
  subst hw
  go_wp2_with fail
  with_reducible refine (HZ2.out _).mono ?_
  rintro e w1 ⟨rfl, hB⟩
  have q := hB
  clear hB x0 x1 x2
  go_upto_region 10 with fail
  refine wp_region_held (S := fun W' : World => Row W' F 35 [.int .i64 p0, .int .i64 q0] ∧ Row W' (F + 1) 38 [.slice ak lk ck, .slice ab lb cb, .int .i64 c]) (by kernel_rfl) ?_
  change wpAnyH _ _ _ _ _ _ _ _ (World.drew _)
  obtain ⟨v0, hv0⟩ : ∃ X, X = World.drew w1 := ⟨_, rfl⟩
  have hB : Below w1.heap.size w1 v0 := by rw [hv0]; exact (Below.refl _ _).drew
  replace q := q.trans (hB.mono q.size)
  rw [← hv0]
  clear hv0 hB
  refine wpAnyH_takeD (some 33) (i := 0) (v := ?_) rfl rfl (by kernel_rfl) (by kernel_rfl) (by kernel_rfl) (fun _ _ _ h => h) (.inl ⟨by kernel_rfl, ?_⟩) ⟨RF.out.below q FSZ.out.1, RX.out.below q FSZ.out.2⟩ ?_
  rotate_left
  · intro w' hw'; go_simp; try with_reducible rfl
  try simp only [Act.put, List.setIfInBounds_toArray, List.set_cons_zero, List.set_cons_succ]
  refine wpAnyH_takeD (some 35) (i := 2) (v := ?_) rfl rfl (by kernel_rfl) (by kernel_rfl) (by kernel_rfl) (fun _ _ _ h => h) (.inl ⟨by kernel_rfl, ?_⟩) ⟨RF.out.below q FSZ.out.1, RX.out.below q FSZ.out.2⟩ ?_
  rotate_left
  · intro w' hw'; go_simp; try with_reducible rfl
  try simp only [Act.put, List.setIfInBounds_toArray, List.set_cons_zero, List.set_cons_succ]
  refine wpAnyH_takeD (some 37) (i := 4) (v := ?_) rfl rfl (by kernel_rfl) (by kernel_rfl) (by kernel_rfl) (fun _ _ _ h => h) (.inl ⟨by kernel_rfl, ?_⟩) ⟨RF.out.below q FSZ.out.1, RX.out.below q FSZ.out.2⟩ ?_
  rotate_left
  · intro w' hw'; obtain ⟨hr1, hr2⟩ := hw'; have g0 := Row.cell hr1 0; have g1 := Row.cell hr1 1; have g2 := Row.cell hr2 0; have g3 := Row.cell hr2 1; have g4 := Row.cell hr2 2; simp only [List.getElem?_cons_zero, List.getElem?_cons_succ] at g0 g1 g2 g3 g4; clear hr1 hr2; go_simp; try with_reducible rfl
  try simp only [Act.put, List.setIfInBounds_toArray, List.set_cons_zero, List.set_cons_succ]
  refine wpAnyH_takeD (some 39) (i := 6) (v := ?_) rfl rfl (by kernel_rfl) (by kernel_rfl) (by kernel_rfl) (fun _ _ _ h => h) (.inl ⟨by kernel_rfl, ?_⟩) ⟨RF.out.below q FSZ.out.1, RX.out.below q FSZ.out.2⟩ ?_
  rotate_left
  · intro w' hw'; obtain ⟨hr1, hr2⟩ := hw'; have g0 := Row.cell hr1 0; have g1 := Row.cell hr1 1; have g2 := Row.cell hr2 0; have g3 := Row.cell hr2 1; have g4 := Row.cell hr2 2; simp only [List.getElem?_cons_zero, List.getElem?_cons_succ] at g0 g1 g2 g3 g4; clear hr1 hr2; go_simp; try with_reducible rfl
  try simp only [Act.put, List.setIfInBounds_toArray, List.set_cons_zero, List.set_cons_succ]
  refine wpAnyH_all (rs := [1]) (by kernel_rfl) (by simp) ?_
  intro i hi; simp only [List.mem_cons, List.not_mem_nil, or_false] at hi
  subst hi
  refine wpOp_step rfl (fun K hK => ?_)
  go_simp
  with_reducible refine (toStack_any a len cap zs v0 (HI.out.below q (Nat.le_refl _)) hle).mono ?_
  rintro e v1 ⟨rfl, hB, S1, _⟩
  try replace S1 := S1.below hB S1.1
  try replace T1 := T1.below hB T1.1
  try replace K1 := K1.below hB K1.1
  try replace B1 := B1.below hB B1.1
  try replace RY := RY.below hB RY.lt
  replace q := q.trans (hB.mono q.size)
  clear hB
  refine hK _ _ ⟨⟨RF.out.below q FSZ.out.1, RX.out.below q FSZ.out.2⟩, ?_⟩
  try simp only [Act.put, List.setIfInBounds_toArray, List.set_cons_zero, List.set_cons_succ]
  clear hK K
  refine wpAnyH_all (rs := [3]) (by kernel_rfl) (by simp) ?_
  intro i hi; simp only [List.mem_cons, List.not_mem_nil, or_false] at hi
  subst hi
  refine wpOp_step rfl (fun K hK => ?_)
  go_simp
  with_reducible refine (toReads_any a' len' cap' js v1 (HJ.out.below q (Nat.le_refl _)) hle').mono ?_
  rintro e v2 ⟨rfl, hB, T1, _⟩
  try replace S1 := S1.below hB S1.1
  try replace T1 := T1.below hB T1.1
  try replace K1 := K1.below hB K1.1
  try replace B1 := B1.below hB B1.1
  try replace RY := RY.below hB RY.lt
  replace q := q.trans (hB.mono q.size)
  clear hB
  refine hK _ _ ⟨⟨RF.out.below q FSZ.out.1, RX.out.below q FSZ.out.2⟩, ?_⟩
  try simp only [Act.put, List.setIfInBounds_toArray, List.set_cons_zero, List.set_cons_succ]
  clear hK K
  refine wpAnyH_all (rs := [5]) (by kernel_rfl) (by simp) ?_
  intro i hi; simp only [List.mem_cons, List.not_mem_nil, or_false] at hi
  subst hi
  refine wpOp_step rfl (fun K hK => ?_)
  go_simp
  with_reducible refine (toFlow_anyT p0 q0 v2).mono ?_
  rintro e v3 ⟨rfl, hB⟩
  try replace S1 := S1.below hB S1.1
  try replace T1 := T1.below hB T1.1
  try replace K1 := K1.below hB K1.1
  try replace B1 := B1.below hB B1.1
  try replace RY := RY.below hB RY.lt
  replace q := q.trans (hB.mono q.size)
  clear hB
  refine hK _ _ ⟨⟨RF.out.below q FSZ.out.1, RX.out.below q FSZ.out.2⟩, ?_⟩
  try simp only [Act.put, List.setIfInBounds_toArray, List.set_cons_zero, List.set_cons_succ]
  clear hK K
  refine wpAnyH_all (rs := [7]) (by kernel_rfl) (by simp) ?_
  intro i hi; simp only [List.mem_cons, List.not_mem_nil, or_false] at hi
  subst hi
  refine wpOp_step rfl (fun K hK => ?_)
  go_simp
  with_reducible refine (toStory_any ak lk ck ks ab lb cb bs c v3 (HKI.out.below q (Nat.le_refl _)) (HBI.out.below q (Nat.le_refl _)) hke hbe).mono ?_
  rintro e v4 ⟨gB0, gG0, rfl, hB, K1, B1⟩
  try replace S1 := S1.below hB S1.1
  try replace T1 := T1.below hB T1.1
  try replace K1 := K1.below hB K1.1
  try replace B1 := B1.below hB B1.1
  try replace RY := RY.below hB RY.lt
  replace q := q.trans (hB.mono q.size)
  clear hB
  refine hK _ _ ⟨⟨RF.out.below q FSZ.out.1, RX.out.below q FSZ.out.2⟩, ?_⟩
  try simp only [Act.put, List.setIfInBounds_toArray, List.set_cons_zero, List.set_cons_succ]
  clear hK K
  refine wpAnyH_all (rs := [8]) (by kernel_rfl) (by simp) ?_
  intro i hi; simp only [List.mem_cons, List.not_mem_nil, or_false] at hi
  subst hi
  refine wpOp_step rfl (fun K hK => ?_)
  go_simp
  with_reducible refine (HS.out _ _ _ _ v4 S1 T1 K1 B1).mono ?_
  rintro e v5 ⟨rfl, hB⟩
  try replace S1 := S1.below hB S1.1
  try replace T1 := T1.below hB T1.1
  try replace K1 := K1.below hB K1.1
  try replace B1 := B1.below hB B1.1
  try replace RY := RY.below hB RY.lt
  replace q := q.trans (hB.mono q.size)
  clear hB
  refine hK _ _ ⟨⟨RF.out.below q FSZ.out.1, RX.out.below q FSZ.out.2⟩, ?_⟩
  try simp only [Act.put, List.setIfInBounds_toArray, List.set_cons_zero, List.set_cons_succ]
  clear hK K
  refine wpAnyH_takeD (some 32) (i := 9) (v := ?_) rfl rfl (by kernel_rfl) (by kernel_rfl) (by kernel_rfl) (fun _ _ _ h => h) (.inl ⟨by kernel_rfl, ?_⟩) ⟨RF.out.below q FSZ.out.1, RX.out.below q FSZ.out.2⟩ ?_
  rotate_left
  · intro w' hw'; go_simp; try with_reducible rfl
  try simp only [Act.put, List.setIfInBounds_toArray, List.set_cons_zero, List.set_cons_succ]
  refine wpAnyH_takeD (some 42) (i := 10) (v := ?_) rfl rfl (by kernel_rfl) (by kernel_rfl) (by kernel_rfl) (fun _ _ _ h => h) (.inl ⟨by kernel_rfl, ?_⟩) ⟨RF.out.below q FSZ.out.1, RX.out.below q FSZ.out.2⟩ ?_
  rotate_left
  · intro w' hw'; go_simp; try with_reducible rfl
  try simp only [Act.put, List.setIfInBounds_toArray, List.set_cons_zero, List.set_cons_succ]
  refine wpAnyH_takeD (some 43) (i := 11) (v := ?_) rfl rfl (by kernel_rfl) (by kernel_rfl) (by kernel_rfl) (fun _ _ _ h => h) (.inl ⟨by kernel_rfl, ?_⟩) ⟨RF.out.below q FSZ.out.1, RX.out.below q FSZ.out.2⟩ ?_
  rotate_left
  · intro w' hw'; go_simp; try with_reducible rfl
  try simp only [Act.put, List.setIfInBounds_toArray, List.set_cons_zero, List.set_cons_succ]
  refine wpAnyH_takeD (some 44) (i := 12) (v := ?_) rfl rfl (by kernel_rfl) (by kernel_rfl) (by kernel_rfl) (fun _ _ _ h => h) (.inl ⟨by kernel_rfl, ?_⟩) ⟨RF.out.below q FSZ.out.1, RX.out.below q FSZ.out.2⟩ ?_
  rotate_left
  · intro w' hw'; go_simp; try with_reducible rfl
  try simp only [Act.put, List.setIfInBounds_toArray, List.set_cons_zero, List.set_cons_succ]
  refine wpAnyH_takeD (some 10) (i := 13) (v := ?_) rfl rfl (by kernel_rfl) (by kernel_rfl) (by kernel_rfl) (fun _ _ _ h => h) (.inl ⟨by kernel_rfl, ?_⟩) ⟨RF.out.below q FSZ.out.1, RX.out.below q FSZ.out.2⟩ ?_
  rotate_left
  · intro w' hw'; go_simp; try with_reducible rfl
  try simp only [Act.put, List.setIfInBounds_toArray, List.set_cons_zero, List.set_cons_succ]
  refine wpAnyH_takeD (some 11) (i := 14) (v := ?_) rfl rfl (by kernel_rfl) (by kernel_rfl) (by kernel_rfl) (fun _ _ _ h => h) (.inl ⟨by kernel_rfl, ?_⟩) ⟨RF.out.below q FSZ.out.1, RX.out.below q FSZ.out.2⟩ ?_
  rotate_left
  · intro w' hw'; go_simp; try with_reducible rfl
  try simp only [Act.put, List.setIfInBounds_toArray, List.set_cons_zero, List.set_cons_succ]
  refine wpAnyH_takeD (some 12) (i := 15) (v := ?_) rfl rfl (by kernel_rfl) (by kernel_rfl) (by kernel_rfl) (fun _ _ _ h => h) (.inl ⟨by kernel_rfl, ?_⟩) ⟨RF.out.below q FSZ.out.1, RX.out.below q FSZ.out.2⟩ ?_
  rotate_left
  · intro w' hw'; go_simp; try with_reducible rfl
  try simp only [Act.put, List.setIfInBounds_toArray, List.set_cons_zero, List.set_cons_succ]
  refine wpAnyH_done (by kernel_rfl) ?_ _
  clear S1 T1 K1 B1
  go_wp2_with fail
  with_reducible refine (toStack_any a len cap zs v5 (HI.out.below q (Nat.le_refl _)) hle).mono ?_
  rintro e u1 ⟨rfl, hB, S1, _⟩
  replace q := q.trans (hB.mono q.size)
  clear hB
  go_wp2_with fail
  with_reducible refine (toReads_any a' len' cap' js u1 (HJ.out.below q (Nat.le_refl _)) hle').mono ?_
  rintro e u2 ⟨rfl, hB, T1, _⟩
  replace S1 := S1.below hB S1.1
  replace q := q.trans (hB.mono q.size)
  clear hB
  have rX := RX.out.below q FSZ.out.2
  have x0 := rX.cell 0; have x1 := rX.cell 1; have x2 := rX.cell 2
  simp only [List.getElem?_cons_zero, List.getElem?_cons_succ] at x0 x1 x2
  clear rX
  have HTY := hid (toStory_any ak lk ck ks ab lb cb bs c u2 (HKI.out.below q (Nat.le_refl _)) (HBI.out.below q (Nat.le_refl _)) hke hbe)
  go_wp2_with fail
  with_reducible refine HTY.out.mono ?_
  rintro e u3 ⟨gB, gG, rfl, hB, K1, B1⟩
  replace S1 := S1.below hB S1.1
  replace T1 := T1.below hB T1.1
  replace q := q.trans (hB.mono q.size)
  clear hB x0 x1 x2 HTY
  have RY := Row.new u3 44 [.slice (some ⟨gB, 0, none⟩) lk lk, .slice (some ⟨gG, 0, none⟩) lb lb, .int .i64 c]
  have hB : Below u3.heap.size u3 (u3.alloc (.cells #[.slice (some ⟨gB, 0, none⟩) lk lk, .slice (some ⟨gG, 0, none⟩) lb lb, .int .i64 c] 44)) := (Below.refl _ _).alloc (Nat.le_refl _) _
  replace S1 := S1.below hB S1.1
  replace T1 := T1.below hB T1.1
  replace K1 := K1.below hB K1.1
  replace B1 := B1.below hB B1.1
  replace q := q.trans (hB.mono q.size)
  obtain ⟨Y, hY⟩ : ∃ x, u3.heap.size = x := ⟨_, rfl⟩
  obtain ⟨u4, hu4⟩ : ∃ x, x = u3.alloc (.cells #[.slice (some ⟨gB, 0, none⟩) lk lk, .slice (some ⟨gG, 0, none⟩) lb lb, .int .i64 c] 44) := ⟨_, rfl⟩
  rw [← hu4] at S1 T1 K1 B1 q RY
  rw [hY] at RY
  have HU4 := hid hu4; have HYY := hid hY; have S1h := hid S1; have T1h := hid T1; have K1h := hid K1; have B1h := hid B1; have RYh := hid RY; have Qh := hid q
  clear hB hu4 hY S1 T1 K1 B1 RY q
  go_upto_region 14 with fail
  rw [← HU4.out, HYY.out]
  have S1 := S1h.out; have T1 := T1h.out; have K1 := K1h.out; have B1 := B1h.out; have RY := RYh.out; have q := Qh.out
  clear S1h T1h K1h B1h RYh Qh
  refine wp_region_held (S := fun W' : World => Row W' F 35 [.int .i64 p0, .int .i64 q0] ∧ Row W' Y 44 [.slice (some ⟨gB, 0, none⟩) lk lk, .slice (some ⟨gG, 0, none⟩) lb lb, .int .i64 c]) (by kernel_rfl) ?_
  change wpAnyH _ _ _ _ _ _ _ _ (World.drew _)
  obtain ⟨y1, hy1⟩ : ∃ X, X = World.drew u4 := ⟨_, rfl⟩
  have hB : Below u4.heap.size u4 y1 := by rw [hy1]; exact (Below.refl _ _).drew
  try replace S1 := S1.below hB S1.1
  try replace T1 := T1.below hB T1.1
  try replace K1 := K1.below hB K1.1
  try replace B1 := B1.below hB B1.1
  try replace RY := RY.below hB RY.lt
  replace q := q.trans (hB.mono q.size)
  rw [← hy1]
  clear hy1 hB
  refine wpAnyH_takeD (some 52) (i := 0) (v := ?_) rfl rfl (by kernel_rfl) (by kernel_rfl) (by kernel_rfl) (fun _ _ _ h => h) (.inl ⟨by kernel_rfl, ?_⟩) ⟨RF.out.below q FSZ.out.1, RY⟩ ?_
  rotate_left
  · intro w' hw'; go_simp; try with_reducible rfl
  try simp only [Act.put, List.setIfInBounds_toArray, List.set_cons_zero, List.set_cons_succ]
  refine wpAnyH_takeD (some 53) (i := 1) (v := ?_) rfl rfl (by kernel_rfl) (by kernel_rfl) (by kernel_rfl) (fun _ _ _ h => h) (.inl ⟨by kernel_rfl, ?_⟩) ⟨RF.out.below q FSZ.out.1, RY⟩ ?_
  rotate_left
  · intro w' hw'; go_simp; try with_reducible rfl
  try simp only [Act.put, List.setIfInBounds_toArray, List.set_cons_zero, List.set_cons_succ]
  refine wpAnyH_takeD (some 54) (i := 2) (v := ?_) rfl rfl (by kernel_rfl) (by kernel_rfl) (by kernel_rfl) (fun _ _ _ h => h) (.inl ⟨by kernel_rfl, ?_⟩) ⟨RF.out.below q FSZ.out.1, RY⟩ ?_
  rotate_left
  · intro w' hw'; obtain ⟨hr1, hr2⟩ := hw'; have g0 := Row.cell hr1 0; have g1 := Row.cell hr1 1; have g2 := Row.cell hr2 0; have g3 := Row.cell hr2 1; have g4 := Row.cell hr2 2; simp only [List.getElem?_cons_zero, List.getElem?_cons_succ] at g0 g1 g2 g3 g4; clear hr1 hr2; go_simp; try with_reducible rfl
  try simp only [Act.put, List.setIfInBounds_toArray, List.set_cons_zero, List.set_cons_succ]
  refine wpAnyH_takeD (some 56) (i := 4) (v := ?_) rfl rfl (by kernel_rfl) (by kernel_rfl) (by kernel_rfl) (fun _ _ _ h => h) (.inl ⟨by kernel_rfl, ?_⟩) ⟨RF.out.below q FSZ.out.1, RY⟩ ?_
  rotate_left
  · intro w' hw'; obtain ⟨hr1, hr2⟩ := hw'; have g0 := Row.cell hr1 0; have g1 := Row.cell hr1 1; have g2 := Row.cell hr2 0; have g3 := Row.cell hr2 1; have g4 := Row.cell hr2 2; simp only [List.getElem?_cons_zero, List.getElem?_cons_succ] at g0 g1 g2 g3 g4; clear hr1 hr2; go_simp; try with_reducible rfl
  try simp only [Act.put, List.setIfInBounds_toArray, List.set_cons_zero, List.set_cons_succ]
  refine wpAnyH_all (rs := [3]) (by kernel_rfl) (by simp) ?_
  intro i hi; simp only [List.mem_cons, List.not_mem_nil, or_false] at hi
  subst hi
  refine wpOp_step rfl (fun K hK => ?_)
  go_simp
  with_reducible refine (toFlow_anyT p0 q0 y1).mono ?_
  rintro e y2 ⟨rfl, hB⟩
  try replace S1 := S1.below hB S1.1
  try replace T1 := T1.below hB T1.1
  try replace K1 := K1.below hB K1.1
  try replace B1 := B1.below hB B1.1
  try replace RY := RY.below hB RY.lt
  replace q := q.trans (hB.mono q.size)
  clear hB
  refine hK _ _ ⟨⟨RF.out.below q FSZ.out.1, RY⟩, ?_⟩
  try simp only [Act.put, List.setIfInBounds_toArray, List.set_cons_zero, List.set_cons_succ]
  clear hK K
  refine wpAnyH_all (rs := [5]) (by kernel_rfl) (by simp) ?_
  intro i hi; simp only [List.mem_cons, List.not_mem_nil, or_false] at hi
  subst hi
  refine wpOp_step rfl (fun K hK => ?_)
  go_simp
  with_reducible refine (HM.out _ _ _ _ y2 S1 T1 K1 B1).mono ?_
  rintro e y3 ⟨rfl, hB⟩
  try replace S1 := S1.below hB S1.1
  try replace T1 := T1.below hB T1.1
  try replace K1 := K1.below hB K1.1
  try replace B1 := B1.below hB B1.1
  try replace RY := RY.below hB RY.lt
  replace q := q.trans (hB.mono q.size)
  clear hB
  refine hK _ _ ⟨⟨RF.out.below q FSZ.out.1, RY⟩, ?_⟩
  try simp only [Act.put, List.setIfInBounds_toArray, List.set_cons_zero, List.set_cons_succ]
  clear hK K
  refine wpAnyH_takeD (some 51) (i := 6) (v := ?_) rfl rfl (by kernel_rfl) (by kernel_rfl) (by kernel_rfl) (fun _ _ _ h => h) (.inl ⟨by kernel_rfl, ?_⟩) ⟨RF.out.below q FSZ.out.1, RY⟩ ?_
  rotate_left
  · intro w' hw'; go_simp; try with_reducible rfl
  try simp only [Act.put, List.setIfInBounds_toArray, List.set_cons_zero, List.set_cons_succ]
  refine wpAnyH_takeD (some 58) (i := 7) (v := ?_) rfl rfl (by kernel_rfl) (by kernel_rfl) (by kernel_rfl) (fun _ _ _ h => h) (.inl ⟨by kernel_rfl, ?_⟩) ⟨RF.out.below q FSZ.out.1, RY⟩ ?_
  rotate_left
  · intro w' hw'; go_simp; try with_reducible rfl
  try simp only [Act.put, List.setIfInBounds_toArray, List.set_cons_zero, List.set_cons_succ]
  refine wpAnyH_takeD (some 59) (i := 8) (v := ?_) rfl rfl (by kernel_rfl) (by kernel_rfl) (by kernel_rfl) (fun _ _ _ h => h) (.inl ⟨by kernel_rfl, ?_⟩) ⟨RF.out.below q FSZ.out.1, RY⟩ ?_
  rotate_left
  · intro w' hw'; go_simp; try with_reducible rfl
  try simp only [Act.put, List.setIfInBounds_toArray, List.set_cons_zero, List.set_cons_succ]
  refine wpAnyH_takeD (some 60) (i := 9) (v := ?_) rfl rfl (by kernel_rfl) (by kernel_rfl) (by kernel_rfl) (fun _ _ _ h => h) (.inl ⟨by kernel_rfl, ?_⟩) ⟨RF.out.below q FSZ.out.1, RY⟩ ?_
  rotate_left
  · intro w' hw'; go_simp; try with_reducible rfl
  try simp only [Act.put, List.setIfInBounds_toArray, List.set_cons_zero, List.set_cons_succ]
  refine wpAnyH_takeD (some 16) (i := 10) (v := ?_) rfl rfl (by kernel_rfl) (by kernel_rfl) (by kernel_rfl) (fun _ _ _ h => h) (.inl ⟨by kernel_rfl, ?_⟩) ⟨RF.out.below q FSZ.out.1, RY⟩ ?_
  rotate_left
  · intro w' hw'; go_simp; try with_reducible rfl
  try simp only [Act.put, List.setIfInBounds_toArray, List.set_cons_zero, List.set_cons_succ]
  refine wpAnyH_takeD (some 17) (i := 11) (v := ?_) rfl rfl (by kernel_rfl) (by kernel_rfl) (by kernel_rfl) (fun _ _ _ h => h) (.inl ⟨by kernel_rfl, ?_⟩) ⟨RF.out.below q FSZ.out.1, RY⟩ ?_
  rotate_left
  · intro w' hw'; go_simp; try with_reducible rfl
  try simp only [Act.put, List.setIfInBounds_toArray, List.set_cons_zero, List.set_cons_succ]
  refine wpAnyH_takeD (some 18) (i := 12) (v := ?_) rfl rfl (by kernel_rfl) (by kernel_rfl) (by kernel_rfl) (fun _ _ _ h => h) (.inl ⟨by kernel_rfl, ?_⟩) ⟨RF.out.below q FSZ.out.1, RY⟩ ?_
  rotate_left
  · intro w' hw'; go_simp; try with_reducible rfl
  try simp only [Act.put, List.setIfInBounds_toArray, List.set_cons_zero, List.set_cons_succ]
  refine wpAnyH_done (by kernel_rfl) ?_ _
  have S1h := hid S1; have T1h := hid T1; have K1h := hid K1; have B1h := hid B1; have RYh := hid RY; have Qh := hid q
  clear S1 T1 K1 B1 RY q
  go_wp2_with fail
  have S1 := S1h.out; have T1 := T1h.out; have K1 := K1h.out; have B1 := B1h.out; have RY := RYh.out; have q := Qh.out
  clear S1h T1h K1h B1h RYh Qh
  with_reducible refine (toStack_any a len cap zs y3 (HI.out.below q (Nat.le_refl _)) hle).mono ?_
  rintro e u6 ⟨rfl, hB, S2, _⟩
  try replace S1 := S1.below hB S1.1
  try replace T1 := T1.below hB T1.1
  try replace K1 := K1.below hB K1.1
  try replace B1 := B1.below hB B1.1
  try replace RY := RY.below hB RY.lt
  replace q := q.trans (hB.mono q.size)
  clear hB
  have HEQ := hid (eqStack_same _ _ len len len zs u6 S1 S2 hn.out)
  clear S2
  go_wp2_with fail
  with_reducible refine HEQ.out.mono ?_
  rintro e u7 ⟨rfl, hB⟩
  try replace S1 := S1.below hB S1.1
  try replace T1 := T1.below hB T1.1
  try replace K1 := K1.below hB K1.1
  try replace B1 := B1.below hB B1.1
  try replace RY := RY.below hB RY.lt
  replace q := q.trans (hB.mono q.size)
  clear hB HEQ
  have HTR := hid (toReads_any a' len' cap' js u7 (HJ.out.below q (Nat.le_refl _)) hle')
  go_wp2_with fail
  with_reducible refine HTR.out.mono ?_
  rintro e u8 ⟨rfl, hB, T2, _⟩
  try replace S1 := S1.below hB S1.1
  try replace T1 := T1.below hB T1.1
  try replace K1 := K1.below hB K1.1
  try replace B1 := B1.below hB B1.1
  try replace RY := RY.below hB RY.lt
  replace q := q.trans (hB.mono q.size)
  clear hB HTR
  have HEQ := hid (eqReads_same _ _ len' len' len' js u8 T1 T2 hm.out)
  clear T2
  go_wp2_with fail
  with_reducible refine HEQ.out.mono ?_
  rintro e u9 ⟨rfl, hB⟩
  try replace S1 := S1.below hB S1.1
  try replace T1 := T1.below hB T1.1
  try replace K1 := K1.below hB K1.1
  try replace B1 := B1.below hB B1.1
  try replace RY := RY.below hB RY.lt
  replace q := q.trans (hB.mono q.size)
  clear hB HEQ
  go_upto_region 21 with fail
  refine wp_region_held (S := fun W' : World => Row W' (F + 1) 38 [.slice ak lk ck, .slice ab lb cb, .int .i64 c] ∧ Row W' Y 44 [.slice (some ⟨gB, 0, none⟩) lk lk, .slice (some ⟨gG, 0, none⟩) lb lb, .int .i64 c]) (by kernel_rfl) ?_
  change wpAnyH _ _ _ _ _ _ _ _ (World.drew _)
  obtain ⟨y9, hy9⟩ : ∃ X, X = World.drew u9 := ⟨_, rfl⟩
  have hB : Below u9.heap.size u9 y9 := by rw [hy9]; exact (Below.refl _ _).drew
  try replace S1 := S1.below hB S1.1
  try replace T1 := T1.below hB T1.1
  try replace K1 := K1.below hB K1.1
  try replace B1 := B1.below hB B1.1
  try replace RY := RY.below hB RY.lt
  replace q := q.trans (hB.mono q.size)
  rw [← hy9]
  clear hy9 hB
  refine wpAnyH_takeD (some 84) (i := 0) (v := ?_) rfl rfl (by kernel_rfl) (by kernel_rfl) (by kernel_rfl) (fun _ _ _ h => h) (.inl ⟨by kernel_rfl, ?_⟩) ⟨RX.out.below q FSZ.out.2, RY⟩ ?_
  rotate_left
  · intro w' hw'; obtain ⟨hr1, hr2⟩ := hw'; have g0 := Row.cell hr1 0; have g1 := Row.cell hr1 1; have g5 := Row.cell hr1 2; have g2 := Row.cell hr2 0; have g3 := Row.cell hr2 1; have g4 := Row.cell hr2 2; simp only [List.getElem?_cons_zero, List.getElem?_cons_succ] at g0 g1 g2 g3 g4 g5; clear hr1 hr2; go_simp; try with_reducible rfl
  try simp only [Act.put, List.setIfInBounds_toArray, List.set_cons_zero, List.set_cons_succ]
  refine wpAnyH_takeD (some 85) (i := 1) (v := ?_) rfl rfl (by kernel_rfl) (by kernel_rfl) (by kernel_rfl) (fun _ _ _ h => h) (.inl ⟨by kernel_rfl, ?_⟩) ⟨RX.out.below q FSZ.out.2, RY⟩ ?_
  rotate_left
  · intro w' hw'; obtain ⟨hr1, hr2⟩ := hw'; have g0 := Row.cell hr1 0; have g1 := Row.cell hr1 1; have g5 := Row.cell hr1 2; have g2 := Row.cell hr2 0; have g3 := Row.cell hr2 1; have g4 := Row.cell hr2 2; simp only [List.getElem?_cons_zero, List.getElem?_cons_succ] at g0 g1 g2 g3 g4 g5; clear hr1 hr2; go_simp; try with_reducible rfl
  try simp only [Act.put, List.setIfInBounds_toArray, List.set_cons_zero, List.set_cons_succ]
  refine wpAnyH_all (rs := [2]) (by kernel_rfl) (by simp) ?_
  intro i hi; simp only [List.mem_cons, List.not_mem_nil, or_false] at hi
  subst hi
  refine wpOp_step rfl (fun K hK => ?_)
  go_simp
  with_reducible refine (toStory_any ak lk ck ks ab lb cb bs c y9 (HKI.out.below q (Nat.le_refl _)) (HBI.out.below q (Nat.le_refl _)) hke hbe).mono ?_
  rintro e z1 ⟨gB2, gG2, rfl, hB, K2, B2⟩
  try replace S1 := S1.below hB S1.1
  try replace T1 := T1.below hB T1.1
  try replace K1 := K1.below hB K1.1
  try replace B1 := B1.below hB B1.1
  try replace RY := RY.below hB RY.lt
  replace q := q.trans (hB.mono q.size)
  clear hB
  refine hK _ _ ⟨⟨RX.out.below q FSZ.out.2, RY⟩, ?_⟩
  try simp only [Act.put, List.setIfInBounds_toArray, List.set_cons_zero, List.set_cons_succ]
  clear hK K
  refine wpAnyH_all (rs := [3]) (by kernel_rfl) (by simp) ?_
  intro i hi; simp only [List.mem_cons, List.not_mem_nil, or_false] at hi
  subst hi
  refine wpOp_step rfl (fun K hK => ?_)
  go_simp
  with_reducible refine (eqStory_same _ _ _ _ lk lb lk lk lb lb ks bs c z1 K1 K2 B1 B2 hkn.out hbn.out).mono ?_
  rintro e z2 ⟨rfl, hB⟩
  try replace S1 := S1.below hB S1.1
  try replace T1 := T1.below hB T1.1
  try replace K1 := K1.below hB K1.1
  try replace B1 := B1.below hB B1.1
  try replace RY := RY.below hB RY.lt
  replace q := q.trans (hB.mono q.size)
  clear hB
  refine hK _ _ ⟨⟨RX.out.below q FSZ.out.2, RY⟩, ?_⟩
  try simp only [Act.put, List.setIfInBounds_toArray, List.set_cons_zero, List.set_cons_succ]
  clear hK K
  refine wpAnyH_takeD (some 88) (i := 4) (v := ?_) rfl rfl (by kernel_rfl) (by kernel_rfl) (by kernel_rfl) (fun _ _ _ h => h) (.inl ⟨by kernel_rfl, ?_⟩) ⟨RX.out.below q FSZ.out.2, RY⟩ ?_
  rotate_left
  · intro w' hw'; go_simp; try with_reducible rfl
  try simp only [Act.put, List.setIfInBounds_toArray, List.set_cons_zero, List.set_cons_succ]
  refine wpAnyH_done (by kernel_rfl) ?_ _
  have QQ := hid q
  clear q S1 T1 K1 B1 RY
  go_wp2_with fail
  go_ret
  exact ⟨rfl, BW.out.trans (QQ.out.mono BW.out.size)⟩
end Go.Proofs.Ytilbpgcgjbblaaa
