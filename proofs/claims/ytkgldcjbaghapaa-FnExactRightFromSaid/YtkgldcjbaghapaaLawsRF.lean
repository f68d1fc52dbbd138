/- The walk of the law RightFrom. -/
import Derived.Test.YtkgldcjbaghapaaRfS
import Derived.Test.YtkgldcjbaghapaaOpenI
namespace Go.Proofs.Ytkgldcjbaghapaa
open Go.RowKit
theorem ints_e (e0 e1 e2 e3 e4 e5 e6 e7 : Int) : ∀ v ∈ ([.int .u8 e0, .int .u8 e1, .int .u8 e2, .int .u8 e3, .int .u8 e4, .int .u8 e5, .int .u8 e6, .int .u8 e7] : List Value), ∃ e : Int, v = .int .u8 e := by
  intro v hv
  simp only [List.mem_cons, List.not_mem_nil, or_false] at hv
  rcases hv with rfl | rfl | rfl | rfl | rfl | rfl | rfl | rfl <;> exact ⟨_, rfl⟩
set_option maxRecDepth 100000 in
set_option maxHeartbeats 2000000 in
theorem law_FnExactRightFrom (a : Option Addr) (len cap : Nat) (zs : List Int) (a' : Option Addr) (len' cap' : Nat) (js : List (Int × Int)) (d0 d1 d2 d3 d4 d5 d6 d7 : Int) (w : World) (hl : len ≤ 9223372036854775807) (hl' : len' ≤ 9223372036854775807) (h : InB w a len zs) (h' : InJ w a' len' js) :
    Calls Try.prog 4 #[.agg #[.slice a len cap, .slice a' len' cap'], .agg #[.int .i64 d0, .int .i64 d1, .int .i64 d2, .int .i64 d3, .int .i64 d4, .int .i64 d5, .int .i64 d6, .int .i64 d7]] w fun e w' => e = .returned (.bool true) ∧ Below w.heap.size w w' := by
  have bW : Below w.heap.size w ((w.alloc (.cells #[.slice a len cap, .slice a' len' cap'] 25)).alloc (.cells #[.int .i64 d0, .int .i64 d1, .int .i64 d2, .int .i64 d3, .int .i64 d4, .int .i64 d5, .int .i64 d6, .int .i64 d7] 26)) := ((Below.refl _ _).alloc (Nat.le_refl _) _).alloc (by simp) _
  have rm := (Row.new w 25 [.slice a len cap, .slice a' len' cap']).alloc (.cells #[.int .i64 d0, .int .i64 d1, .int .i64 d2, .int .i64 d3, .int .i64 d4, .int .i64 d5, .int .i64 d6, .int .i64 d7] 26)
  have rp := Row.new (w.alloc (.cells #[.slice a len cap, .slice a' len' cap'] 25)) 26 [.int .i64 d0, .int .i64 d1, .int .i64 d2, .int .i64 d3, .int .i64 d4, .int .i64 d5, .int .i64 d6, .int .i64 d7]
  simp only [World.size_alloc] at rp
  have hi := Try.infoParts
  have hd := Try.infoDigits8
  have p0 := rm.cell 0
  have p1 := rm.cell 1
  simp only [List.getElem?_cons_zero, List.getElem?_cons_succ] at p0 p1
  by_cases hs : 1048576 < len + len'
  · have HZ := hid (fun w => szMotion_no a len cap a' len' cap' w hs hl hl')
    clear h h' hs hl hl'
    go_enter Try.func4, Try.ntmps4
    go_wp2_with fail
    refine (HZ.out _).mono ?_
    rintro e w' ⟨rfl, rfl⟩
    go_wp2_with fail
    go_ret
    exact ⟨rfl, bW.alloc (by simp; omega) _⟩
  have hle : len ≤ 1048576 := by omega
  have hle' : len' ≤ 1048576 := by omega
  have HZ := hid (fun w => szMotion_ok a len cap a' len' cap' w (by omega))
  have hz : (0 : Int) ≤ 1048576 - (len : Int) - (len' : Int) := by omega
  have hI := hid h
  have hJ := hid h'
  have hn : Hid (len = zs.length) := hid h.1.symm
  have hm : Hid (len' = js.length) := hid h'.1.symm
  have hjb := hid (fun j (hj : j < js.length) => h'.2.1 j (by rw [← h'.1]; exact hj))
  have HS := hid (fun (B G : Nat) (w1 : World) (hS1 : Stk w1 B zs) (hJ1 : Jst w1 G js) => specRightFrom_any B len len G len' len' zs js d0 d1 d2 d3 d4 d5 d6 d7 w1 hS1 hJ1 hn.out hm.out hjb.out)
  have HM := hid (fun (B G : Nat) (w1 : World) (hS1 : Stk w1 B zs) (hJ1 : Jst w1 G js) => implRightFrom_any B len len G len' len' zs js d0 d1 d2 d3 d4 d5 d6 d7 w1 hS1 hJ1 hn.out hm.out)
  obtain ⟨e0, e1, e2, e3, e4, e5, e6, e7, hev⟩ := rfR_oct zs js d0 d1 d2 d3 d4 d5 d6 d7
  obtain ⟨r0, hr0⟩ : ∃ r, r = (rfR zs js [d0, d1, d2, d3, d4, d5, d6, d7]).2 := ⟨_, rfl⟩
  rw [hev, ← hr0] at HS HM
  have hb0 : (r0 != r0) = false := by simp
  clear h h' hs hl hl' hev hr0
  go_enter Try.func4, Try.ntmps4
  go_wp2_with fail
  refine (HZ.out _).mono ?_
  rintro e w' ⟨rfl, rfl⟩
  go_upto_region 5 with fail
  clear p0 p1
  replace rm := rm.alloc (.cells #[.slice a len cap, .slice a' len' cap'] 25)
  replace rp := rp.alloc (.cells #[.slice a len cap, .slice a' len' cap'] 25)
  replace bW := bW.alloc (by simp; omega) (.cells #[.slice a len cap, .slice a' len' cap'] 25)
  go_cut [6, 7] (fun s8 s9 wx => ∃ (g : Nat) (W : World), W = wx ∧ s8 = .pointer (some ⟨g, 0, none⟩) ∧ s9 = .int .i64 r0 ∧ Row W g 29 ([.int .u8 e0, .int .u8 e1, .int .u8 e2, .int .u8 e3, .int .u8 e4, .int .u8 e5, .int .u8 e6, .int .u8 e7] : List Value) ∧ Row W w.heap.size 25 [.slice a len cap, .slice a' len' cap'] ∧ Row W (w.heap.size + 1) 26 [.int .i64 d0, .int .i64 d1, .int .i64 d2, .int .i64 d3, .int .i64 d4, .int .i64 d5, .int .i64 d6, .int .i64 d7] ∧ Below w.heap.size w W)
  case first =>
    refine wp_region_held (S := fun W' : World => Row W' w.heap.size 25 [.slice a len cap, .slice a' len' cap'] ∧ Row W' (w.heap.size + 1) 26 [.int .i64 d0, .int .i64 d1, .int .i64 d2, .int .i64 d3, .int .i64 d4, .int .i64 d5, .int .i64 d6, .int .i64 d7]) (by kernel_rfl) ?_
    change wpAnyH _ _ _ _ _ _ _ _ (World.drew _)
    obtain ⟨W0, hW0⟩ : ∃ X, X = World.drew ((((w.alloc (.cells #[.slice a len cap, .slice a' len' cap'] 25)).alloc (.cells #[.int .i64 d0, .int .i64 d1, .int .i64 d2, .int .i64 d3, .int .i64 d4, .int .i64 d5, .int .i64 d6, .int .i64 d7] 26)).alloc (.cells #[.slice a len cap, .slice a' len' cap'] 25))) := ⟨_, rfl⟩
    have hD0 : Below ((((w.alloc (.cells #[.slice a len cap, .slice a' len' cap'] 25)).alloc (.cells #[.int .i64 d0, .int .i64 d1, .int .i64 d2, .int .i64 d3, .int .i64 d4, .int .i64 d5, .int .i64 d6, .int .i64 d7] 26)).alloc (.cells #[.slice a len cap, .slice a' len' cap'] 25))).heap.size ((((w.alloc (.cells #[.slice a len cap, .slice a' len' cap'] 25)).alloc (.cells #[.int .i64 d0, .int .i64 d1, .int .i64 d2, .int .i64 d3, .int .i64 d4, .int .i64 d5, .int .i64 d6, .int .i64 d7] 26)).alloc (.cells #[.slice a len cap, .slice a' len' cap'] 25))) W0 := by rw [hW0]; exact (Below.refl _ _).drew
    replace rm := rm.below hD0 rm.lt
    replace rp := rp.below hD0 rp.lt
    have bW0 := bW.trans (hD0.mono bW.size)
    have bR : Below W0.heap.size W0 W0 := Below.refl _ _
    rw [← hW0]
    clear hW0 hD0
    have l_rm := rm.lt
    have l_rp := rp.lt
    have hS0 : (fun W' : World => Row W' w.heap.size 25 [.slice a len cap, .slice a' len' cap'] ∧ Row W' (w.heap.size + 1) 26 [.int .i64 d0, .int .i64 d1, .int .i64 d2, .int .i64 d3, .int .i64 d4, .int .i64 d5, .int .i64 d6, .int .i64 d7]) W0 := ⟨rm, rp⟩
    refine wpAnyH_takeD (some 17) (i := 0) (v := ?_) rfl rfl (by kernel_rfl) (by kernel_rfl) (by kernel_rfl) (fun _ _ _ h => h) (.inl ⟨by kernel_rfl, ?_⟩) hS0 ?_
    rotate_left
    · intro w' hw'; have hrow := hw'.1; have e0 := Row.cell hrow 0; have e1 := Row.cell hrow 1; simp only [List.getElem?_cons_zero, List.getElem?_cons_succ] at e0 e1; clear hrow hw'; go_simp; try with_reducible rfl
    try simp only [Act.put, List.setIfInBounds_toArray, List.set_cons_zero, List.set_cons_succ]
    refine wpAnyH_takeD (some 19) (i := 2) (v := ?_) rfl rfl (by kernel_rfl) (by kernel_rfl) (by kernel_rfl) (fun _ _ _ h => h) (.inl ⟨by kernel_rfl, ?_⟩) hS0 ?_
    rotate_left
    · intro w' hw'; have hrow := hw'.2; have e0 := Row.cell hrow 0; have e1 := Row.cell hrow 1; have e2 := Row.cell hrow 2; have e3 := Row.cell hrow 3; have e4 := Row.cell hrow 4; have e5 := Row.cell hrow 5; have e6 := Row.cell hrow 6; have e7 := Row.cell hrow 7; simp only [List.getElem?_cons_zero, List.getElem?_cons_succ] at e0 e1 e2 e3 e4 e5 e6 e7; clear hrow hw'; go_simp; try with_reducible rfl
    try simp only [Act.put, List.setIfInBounds_toArray, List.set_cons_zero, List.set_cons_succ]
    refine wpAnyH_all (rs := [1, 8]) (by kernel_rfl) (by simp) ?_
    intro i hi; simp only [List.mem_cons, List.not_mem_nil, or_false] at hi
    rcases hi with rfl | rfl
    · refine wpOp_step rfl (fun K hK => ?_)
      go_simp
      with_reducible refine (toMotion_any a len cap zs a' len' cap' js W0 (hI.out.below (bW0.trans (bR.mono bW0.size)) (Nat.le_refl _)) (hJ.out.below (bW0.trans (bR.mono bW0.size)) (Nat.le_refl _)) hle hle').mono ?_
      rintro e v12 ⟨B1, G1, rfl, hB12, sk, sj, _, _⟩
      replace rm := rm.below hB12 rm.lt
      replace rp := rp.below hB12 rp.lt
      replace bR := bR.trans (hB12.mono bR.size)
      have hS12 : (fun W' : World => Row W' w.heap.size 25 [.slice a len cap, .slice a' len' cap'] ∧ Row W' (w.heap.size + 1) 26 [.int .i64 d0, .int .i64 d1, .int .i64 d2, .int .i64 d3, .int .i64 d4, .int .i64 d5, .int .i64 d6, .int .i64 d7]) v12 := ⟨rm, rp⟩
      refine hK _ _ ⟨hS12, ?_⟩
      try simp only [Act.put, List.setIfInBounds_toArray, List.set_cons_zero, List.set_cons_succ]
      clear hB12 hK K hS0
      refine wpAnyH_all (rs := [3, 8]) (by kernel_rfl) (by simp) ?_
      intro i hi; simp only [List.mem_cons, List.not_mem_nil, or_false] at hi
      rcases hi with rfl | rfl
      · refine wpOp_step rfl (fun K hK => ?_)
        go_simp
        with_reducible refine (toParts_any d0 d1 d2 d3 d4 d5 d6 d7 v12).mono ?_
        rintro e v13 ⟨rfl, hB13⟩
        replace rm := rm.below hB13 rm.lt
        replace rp := rp.below hB13 rp.lt
        replace sk := sk.below hB13 sk.1
        replace sj := sj.below hB13 sj.1
        replace bR := bR.trans (hB13.mono bR.size)
        have hS13 : (fun W' : World => Row W' w.heap.size 25 [.slice a len cap, .slice a' len' cap'] ∧ Row W' (w.heap.size + 1) 26 [.int .i64 d0, .int .i64 d1, .int .i64 d2, .int .i64 d3, .int .i64 d4, .int .i64 d5, .int .i64 d6, .int .i64 d7]) v13 := ⟨rm, rp⟩
        refine hK _ _ ⟨hS13, ?_⟩
        try simp only [Act.put, List.setIfInBounds_toArray, List.set_cons_zero, List.set_cons_succ]
        clear hB13 hK K hS12
        refine wpAnyH_all (rs := [4, 8]) (by kernel_rfl) (by simp) ?_
        intro i hi; simp only [List.mem_cons, List.not_mem_nil, or_false] at hi
        rcases hi with rfl | rfl
        · refine wpOp_step rfl (fun K hK => ?_)
          go_simp
          with_reducible refine (HS.out B1 G1 v13 sk sj).mono ?_
          rintro e v14 ⟨rfl, hB14⟩
          replace rm := rm.below hB14 rm.lt
          replace rp := rp.below hB14 rp.lt
          replace sk := sk.below hB14 sk.1
          replace sj := sj.below hB14 sj.1
          replace bR := bR.trans (hB14.mono bR.size)
          have hS14 : (fun W' : World => Row W' w.heap.size 25 [.slice a len cap, .slice a' len' cap'] ∧ Row W' (w.heap.size + 1) 26 [.int .i64 d0, .int .i64 d1, .int .i64 d2, .int .i64 d3, .int .i64 d4, .int .i64 d5, .int .i64 d6, .int .i64 d7]) v14 := ⟨rm, rp⟩
          refine hK _ _ ⟨hS14, ?_⟩
          try simp only [Act.put, List.setIfInBounds_toArray, List.set_cons_zero, List.set_cons_succ]
          clear hB14 hK K hS13
          refine wpAnyH_takeD (some 16) (i := 5) (v := ?_) rfl rfl (by kernel_rfl) (by kernel_rfl) (by kernel_rfl) (fun _ _ _ h => h) (.inl ⟨by kernel_rfl, ?_⟩) hS14 ?_
          rotate_left
          · intro w' hw'; go_simp; try with_reducible rfl
          try simp only [Act.put, List.setIfInBounds_toArray, List.set_cons_zero, List.set_cons_succ]
          refine wpAnyH_takeD (some 22) (i := 6) (v := ?_) rfl rfl (by kernel_rfl) (by kernel_rfl) (by kernel_rfl) (fun _ _ _ h => h) (.inl ⟨by kernel_rfl, ?_⟩) hS14 ?_
          rotate_left
          · intro w' hw'; go_simp; try with_reducible rfl
          try simp only [Act.put, List.setIfInBounds_toArray, List.set_cons_zero, List.set_cons_succ]
          refine wpAnyH_takeD (some 23) (i := 7) (v := ?_) rfl rfl (by kernel_rfl) (by kernel_rfl) (by kernel_rfl) (fun _ _ _ h => h) (.inl ⟨by kernel_rfl, ?_⟩) hS14 ?_
          rotate_left
          · intro w' hw'; go_simp; try with_reducible rfl
          try simp only [Act.put, List.setIfInBounds_toArray, List.set_cons_zero, List.set_cons_succ]
          refine wpAnyH_all (rs := [8]) (by kernel_rfl) (by simp) ?_
          intro i hi; simp only [List.mem_cons, List.not_mem_nil, or_false] at hi
          subst hi
          refine wpOp_step rfl (fun K hK => ?_)
          go_simp
          have rg := Row.new v14 29 [.int .u8 0, .int .u8 0, .int .u8 0, .int .u8 0, .int .u8 0, .int .u8 0, .int .u8 0, .int .u8 0]
          have hA : Below v14.heap.size v14 (v14.alloc (.cells #[.int .u8 0, .int .u8 0, .int .u8 0, .int .u8 0, .int .u8 0, .int .u8 0, .int .u8 0, .int .u8 0] 29)) := (Below.refl _ _).alloc (Nat.le_refl _) _
          replace rm := rm.below hA rm.lt
          replace rp := rp.below hA rp.lt
          replace sk := sk.below hA sk.1
          replace sj := sj.below hA sj.1
          have lg := bR.size
          replace bR := bR.trans (hA.mono bR.size)
          have hS15 : (fun W' : World => Row W' w.heap.size 25 [.slice a len cap, .slice a' len' cap'] ∧ Row W' (w.heap.size + 1) 26 [.int .i64 d0, .int .i64 d1, .int .i64 d2, .int .i64 d3, .int .i64 d4, .int .i64 d5, .int .i64 d6, .int .i64 d7]) (v14.alloc (.cells #[.int .u8 0, .int .u8 0, .int .u8 0, .int .u8 0, .int .u8 0, .int .u8 0, .int .u8 0, .int .u8 0] 29)) := ⟨rm, rp⟩
          refine hK _ _ ⟨hS15, ?_⟩
          try simp only [Act.put, List.setIfInBounds_toArray, List.set_cons_zero, List.set_cons_succ]
          obtain ⟨X15, hX15⟩ : ∃ X, X = v14.alloc (.cells #[.int .u8 0, .int .u8 0, .int .u8 0, .int .u8 0, .int .u8 0, .int .u8 0, .int .u8 0, .int .u8 0] 29) := ⟨_, rfl⟩
          rw [← hX15] at rm rp sk sj rg bR hS15 ⊢
          clear hX15 hA hK K hS14
          refine wpAnyH_all (rs := [9]) (by kernel_rfl) (by simp) ?_
          intro i hi; simp only [List.mem_cons, List.not_mem_nil, or_false] at hi
          subst hi
          refine wpOp_step rfl (fun K hK => ?_)
          rw [if_pos (by kernel_rfl)]
          refine wp_store_mid 29 (.tmp 6) (.tmp 22) rfl (v14.heap.size) 0 ([.int .u8 e0, .int .u8 e1, .int .u8 e2, .int .u8 e3, .int .u8 e4, .int .u8 e5, .int .u8 e6, .int .u8 e7] : List Value).toArray rfl rfl (rg.there 8 rfl) hd (all_oneCell_toArray (one_of8 (ints_e e0 e1 e2 e3 e4 e5 e6 e7))) ?_
          have hA : Below (v14.heap.size) X15 (X15.setCells (v14.heap.size) 0 ([.int .u8 e0, .int .u8 e1, .int .u8 e2, .int .u8 e3, .int .u8 e4, .int .u8 e5, .int .u8 e6, .int .u8 e7] : List Value)) := below_setCells ([.int .u8 e0, .int .u8 e1, .int .u8 e2, .int .u8 e3, .int .u8 e4, .int .u8 e5, .int .u8 e6, .int .u8 e7] : List Value) 0 _ (Below.refl _ _) (Nat.le_refl _)
          replace rm := rm.below hA (Nat.lt_of_lt_of_le l_rm lg)
          replace rp := rp.below hA (Nat.lt_of_lt_of_le l_rp lg)
          replace rg := rg.setCells (ys := ([.int .u8 e0, .int .u8 e1, .int .u8 e2, .int .u8 e3, .int .u8 e4, .int .u8 e5, .int .u8 e6, .int .u8 e7] : List Value)) rfl
          replace bR := below_setCells ([.int .u8 e0, .int .u8 e1, .int .u8 e2, .int .u8 e3, .int .u8 e4, .int .u8 e5, .int .u8 e6, .int .u8 e7] : List Value) 0 _ bR (g := v14.heap.size) lg
          have hS16 : (fun W' : World => Row W' w.heap.size 25 [.slice a len cap, .slice a' len' cap'] ∧ Row W' (w.heap.size + 1) 26 [.int .i64 d0, .int .i64 d1, .int .i64 d2, .int .i64 d3, .int .i64 d4, .int .i64 d5, .int .i64 d6, .int .i64 d7]) (X15.setCells (v14.heap.size) 0 ([.int .u8 e0, .int .u8 e1, .int .u8 e2, .int .u8 e3, .int .u8 e4, .int .u8 e5, .int .u8 e6, .int .u8 e7] : List Value)) := ⟨rm, rp⟩
          refine hK _ _ ⟨hS16, ?_⟩
          try simp only [Act.put, List.setIfInBounds_toArray, List.set_cons_zero, List.set_cons_succ]
          obtain ⟨X16, hX16⟩ : ∃ X, X = X15.setCells (v14.heap.size) 0 ([.int .u8 e0, .int .u8 e1, .int .u8 e2, .int .u8 e3, .int .u8 e4, .int .u8 e5, .int .u8 e6, .int .u8 e7] : List Value) := ⟨_, rfl⟩
          rw [← hX16] at rm rp rg bR hS16 ⊢
          clear hX16 hA hK K hS15
          refine wpAnyH_takeD (some 7) (i := 10) (v := ?_) rfl rfl (by kernel_rfl) (by kernel_rfl) (by kernel_rfl) (fun _ _ _ h => h) (.inl ⟨by kernel_rfl, ?_⟩) hS16 ?_
          rotate_left
          · intro w' hw'; go_simp; try with_reducible rfl
          try simp only [Act.put, List.setIfInBounds_toArray, List.set_cons_zero, List.set_cons_succ]
          refine wpAnyH_done (by kernel_rfl) ?_ _
          go_wp2_with fail
          go_meet
          exact ⟨v14.heap.size, _, rfl, rfl, rfl, rg, rm, rp, bW0.trans (bR.mono bW0.size)⟩
        · refine wpOp_step rfl (fun K hK => ?_)
          go_simp
          have rg := Row.new v13 29 [.int .u8 0, .int .u8 0, .int .u8 0, .int .u8 0, .int .u8 0, .int .u8 0, .int .u8 0, .int .u8 0]
          have hA : Below v13.heap.size v13 (v13.alloc (.cells #[.int .u8 0, .int .u8 0, .int .u8 0, .int .u8 0, .int .u8 0, .int .u8 0, .int .u8 0, .int .u8 0] 29)) := (Below.refl _ _).alloc (Nat.le_refl _) _
          replace rm := rm.below hA rm.lt
          replace rp := rp.below hA rp.lt
          replace sk := sk.below hA sk.1
          replace sj := sj.below hA sj.1
          have lg := bR.size
          replace bR := bR.trans (hA.mono bR.size)
          have hS17 : (fun W' : World => Row W' w.heap.size 25 [.slice a len cap, .slice a' len' cap'] ∧ Row W' (w.heap.size + 1) 26 [.int .i64 d0, .int .i64 d1, .int .i64 d2, .int .i64 d3, .int .i64 d4, .int .i64 d5, .int .i64 d6, .int .i64 d7]) (v13.alloc (.cells #[.int .u8 0, .int .u8 0, .int .u8 0, .int .u8 0, .int .u8 0, .int .u8 0, .int .u8 0, .int .u8 0] 29)) := ⟨rm, rp⟩
          refine hK _ _ ⟨hS17, ?_⟩
          try simp only [Act.put, List.setIfInBounds_toArray, List.set_cons_zero, List.set_cons_succ]
          obtain ⟨X17, hX17⟩ : ∃ X, X = v13.alloc (.cells #[.int .u8 0, .int .u8 0, .int .u8 0, .int .u8 0, .int .u8 0, .int .u8 0, .int .u8 0, .int .u8 0] 29) := ⟨_, rfl⟩
          rw [← hX17] at rm rp sk sj rg bR hS17 ⊢
          clear hX17 hA hK K hS13
          refine wpAnyH_all (rs := [4]) (by kernel_rfl) (by simp) ?_
          intro i hi; simp only [List.mem_cons, List.not_mem_nil, or_false] at hi
          subst hi
          refine wpOp_step rfl (fun K hK => ?_)
          go_simp
          with_reducible refine (HS.out B1 G1 X17 sk sj).mono ?_
          rintro e v18 ⟨rfl, hB18⟩
          replace rm := rm.below hB18 rm.lt
          replace rp := rp.below hB18 rp.lt
          replace sk := sk.below hB18 sk.1
          replace sj := sj.below hB18 sj.1
          replace rg := rg.below hB18 rg.lt
          replace bR := bR.trans (hB18.mono bR.size)
          have hS18 : (fun W' : World => Row W' w.heap.size 25 [.slice a len cap, .slice a' len' cap'] ∧ Row W' (w.heap.size + 1) 26 [.int .i64 d0, .int .i64 d1, .int .i64 d2, .int .i64 d3, .int .i64 d4, .int .i64 d5, .int .i64 d6, .int .i64 d7]) v18 := ⟨rm, rp⟩
          refine hK _ _ ⟨hS18, ?_⟩
          try simp only [Act.put, List.setIfInBounds_toArray, List.set_cons_zero, List.set_cons_succ]
          clear hB18 hK K hS17
          refine wpAnyH_takeD (some 16) (i := 5) (v := ?_) rfl rfl (by kernel_rfl) (by kernel_rfl) (by kernel_rfl) (fun _ _ _ h => h) (.inl ⟨by kernel_rfl, ?_⟩) hS18 ?_
          rotate_left
          · intro w' hw'; go_simp; try with_reducible rfl
          try simp only [Act.put, List.setIfInBounds_toArray, List.set_cons_zero, List.set_cons_succ]
          refine wpAnyH_takeD (some 22) (i := 6) (v := ?_) rfl rfl (by kernel_rfl) (by kernel_rfl) (by kernel_rfl) (fun _ _ _ h => h) (.inl ⟨by kernel_rfl, ?_⟩) hS18 ?_
          rotate_left
          · intro w' hw'; go_simp; try with_reducible rfl
          try simp only [Act.put, List.setIfInBounds_toArray, List.set_cons_zero, List.set_cons_succ]
          refine wpAnyH_takeD (some 23) (i := 7) (v := ?_) rfl rfl (by kernel_rfl) (by kernel_rfl) (by kernel_rfl) (fun _ _ _ h => h) (.inl ⟨by kernel_rfl, ?_⟩) hS18 ?_
          rotate_left
          · intro w' hw'; go_simp; try with_reducible rfl
          try simp only [Act.put, List.setIfInBounds_toArray, List.set_cons_zero, List.set_cons_succ]
          refine wpAnyH_all (rs := [9]) (by kernel_rfl) (by simp) ?_
          intro i hi; simp only [List.mem_cons, List.not_mem_nil, or_false] at hi
          subst hi
          refine wpOp_step rfl (fun K hK => ?_)
          rw [if_pos (by kernel_rfl)]
          refine wp_store_mid 29 (.tmp 6) (.tmp 22) rfl (v13.heap.size) 0 ([.int .u8 e0, .int .u8 e1, .int .u8 e2, .int .u8 e3, .int .u8 e4, .int .u8 e5, .int .u8 e6, .int .u8 e7] : List Value).toArray rfl rfl (rg.there 8 rfl) hd (all_oneCell_toArray (one_of8 (ints_e e0 e1 e2 e3 e4 e5 e6 e7))) ?_
          have hA : Below (v13.heap.size) v18 (v18.setCells (v13.heap.size) 0 ([.int .u8 e0, .int .u8 e1, .int .u8 e2, .int .u8 e3, .int .u8 e4, .int .u8 e5, .int .u8 e6, .int .u8 e7] : List Value)) := below_setCells ([.int .u8 e0, .int .u8 e1, .int .u8 e2, .int .u8 e3, .int .u8 e4, .int .u8 e5, .int .u8 e6, .int .u8 e7] : List Value) 0 _ (Below.refl _ _) (Nat.le_refl _)
          replace rm := rm.below hA (Nat.lt_of_lt_of_le l_rm lg)
          replace rp := rp.below hA (Nat.lt_of_lt_of_le l_rp lg)
          replace rg := rg.setCells (ys := ([.int .u8 e0, .int .u8 e1, .int .u8 e2, .int .u8 e3, .int .u8 e4, .int .u8 e5, .int .u8 e6, .int .u8 e7] : List Value)) rfl
          replace bR := below_setCells ([.int .u8 e0, .int .u8 e1, .int .u8 e2, .int .u8 e3, .int .u8 e4, .int .u8 e5, .int .u8 e6, .int .u8 e7] : List Value) 0 _ bR (g := v13.heap.size) lg
          have hS19 : (fun W' : World => Row W' w.heap.size 25 [.slice a len cap, .slice a' len' cap'] ∧ Row W' (w.heap.size + 1) 26 [.int .i64 d0, .int .i64 d1, .int .i64 d2, .int .i64 d3, .int .i64 d4, .int .i64 d5, .int .i64 d6, .int .i64 d7]) (v18.setCells (v13.heap.size) 0 ([.int .u8 e0, .int .u8 e1, .int .u8 e2, .int .u8 e3, .int .u8 e4, .int .u8 e5, .int .u8 e6, .int .u8 e7] : List Value)) := ⟨rm, rp⟩
          refine hK _ _ ⟨hS19, ?_⟩
          try simp only [Act.put, List.setIfInBounds_toArray, List.set_cons_zero, List.set_cons_succ]
          obtain ⟨X19, hX19⟩ : ∃ X, X = v18.setCells (v13.heap.size) 0 ([.int .u8 e0, .int .u8 e1, .int .u8 e2, .int .u8 e3, .int .u8 e4, .int .u8 e5, .int .u8 e6, .int .u8 e7] : List Value) := ⟨_, rfl⟩
          rw [← hX19] at rm rp rg bR hS19 ⊢
          clear hX19 hA hK K hS18
          refine wpAnyH_takeD (some 7) (i := 10) (v := ?_) rfl rfl (by kernel_rfl) (by kernel_rfl) (by kernel_rfl) (fun _ _ _ h => h) (.inl ⟨by kernel_rfl, ?_⟩) hS19 ?_
          rotate_left
          · intro w' hw'; go_simp; try with_reducible rfl
          try simp only [Act.put, List.setIfInBounds_toArray, List.set_cons_zero, List.set_cons_succ]
          refine wpAnyH_done (by kernel_rfl) ?_ _
          go_wp2_with fail
          go_meet
          exact ⟨v13.heap.size, _, rfl, rfl, rfl, rg, rm, rp, bW0.trans (bR.mono bW0.size)⟩
      · refine wpOp_step rfl (fun K hK => ?_)
        go_simp
        have rg := Row.new v12 29 [.int .u8 0, .int .u8 0, .int .u8 0, .int .u8 0, .int .u8 0, .int .u8 0, .int .u8 0, .int .u8 0]
        have hA : Below v12.heap.size v12 (v12.alloc (.cells #[.int .u8 0, .int .u8 0, .int .u8 0, .int .u8 0, .int .u8 0, .int .u8 0, .int .u8 0, .int .u8 0] 29)) := (Below.refl _ _).alloc (Nat.le_refl _) _
        replace rm := rm.below hA rm.lt
        replace rp := rp.below hA rp.lt
        replace sk := sk.below hA sk.1
        replace sj := sj.below hA sj.1
        have lg := bR.size
        replace bR := bR.trans (hA.mono bR.size)
        have hS20 : (fun W' : World => Row W' w.heap.size 25 [.slice a len cap, .slice a' len' cap'] ∧ Row W' (w.heap.size + 1) 26 [.int .i64 d0, .int .i64 d1, .int .i64 d2, .int .i64 d3, .int .i64 d4, .int .i64 d5, .int .i64 d6, .int .i64 d7]) (v12.alloc (.cells #[.int .u8 0, .int .u8 0, .int .u8 0, .int .u8 0, .int .u8 0, .int .u8 0, .int .u8 0, .int .u8 0] 29)) := ⟨rm, rp⟩
        refine hK _ _ ⟨hS20, ?_⟩
        try simp only [Act.put, List.setIfInBounds_toArray, List.set_cons_zero, List.set_cons_succ]
        obtain ⟨X20, hX20⟩ : ∃ X, X = v12.alloc (.cells #[.int .u8 0, .int .u8 0, .int .u8 0, .int .u8 0, .int .u8 0, .int .u8 0, .int .u8 0, .int .u8 0] 29) := ⟨_, rfl⟩
        rw [← hX20] at rm rp sk sj rg bR hS20 ⊢
        clear hX20 hA hK K hS12
        refine wpAnyH_all (rs := [3]) (by kernel_rfl) (by simp) ?_
        intro i hi; simp only [List.mem_cons, List.not_mem_nil, or_false] at hi
        subst hi
        refine wpOp_step rfl (fun K hK => ?_)
        go_simp
        with_reducible refine (toParts_any d0 d1 d2 d3 d4 d5 d6 d7 X20).mono ?_
        rintro e v21 ⟨rfl, hB21⟩
        replace rm := rm.below hB21 rm.lt
        replace rp := rp.below hB21 rp.lt
        replace sk := sk.below hB21 sk.1
        replace sj := sj.below hB21 sj.1
        replace rg := rg.below hB21 rg.lt
        replace bR := bR.trans (hB21.mono bR.size)
        have hS21 : (fun W' : World => Row W' w.heap.size 25 [.slice a len cap, .slice a' len' cap'] ∧ Row W' (w.heap.size + 1) 26 [.int .i64 d0, .int .i64 d1, .int .i64 d2, .int .i64 d3, .int .i64 d4, .int .i64 d5, .int .i64 d6, .int .i64 d7]) v21 := ⟨rm, rp⟩
        refine hK _ _ ⟨hS21, ?_⟩
        try simp only [Act.put, List.setIfInBounds_toArray, List.set_cons_zero, List.set_cons_succ]
        clear hB21 hK K hS20
        refine wpAnyH_all (rs := [4]) (by kernel_rfl) (by simp) ?_
        intro i hi; simp only [List.mem_cons, List.not_mem_nil, or_false] at hi
        subst hi
        refine wpOp_step rfl (fun K hK => ?_)
        go_simp
        with_reducible refine (HS.out B1 G1 v21 sk sj).mono ?_
        rintro e v22 ⟨rfl, hB22⟩
        replace rm := rm.below hB22 rm.lt
        replace rp := rp.below hB22 rp.lt
        replace sk := sk.below hB22 sk.1
        replace sj := sj.below hB22 sj.1
        replace rg := rg.below hB22 rg.lt
        replace bR := bR.trans (hB22.mono bR.size)
        have hS22 : (fun W' : World => Row W' w.heap.size 25 [.slice a len cap, .slice a' len' cap'] ∧ Row W' (w.heap.size + 1) 26 [.int .i64 d0, .int .i64 d1, .int .i64 d2, .int .i64 d3, .int .i64 d4, .int .i64 d5, .int .i64 d6, .int .i64 d7]) v22 := ⟨rm, rp⟩
        refine hK _ _ ⟨hS22, ?_⟩
        try simp only [Act.put, List.setIfInBounds_toArray, List.set_cons_zero, List.set_cons_succ]
        clear hB22 hK K hS21
        refine wpAnyH_takeD (some 16) (i := 5) (v := ?_) rfl rfl (by kernel_rfl) (by kernel_rfl) (by kernel_rfl) (fun _ _ _ h => h) (.inl ⟨by kernel_rfl, ?_⟩) hS22 ?_
        rotate_left
        · intro w' hw'; go_simp; try with_reducible rfl
        try simp only [Act.put, List.setIfInBounds_toArray, List.set_cons_zero, List.set_cons_succ]
        refine wpAnyH_takeD (some 22) (i := 6) (v := ?_) rfl rfl (by kernel_rfl) (by kernel_rfl) (by kernel_rfl) (fun _ _ _ h => h) (.inl ⟨by kernel_rfl, ?_⟩) hS22 ?_
        rotate_left
        · intro w' hw'; go_simp; try with_reducible rfl
        try simp only [Act.put, List.setIfInBounds_toArray, List.set_cons_zero, List.set_cons_succ]
        refine wpAnyH_takeD (some 23) (i := 7) (v := ?_) rfl rfl (by kernel_rfl) (by kernel_rfl) (by kernel_rfl) (fun _ _ _ h => h) (.inl ⟨by kernel_rfl, ?_⟩) hS22 ?_
        rotate_left
        · intro w' hw'; go_simp; try with_reducible rfl
        try simp only [Act.put, List.setIfInBounds_toArray, List.set_cons_zero, List.set_cons_succ]
        refine wpAnyH_all (rs := [9]) (by kernel_rfl) (by simp) ?_
        intro i hi; simp only [List.mem_cons, List.not_mem_nil, or_false] at hi
        subst hi
        refine wpOp_step rfl (fun K hK => ?_)
        rw [if_pos (by kernel_rfl)]
        refine wp_store_mid 29 (.tmp 6) (.tmp 22) rfl (v12.heap.size) 0 ([.int .u8 e0, .int .u8 e1, .int .u8 e2, .int .u8 e3, .int .u8 e4, .int .u8 e5, .int .u8 e6, .int .u8 e7] : List Value).toArray rfl rfl (rg.there 8 rfl) hd (all_oneCell_toArray (one_of8 (ints_e e0 e1 e2 e3 e4 e5 e6 e7))) ?_
        have hA : Below (v12.heap.size) v22 (v22.setCells (v12.heap.size) 0 ([.int .u8 e0, .int .u8 e1, .int .u8 e2, .int .u8 e3, .int .u8 e4, .int .u8 e5, .int .u8 e6, .int .u8 e7] : List Value)) := below_setCells ([.int .u8 e0, .int .u8 e1, .int .u8 e2, .int .u8 e3, .int .u8 e4, .int .u8 e5, .int .u8 e6, .int .u8 e7] : List Value) 0 _ (Below.refl _ _) (Nat.le_refl _)
        replace rm := rm.below hA (Nat.lt_of_lt_of_le l_rm lg)
        replace rp := rp.below hA (Nat.lt_of_lt_of_le l_rp lg)
        replace rg := rg.setCells (ys := ([.int .u8 e0, .int .u8 e1, .int .u8 e2, .int .u8 e3, .int .u8 e4, .int .u8 e5, .int .u8 e6, .int .u8 e7] : List Value)) rfl
        replace bR := below_setCells ([.int .u8 e0, .int .u8 e1, .int .u8 e2, .int .u8 e3, .int .u8 e4, .int .u8 e5, .int .u8 e6, .int .u8 e7] : List Value) 0 _ bR (g := v12.heap.size) lg
        have hS23 : (fun W' : World => Row W' w.heap.size 25 [.slice a len cap, .slice a' len' cap'] ∧ Row W' (w.heap.size + 1) 26 [.int .i64 d0, .int .i64 d1, .int .i64 d2, .int .i64 d3, .int .i64 d4, .int .i64 d5, .int .i64 d6, .int .i64 d7]) (v22.setCells (v12.heap.size) 0 ([.int .u8 e0, .int .u8 e1, .int .u8 e2, .int .u8 e3, .int .u8 e4, .int .u8 e5, .int .u8 e6, .int .u8 e7] : List Value)) := ⟨rm, rp⟩
        refine hK _ _ ⟨hS23, ?_⟩
        try simp only [Act.put, List.setIfInBounds_toArray, List.set_cons_zero, List.set_cons_succ]
        obtain ⟨X23, hX23⟩ : ∃ X, X = v22.setCells (v12.heap.size) 0 ([.int .u8 e0, .int .u8 e1, .int .u8 e2, .int .u8 e3, .int .u8 e4, .int .u8 e5, .int .u8 e6, .int .u8 e7] : List Value) := ⟨_, rfl⟩
        rw [← hX23] at rm rp rg bR hS23 ⊢
        clear hX23 hA hK K hS22
        refine wpAnyH_takeD (some 7) (i := 10) (v := ?_) rfl rfl (by kernel_rfl) (by kernel_rfl) (by kernel_rfl) (fun _ _ _ h => h) (.inl ⟨by kernel_rfl, ?_⟩) hS23 ?_
        rotate_left
        · intro w' hw'; go_simp; try with_reducible rfl
        try simp only [Act.put, List.setIfInBounds_toArray, List.set_cons_zero, List.set_cons_succ]
        refine wpAnyH_done (by kernel_rfl) ?_ _
        go_wp2_with fail
        go_meet
        exact ⟨v12.heap.size, _, rfl, rfl, rfl, rg, rm, rp, bW0.trans (bR.mono bW0.size)⟩
    · refine wpOp_step rfl (fun K hK => ?_)
      go_simp
      have rg := Row.new W0 29 [.int .u8 0, .int .u8 0, .int .u8 0, .int .u8 0, .int .u8 0, .int .u8 0, .int .u8 0, .int .u8 0]
      have hA : Below W0.heap.size W0 (W0.alloc (.cells #[.int .u8 0, .int .u8 0, .int .u8 0, .int .u8 0, .int .u8 0, .int .u8 0, .int .u8 0, .int .u8 0] 29)) := (Below.refl _ _).alloc (Nat.le_refl _) _
      replace rm := rm.below hA rm.lt
      replace rp := rp.below hA rp.lt
      have lg := bR.size
      replace bR := bR.trans (hA.mono bR.size)
      have hS24 : (fun W' : World => Row W' w.heap.size 25 [.slice a len cap, .slice a' len' cap'] ∧ Row W' (w.heap.size + 1) 26 [.int .i64 d0, .int .i64 d1, .int .i64 d2, .int .i64 d3, .int .i64 d4, .int .i64 d5, .int .i64 d6, .int .i64 d7]) (W0.alloc (.cells #[.int .u8 0, .int .u8 0, .int .u8 0, .int .u8 0, .int .u8 0, .int .u8 0, .int .u8 0, .int .u8 0] 29)) := ⟨rm, rp⟩
      refine hK _ _ ⟨hS24, ?_⟩
      try simp only [Act.put, List.setIfInBounds_toArray, List.set_cons_zero, List.set_cons_succ]
      obtain ⟨X24, hX24⟩ : ∃ X, X = W0.alloc (.cells #[.int .u8 0, .int .u8 0, .int .u8 0, .int .u8 0, .int .u8 0, .int .u8 0, .int .u8 0, .int .u8 0] 29) := ⟨_, rfl⟩
      rw [← hX24] at rm rp rg bR hS24 ⊢
      clear hX24 hA hK K hS0
      refine wpAnyH_all (rs := [1]) (by kernel_rfl) (by simp) ?_
      intro i hi; simp only [List.mem_cons, List.not_mem_nil, or_false] at hi
      subst hi
      refine wpOp_step rfl (fun K hK => ?_)
      go_simp
      with_reducible refine (toMotion_any a len cap zs a' len' cap' js X24 (hI.out.below (bW0.trans (bR.mono bW0.size)) (Nat.le_refl _)) (hJ.out.below (bW0.trans (bR.mono bW0.size)) (Nat.le_refl _)) hle hle').mono ?_
      rintro e v25 ⟨B1, G1, rfl, hB25, sk, sj, _, _⟩
      replace rm := rm.below hB25 rm.lt
      replace rp := rp.below hB25 rp.lt
      replace rg := rg.below hB25 rg.lt
      replace bR := bR.trans (hB25.mono bR.size)
      have hS25 : (fun W' : World => Row W' w.heap.size 25 [.slice a len cap, .slice a' len' cap'] ∧ Row W' (w.heap.size + 1) 26 [.int .i64 d0, .int .i64 d1, .int .i64 d2, .int .i64 d3, .int .i64 d4, .int .i64 d5, .int .i64 d6, .int .i64 d7]) v25 := ⟨rm, rp⟩
      refine hK _ _ ⟨hS25, ?_⟩
      try simp only [Act.put, List.setIfInBounds_toArray, List.set_cons_zero, List.set_cons_succ]
      clear hB25 hK K hS24
      refine wpAnyH_all (rs := [3]) (by kernel_rfl) (by simp) ?_
      intro i hi; simp only [List.mem_cons, List.not_mem_nil, or_false] at hi
      subst hi
      refine wpOp_step rfl (fun K hK => ?_)
      go_simp
      with_reducible refine (toParts_any d0 d1 d2 d3 d4 d5 d6 d7 v25).mono ?_
      rintro e v26 ⟨rfl, hB26⟩
      replace rm := rm.below hB26 rm.lt
      replace rp := rp.below hB26 rp.lt
      replace sk := sk.below hB26 sk.1
      replace sj := sj.below hB26 sj.1
      replace rg := rg.below hB26 rg.lt
      replace bR := bR.trans (hB26.mono bR.size)
      have hS26 : (fun W' : World => Row W' w.heap.size 25 [.slice a len cap, .slice a' len' cap'] ∧ Row W' (w.heap.size + 1) 26 [.int .i64 d0, .int .i64 d1, .int .i64 d2, .int .i64 d3, .int .i64 d4, .int .i64 d5, .int .i64 d6, .int .i64 d7]) v26 := ⟨rm, rp⟩
      refine hK _ _ ⟨hS26, ?_⟩
      try simp only [Act.put, List.setIfInBounds_toArray, List.set_cons_zero, List.set_cons_succ]
      clear hB26 hK K hS25
      refine wpAnyH_all (rs := [4]) (by kernel_rfl) (by simp) ?_
      intro i hi; simp only [List.mem_cons, List.not_mem_nil, or_false] at hi
      subst hi
      refine wpOp_step rfl (fun K hK => ?_)
      go_simp
      with_reducible refine (HS.out B1 G1 v26 sk sj).mono ?_
      rintro e v27 ⟨rfl, hB27⟩
      replace rm := rm.below hB27 rm.lt
      replace rp := rp.below hB27 rp.lt
      replace sk := sk.below hB27 sk.1
      replace sj := sj.below hB27 sj.1
      replace rg := rg.below hB27 rg.lt
      replace bR := bR.trans (hB27.mono bR.size)
      have hS27 : (fun W' : World => Row W' w.heap.size 25 [.slice a len cap, .slice a' len' cap'] ∧ Row W' (w.heap.size + 1) 26 [.int .i64 d0, .int .i64 d1, .int .i64 d2, .int .i64 d3, .int .i64 d4, .int .i64 d5, .int .i64 d6, .int .i64 d7]) v27 := ⟨rm, rp⟩
      refine hK _ _ ⟨hS27, ?_⟩
      try simp only [Act.put, List.setIfInBounds_toArray, List.set_cons_zero, List.set_cons_succ]
      clear hB27 hK K hS26
      refine wpAnyH_takeD (some 16) (i := 5) (v := ?_) rfl rfl (by kernel_rfl) (by kernel_rfl) (by kernel_rfl) (fun _ _ _ h => h) (.inl ⟨by kernel_rfl, ?_⟩) hS27 ?_
      rotate_left
      · intro w' hw'; go_simp; try with_reducible rfl
      try simp only [Act.put, List.setIfInBounds_toArray, List.set_cons_zero, List.set_cons_succ]
      refine wpAnyH_takeD (some 22) (i := 6) (v := ?_) rfl rfl (by kernel_rfl) (by kernel_rfl) (by kernel_rfl) (fun _ _ _ h => h) (.inl ⟨by kernel_rfl, ?_⟩) hS27 ?_
      rotate_left
      · intro w' hw'; go_simp; try with_reducible rfl
      try simp only [Act.put, List.setIfInBounds_toArray, List.set_cons_zero, List.set_cons_succ]
      refine wpAnyH_takeD (some 23) (i := 7) (v := ?_) rfl rfl (by kernel_rfl) (by kernel_rfl) (by kernel_rfl) (fun _ _ _ h => h) (.inl ⟨by kernel_rfl, ?_⟩) hS27 ?_
      rotate_left
      · intro w' hw'; go_simp; try with_reducible rfl
      try simp only [Act.put, List.setIfInBounds_toArray, List.set_cons_zero, List.set_cons_succ]
      refine wpAnyH_all (rs := [9]) (by kernel_rfl) (by simp) ?_
      intro i hi; simp only [List.mem_cons, List.not_mem_nil, or_false] at hi
      subst hi
      refine wpOp_step rfl (fun K hK => ?_)
      rw [if_pos (by kernel_rfl)]
      refine wp_store_mid 29 (.tmp 6) (.tmp 22) rfl (W0.heap.size) 0 ([.int .u8 e0, .int .u8 e1, .int .u8 e2, .int .u8 e3, .int .u8 e4, .int .u8 e5, .int .u8 e6, .int .u8 e7] : List Value).toArray rfl rfl (rg.there 8 rfl) hd (all_oneCell_toArray (one_of8 (ints_e e0 e1 e2 e3 e4 e5 e6 e7))) ?_
      have hA : Below (W0.heap.size) v27 (v27.setCells (W0.heap.size) 0 ([.int .u8 e0, .int .u8 e1, .int .u8 e2, .int .u8 e3, .int .u8 e4, .int .u8 e5, .int .u8 e6, .int .u8 e7] : List Value)) := below_setCells ([.int .u8 e0, .int .u8 e1, .int .u8 e2, .int .u8 e3, .int .u8 e4, .int .u8 e5, .int .u8 e6, .int .u8 e7] : List Value) 0 _ (Below.refl _ _) (Nat.le_refl _)
      replace rm := rm.below hA (Nat.lt_of_lt_of_le l_rm lg)
      replace rp := rp.below hA (Nat.lt_of_lt_of_le l_rp lg)
      replace rg := rg.setCells (ys := ([.int .u8 e0, .int .u8 e1, .int .u8 e2, .int .u8 e3, .int .u8 e4, .int .u8 e5, .int .u8 e6, .int .u8 e7] : List Value)) rfl
      replace bR := below_setCells ([.int .u8 e0, .int .u8 e1, .int .u8 e2, .int .u8 e3, .int .u8 e4, .int .u8 e5, .int .u8 e6, .int .u8 e7] : List Value) 0 _ bR (g := W0.heap.size) lg
      have hS28 : (fun W' : World => Row W' w.heap.size 25 [.slice a len cap, .slice a' len' cap'] ∧ Row W' (w.heap.size + 1) 26 [.int .i64 d0, .int .i64 d1, .int .i64 d2, .int .i64 d3, .int .i64 d4, .int .i64 d5, .int .i64 d6, .int .i64 d7]) (v27.setCells (W0.heap.size) 0 ([.int .u8 e0, .int .u8 e1, .int .u8 e2, .int .u8 e3, .int .u8 e4, .int .u8 e5, .int .u8 e6, .int .u8 e7] : List Value)) := ⟨rm, rp⟩
      refine hK _ _ ⟨hS28, ?_⟩
      try simp only [Act.put, List.setIfInBounds_toArray, List.set_cons_zero, List.set_cons_succ]
      obtain ⟨X28, hX28⟩ : ∃ X, X = v27.setCells (W0.heap.size) 0 ([.int .u8 e0, .int .u8 e1, .int .u8 e2, .int .u8 e3, .int .u8 e4, .int .u8 e5, .int .u8 e6, .int .u8 e7] : List Value) := ⟨_, rfl⟩
      rw [← hX28] at rm rp rg bR hS28 ⊢
      clear hX28 hA hK K hS27
      refine wpAnyH_takeD (some 7) (i := 10) (v := ?_) rfl rfl (by kernel_rfl) (by kernel_rfl) (by kernel_rfl) (fun _ _ _ h => h) (.inl ⟨by kernel_rfl, ?_⟩) hS28 ?_
      rotate_left
      · intro w' hw'; go_simp; try with_reducible rfl
      try simp only [Act.put, List.setIfInBounds_toArray, List.set_cons_zero, List.set_cons_succ]
      refine wpAnyH_done (by kernel_rfl) ?_ _
      go_wp2_with fail
      go_meet
      exact ⟨W0.heap.size, _, rfl, rfl, rfl, rg, rm, rp, bW0.trans (bR.mono bW0.size)⟩
  case rest =>
    clear rm rp bW
    obtain ⟨g, W, rfl, rfl, rfl, rg, rm, rp, bW⟩ := hcut
    have p0 := rm.cell 0
    have p1 := rm.cell 1
    simp only [List.getElem?_cons_zero, List.getElem?_cons_succ] at p0 p1
    go_wp2_with fail
    with_reducible refine (toMotion_any a len cap zs a' len' cap' js W (hI.out.below bW (Nat.le_refl _)) (hJ.out.below bW (Nat.le_refl _)) hle hle').mono ?_
    rintro e w3 ⟨X, Y, rfl, hB, sk, sj, _, _⟩
    replace rm := rm.below hB rm.lt
    replace rp := rp.below hB rp.lt
    replace rg := rg.below hB rg.lt
    replace bW := bW.trans (hB.mono bW.size)
    clear hB p0 p1
    have rx := Row.new w3 35 [.slice (some ⟨X, 0, none⟩) len len, .slice (some ⟨Y, 0, none⟩) len' len']
    have hA : Below w3.heap.size w3 (w3.alloc (.cells #[.slice (some ⟨X, 0, none⟩) len len, .slice (some ⟨Y, 0, none⟩) len' len'] 35)) := (Below.refl _ _).alloc (Nat.le_refl _) _
    replace rm := rm.below hA rm.lt
    replace rp := rp.below hA rp.lt
    replace rg := rg.below hA rg.lt
    replace sk := sk.below hA sk.1
    replace sj := sj.below hA sj.1
    replace bW := bW.trans (hA.mono bW.size)
    clear hA
    go_upto_region 7 with fail
    obtain ⟨WX, hWX⟩ : ∃ X', X' = (w3.alloc (.cells #[.slice (some ⟨X, 0, none⟩) len len, .slice (some ⟨Y, 0, none⟩) len' len'] 35)) := ⟨_, rfl⟩
    rw [← hWX] at rx rm rp rg sk sj bW ⊢
    obtain ⟨GX, hGX⟩ : ∃ G', G' = w3.heap.size := ⟨_, rfl⟩
    rw [← hGX] at rx ⊢
    clear hWX hGX
    have rgw := rg
    clear rg
    go_cut [9, 10] (fun s11 s12 wx => ∃ (g2 : Nat) (W : World), W = wx ∧ s11 = .pointer (some ⟨g2, 0, none⟩) ∧ s12 = .int .i64 r0 ∧ Row W g2 29 ([.int .u8 e0, .int .u8 e1, .int .u8 e2, .int .u8 e3, .int .u8 e4, .int .u8 e5, .int .u8 e6, .int .u8 e7] : List Value) ∧ Row W g 29 ([.int .u8 e0, .int .u8 e1, .int .u8 e2, .int .u8 e3, .int .u8 e4, .int .u8 e5, .int .u8 e6, .int .u8 e7] : List Value) ∧ Row W w.heap.size 25 [.slice a len cap, .slice a' len' cap'] ∧ Row W GX 35 [.slice (some ⟨X, 0, none⟩) len len, .slice (some ⟨Y, 0, none⟩) len' len'] ∧ Stk W X zs ∧ Jst W Y js ∧ Below w.heap.size w W)
    case first =>
      refine wp_region_held (S := fun W' : World => Row W' GX 35 [.slice (some ⟨X, 0, none⟩) len len, .slice (some ⟨Y, 0, none⟩) len' len'] ∧ Row W' (w.heap.size + 1) 26 [.int .i64 d0, .int .i64 d1, .int .i64 d2, .int .i64 d3, .int .i64 d4, .int .i64 d5, .int .i64 d6, .int .i64 d7]) (by kernel_rfl) ?_
      change wpAnyH _ _ _ _ _ _ _ _ (World.drew _)
      obtain ⟨W0, hW0⟩ : ∃ X, X = World.drew (WX) := ⟨_, rfl⟩
      have hD0 : Below (WX).heap.size (WX) W0 := by rw [hW0]; exact (Below.refl _ _).drew
      replace rm := rm.below hD0 rm.lt
      replace rgw := rgw.below hD0 rgw.lt
      replace sk := sk.below hD0 sk.1
      replace sj := sj.below hD0 sj.1
      replace rx := rx.below hD0 rx.lt
      replace rp := rp.below hD0 rp.lt
      have bW0 := bW.trans (hD0.mono bW.size)
      have bR : Below W0.heap.size W0 W0 := Below.refl _ _
      rw [← hW0]
      clear hW0 hD0
      have l_rm := rm.lt
      have l_rgw := rgw.lt
      have l_sk := sk.1
      have l_sj := sj.1
      have l_rx := rx.lt
      have l_rp := rp.lt
      have hS0 : (fun W' : World => Row W' GX 35 [.slice (some ⟨X, 0, none⟩) len len, .slice (some ⟨Y, 0, none⟩) len' len'] ∧ Row W' (w.heap.size + 1) 26 [.int .i64 d0, .int .i64 d1, .int .i64 d2, .int .i64 d3, .int .i64 d4, .int .i64 d5, .int .i64 d6, .int .i64 d7]) W0 := ⟨rx, rp⟩
      refine wpAnyH_takeD (some 27) (i := 0) (v := ?_) rfl rfl (by kernel_rfl) (by kernel_rfl) (by kernel_rfl) (fun _ _ _ h => h) (.inl ⟨by kernel_rfl, ?_⟩) hS0 ?_
      rotate_left
      · intro w' hw'; have hrow := hw'.1; have e0 := Row.cell hrow 0; have e1 := Row.cell hrow 1; simp only [List.getElem?_cons_zero, List.getElem?_cons_succ] at e0 e1; clear hrow hw'; go_simp; try with_reducible rfl
      try simp only [Act.put, List.setIfInBounds_toArray, List.set_cons_zero, List.set_cons_succ]
      refine wpAnyH_takeD (some 28) (i := 1) (v := ?_) rfl rfl (by kernel_rfl) (by kernel_rfl) (by kernel_rfl) (fun _ _ _ h => h) (.inl ⟨by kernel_rfl, ?_⟩) hS0 ?_
      rotate_left
      · intro w' hw'; have hrow := hw'.2; have e0 := Row.cell hrow 0; have e1 := Row.cell hrow 1; have e2 := Row.cell hrow 2; have e3 := Row.cell hrow 3; have e4 := Row.cell hrow 4; have e5 := Row.cell hrow 5; have e6 := Row.cell hrow 6; have e7 := Row.cell hrow 7; simp only [List.getElem?_cons_zero, List.getElem?_cons_succ] at e0 e1 e2 e3 e4 e5 e6 e7; clear hrow hw'; go_simp; try with_reducible rfl
      try simp only [Act.put, List.setIfInBounds_toArray, List.set_cons_zero, List.set_cons_succ]
      refine wpAnyH_all (rs := [2, 7]) (by kernel_rfl) (by simp) ?_
      intro i hi; simp only [List.mem_cons, List.not_mem_nil, or_false] at hi
      rcases hi with rfl | rfl
      · refine wpOp_step rfl (fun K hK => ?_)
        go_simp
        with_reducible refine (toParts_any d0 d1 d2 d3 d4 d5 d6 d7 W0).mono ?_
        rintro e v1 ⟨rfl, hB1⟩
        replace rm := rm.below hB1 rm.lt
        replace rgw := rgw.below hB1 rgw.lt
        replace sk := sk.below hB1 sk.1
        replace sj := sj.below hB1 sj.1
        replace rx := rx.below hB1 rx.lt
        replace rp := rp.below hB1 rp.lt
        replace bR := bR.trans (hB1.mono bR.size)
        have hS1 : (fun W' : World => Row W' GX 35 [.slice (some ⟨X, 0, none⟩) len len, .slice (some ⟨Y, 0, none⟩) len' len'] ∧ Row W' (w.heap.size + 1) 26 [.int .i64 d0, .int .i64 d1, .int .i64 d2, .int .i64 d3, .int .i64 d4, .int .i64 d5, .int .i64 d6, .int .i64 d7]) v1 := ⟨rx, rp⟩
        refine hK _ _ ⟨hS1, ?_⟩
        try simp only [Act.put, List.setIfInBounds_toArray, List.set_cons_zero, List.set_cons_succ]
        clear hB1 hK K hS0
        refine wpAnyH_all (rs := [3, 7]) (by kernel_rfl) (by simp) ?_
        intro i hi; simp only [List.mem_cons, List.not_mem_nil, or_false] at hi
        rcases hi with rfl | rfl
        · refine wpOp_step rfl (fun K hK => ?_)
          go_simp
          with_reducible refine (HM.out X Y v1 sk sj).mono ?_
          rintro e v2 ⟨rfl, hB2⟩
          replace rm := rm.below hB2 rm.lt
          replace rgw := rgw.below hB2 rgw.lt
          replace sk := sk.below hB2 sk.1
          replace sj := sj.below hB2 sj.1
          replace rx := rx.below hB2 rx.lt
          replace rp := rp.below hB2 rp.lt
          replace bR := bR.trans (hB2.mono bR.size)
          have hS2 : (fun W' : World => Row W' GX 35 [.slice (some ⟨X, 0, none⟩) len len, .slice (some ⟨Y, 0, none⟩) len' len'] ∧ Row W' (w.heap.size + 1) 26 [.int .i64 d0, .int .i64 d1, .int .i64 d2, .int .i64 d3, .int .i64 d4, .int .i64 d5, .int .i64 d6, .int .i64 d7]) v2 := ⟨rx, rp⟩
          refine hK _ _ ⟨hS2, ?_⟩
          try simp only [Act.put, List.setIfInBounds_toArray, List.set_cons_zero, List.set_cons_succ]
          clear hB2 hK K hS1
          refine wpAnyH_takeD (some 26) (i := 4) (v := ?_) rfl rfl (by kernel_rfl) (by kernel_rfl) (by kernel_rfl) (fun _ _ _ h => h) (.inl ⟨by kernel_rfl, ?_⟩) hS2 ?_
          rotate_left
          · intro w' hw'; go_simp; try with_reducible rfl
          try simp only [Act.put, List.setIfInBounds_toArray, List.set_cons_zero, List.set_cons_succ]
          refine wpAnyH_takeD (some 31) (i := 5) (v := ?_) rfl rfl (by kernel_rfl) (by kernel_rfl) (by kernel_rfl) (fun _ _ _ h => h) (.inl ⟨by kernel_rfl, ?_⟩) hS2 ?_
          rotate_left
          · intro w' hw'; go_simp; try with_reducible rfl
          try simp only [Act.put, List.setIfInBounds_toArray, List.set_cons_zero, List.set_cons_succ]
          refine wpAnyH_takeD (some 32) (i := 6) (v := ?_) rfl rfl (by kernel_rfl) (by kernel_rfl) (by kernel_rfl) (fun _ _ _ h => h) (.inl ⟨by kernel_rfl, ?_⟩) hS2 ?_
          rotate_left
          · intro w' hw'; go_simp; try with_reducible rfl
          try simp only [Act.put, List.setIfInBounds_toArray, List.set_cons_zero, List.set_cons_succ]
          refine wpAnyH_all (rs := [7]) (by kernel_rfl) (by simp) ?_
          intro i hi; simp only [List.mem_cons, List.not_mem_nil, or_false] at hi
          subst hi
          refine wpOp_step rfl (fun K hK => ?_)
          go_simp
          have rg := Row.new v2 29 [.int .u8 0, .int .u8 0, .int .u8 0, .int .u8 0, .int .u8 0, .int .u8 0, .int .u8 0, .int .u8 0]
          have hA : Below v2.heap.size v2 (v2.alloc (.cells #[.int .u8 0, .int .u8 0, .int .u8 0, .int .u8 0, .int .u8 0, .int .u8 0, .int .u8 0, .int .u8 0] 29)) := (Below.refl _ _).alloc (Nat.le_refl _) _
          replace rm := rm.below hA rm.lt
          replace rgw := rgw.below hA rgw.lt
          replace sk := sk.below hA sk.1
          replace sj := sj.below hA sj.1
          replace rx := rx.below hA rx.lt
          replace rp := rp.below hA rp.lt
          have lg := bR.size
          replace bR := bR.trans (hA.mono bR.size)
          have hS3 : (fun W' : World => Row W' GX 35 [.slice (some ⟨X, 0, none⟩) len len, .slice (some ⟨Y, 0, none⟩) len' len'] ∧ Row W' (w.heap.size + 1) 26 [.int .i64 d0, .int .i64 d1, .int .i64 d2, .int .i64 d3, .int .i64 d4, .int .i64 d5, .int .i64 d6, .int .i64 d7]) (v2.alloc (.cells #[.int .u8 0, .int .u8 0, .int .u8 0, .int .u8 0, .int .u8 0, .int .u8 0, .int .u8 0, .int .u8 0] 29)) := ⟨rx, rp⟩
          refine hK _ _ ⟨hS3, ?_⟩
          try simp only [Act.put, List.setIfInBounds_toArray, List.set_cons_zero, List.set_cons_succ]
          obtain ⟨X3, hX3⟩ : ∃ X, X = v2.alloc (.cells #[.int .u8 0, .int .u8 0, .int .u8 0, .int .u8 0, .int .u8 0, .int .u8 0, .int .u8 0, .int .u8 0] 29) := ⟨_, rfl⟩
          rw [← hX3] at rm rgw sk sj rx rp rg bR hS3 ⊢
          clear hX3 hA hK K hS2
          refine wpAnyH_all (rs := [8]) (by kernel_rfl) (by simp) ?_
          intro i hi; simp only [List.mem_cons, List.not_mem_nil, or_false] at hi
          subst hi
          refine wpOp_step rfl (fun K hK => ?_)
          rw [if_pos (by kernel_rfl)]
          refine wp_store_mid 29 (.tmp 9) (.tmp 31) rfl (v2.heap.size) 0 ([.int .u8 e0, .int .u8 e1, .int .u8 e2, .int .u8 e3, .int .u8 e4, .int .u8 e5, .int .u8 e6, .int .u8 e7] : List Value).toArray rfl rfl (rg.there 8 rfl) hd (all_oneCell_toArray (one_of8 (ints_e e0 e1 e2 e3 e4 e5 e6 e7))) ?_
          have hA : Below (v2.heap.size) X3 (X3.setCells (v2.heap.size) 0 ([.int .u8 e0, .int .u8 e1, .int .u8 e2, .int .u8 e3, .int .u8 e4, .int .u8 e5, .int .u8 e6, .int .u8 e7] : List Value)) := below_setCells ([.int .u8 e0, .int .u8 e1, .int .u8 e2, .int .u8 e3, .int .u8 e4, .int .u8 e5, .int .u8 e6, .int .u8 e7] : List Value) 0 _ (Below.refl _ _) (Nat.le_refl _)
          replace rm := rm.below hA (Nat.lt_of_lt_of_le l_rm lg)
          replace rgw := rgw.below hA (Nat.lt_of_lt_of_le l_rgw lg)
          replace sk := sk.below hA (Nat.lt_of_lt_of_le l_sk lg)
          replace sj := sj.below hA (Nat.lt_of_lt_of_le l_sj lg)
          replace rx := rx.below hA (Nat.lt_of_lt_of_le l_rx lg)
          replace rp := rp.below hA (Nat.lt_of_lt_of_le l_rp lg)
          replace rg := rg.setCells (ys := ([.int .u8 e0, .int .u8 e1, .int .u8 e2, .int .u8 e3, .int .u8 e4, .int .u8 e5, .int .u8 e6, .int .u8 e7] : List Value)) rfl
          replace bR := below_setCells ([.int .u8 e0, .int .u8 e1, .int .u8 e2, .int .u8 e3, .int .u8 e4, .int .u8 e5, .int .u8 e6, .int .u8 e7] : List Value) 0 _ bR (g := v2.heap.size) lg
          have hS4 : (fun W' : World => Row W' GX 35 [.slice (some ⟨X, 0, none⟩) len len, .slice (some ⟨Y, 0, none⟩) len' len'] ∧ Row W' (w.heap.size + 1) 26 [.int .i64 d0, .int .i64 d1, .int .i64 d2, .int .i64 d3, .int .i64 d4, .int .i64 d5, .int .i64 d6, .int .i64 d7]) (X3.setCells (v2.heap.size) 0 ([.int .u8 e0, .int .u8 e1, .int .u8 e2, .int .u8 e3, .int .u8 e4, .int .u8 e5, .int .u8 e6, .int .u8 e7] : List Value)) := ⟨rx, rp⟩
          refine hK _ _ ⟨hS4, ?_⟩
          try simp only [Act.put, List.setIfInBounds_toArray, List.set_cons_zero, List.set_cons_succ]
          obtain ⟨X4, hX4⟩ : ∃ X, X = X3.setCells (v2.heap.size) 0 ([.int .u8 e0, .int .u8 e1, .int .u8 e2, .int .u8 e3, .int .u8 e4, .int .u8 e5, .int .u8 e6, .int .u8 e7] : List Value) := ⟨_, rfl⟩
          rw [← hX4] at rm rgw sk sj rx rp rg bR hS4 ⊢
          clear hX4 hA hK K hS3
          refine wpAnyH_takeD (some 10) (i := 9) (v := ?_) rfl rfl (by kernel_rfl) (by kernel_rfl) (by kernel_rfl) (fun _ _ _ h => h) (.inl ⟨by kernel_rfl, ?_⟩) hS4 ?_
          rotate_left
          · intro w' hw'; go_simp; try with_reducible rfl
          try simp only [Act.put, List.setIfInBounds_toArray, List.set_cons_zero, List.set_cons_succ]
          refine wpAnyH_done (by kernel_rfl) ?_ _
          go_wp2_with fail
          go_meet
          exact ⟨v2.heap.size, _, rfl, rfl, rfl, rg, rgw, rm, rx, sk, sj, bW0.trans (bR.mono bW0.size)⟩
        · refine wpOp_step rfl (fun K hK => ?_)
          go_simp
          have rg := Row.new v1 29 [.int .u8 0, .int .u8 0, .int .u8 0, .int .u8 0, .int .u8 0, .int .u8 0, .int .u8 0, .int .u8 0]
          have hA : Below v1.heap.size v1 (v1.alloc (.cells #[.int .u8 0, .int .u8 0, .int .u8 0, .int .u8 0, .int .u8 0, .int .u8 0, .int .u8 0, .int .u8 0] 29)) := (Below.refl _ _).alloc (Nat.le_refl _) _
          replace rm := rm.below hA rm.lt
          replace rgw := rgw.below hA rgw.lt
          replace sk := sk.below hA sk.1
          replace sj := sj.below hA sj.1
          replace rx := rx.below hA rx.lt
          replace rp := rp.below hA rp.lt
          have lg := bR.size
          replace bR := bR.trans (hA.mono bR.size)
          have hS5 : (fun W' : World => Row W' GX 35 [.slice (some ⟨X, 0, none⟩) len len, .slice (some ⟨Y, 0, none⟩) len' len'] ∧ Row W' (w.heap.size + 1) 26 [.int .i64 d0, .int .i64 d1, .int .i64 d2, .int .i64 d3, .int .i64 d4, .int .i64 d5, .int .i64 d6, .int .i64 d7]) (v1.alloc (.cells #[.int .u8 0, .int .u8 0, .int .u8 0, .int .u8 0, .int .u8 0, .int .u8 0, .int .u8 0, .int .u8 0] 29)) := ⟨rx, rp⟩
          refine hK _ _ ⟨hS5, ?_⟩
          try simp only [Act.put, List.setIfInBounds_toArray, List.set_cons_zero, List.set_cons_succ]
          obtain ⟨X5, hX5⟩ : ∃ X, X = v1.alloc (.cells #[.int .u8 0, .int .u8 0, .int .u8 0, .int .u8 0, .int .u8 0, .int .u8 0, .int .u8 0, .int .u8 0] 29) := ⟨_, rfl⟩
          rw [← hX5] at rm rgw sk sj rx rp rg bR hS5 ⊢
          clear hX5 hA hK K hS1
          refine wpAnyH_all (rs := [3]) (by kernel_rfl) (by simp) ?_
          intro i hi; simp only [List.mem_cons, List.not_mem_nil, or_false] at hi
          subst hi
          refine wpOp_step rfl (fun K hK => ?_)
          go_simp
          with_reducible refine (HM.out X Y X5 sk sj).mono ?_
          rintro e v6 ⟨rfl, hB6⟩
          replace rm := rm.below hB6 rm.lt
          replace rgw := rgw.below hB6 rgw.lt
          replace sk := sk.below hB6 sk.1
          replace sj := sj.below hB6 sj.1
          replace rx := rx.below hB6 rx.lt
          replace rp := rp.below hB6 rp.lt
          replace rg := rg.below hB6 rg.lt
          replace bR := bR.trans (hB6.mono bR.size)
          have hS6 : (fun W' : World => Row W' GX 35 [.slice (some ⟨X, 0, none⟩) len len, .slice (some ⟨Y, 0, none⟩) len' len'] ∧ Row W' (w.heap.size + 1) 26 [.int .i64 d0, .int .i64 d1, .int .i64 d2, .int .i64 d3, .int .i64 d4, .int .i64 d5, .int .i64 d6, .int .i64 d7]) v6 := ⟨rx, rp⟩
          refine hK _ _ ⟨hS6, ?_⟩
          try simp only [Act.put, List.setIfInBounds_toArray, List.set_cons_zero, List.set_cons_succ]
          clear hB6 hK K hS5
          refine wpAnyH_takeD (some 26) (i := 4) (v := ?_) rfl rfl (by kernel_rfl) (by kernel_rfl) (by kernel_rfl) (fun _ _ _ h => h) (.inl ⟨by kernel_rfl, ?_⟩) hS6 ?_
          rotate_left
          · intro w' hw'; go_simp; try with_reducible rfl
          try simp only [Act.put, List.setIfInBounds_toArray, List.set_cons_zero, List.set_cons_succ]
          refine wpAnyH_takeD (some 31) (i := 5) (v := ?_) rfl rfl (by kernel_rfl) (by kernel_rfl) (by kernel_rfl) (fun _ _ _ h => h) (.inl ⟨by kernel_rfl, ?_⟩) hS6 ?_
          rotate_left
          · intro w' hw'; go_simp; try with_reducible rfl
          try simp only [Act.put, List.setIfInBounds_toArray, List.set_cons_zero, List.set_cons_succ]
          refine wpAnyH_takeD (some 32) (i := 6) (v := ?_) rfl rfl (by kernel_rfl) (by kernel_rfl) (by kernel_rfl) (fun _ _ _ h => h) (.inl ⟨by kernel_rfl, ?_⟩) hS6 ?_
          rotate_left
          · intro w' hw'; go_simp; try with_reducible rfl
          try simp only [Act.put, List.setIfInBounds_toArray, List.set_cons_zero, List.set_cons_succ]
          refine wpAnyH_all (rs := [8]) (by kernel_rfl) (by simp) ?_
          intro i hi; simp only [List.mem_cons, List.not_mem_nil, or_false] at hi
          subst hi
          refine wpOp_step rfl (fun K hK => ?_)
          rw [if_pos (by kernel_rfl)]
          refine wp_store_mid 29 (.tmp 9) (.tmp 31) rfl (v1.heap.size) 0 ([.int .u8 e0, .int .u8 e1, .int .u8 e2, .int .u8 e3, .int .u8 e4, .int .u8 e5, .int .u8 e6, .int .u8 e7] : List Value).toArray rfl rfl (rg.there 8 rfl) hd (all_oneCell_toArray (one_of8 (ints_e e0 e1 e2 e3 e4 e5 e6 e7))) ?_
          have hA : Below (v1.heap.size) v6 (v6.setCells (v1.heap.size) 0 ([.int .u8 e0, .int .u8 e1, .int .u8 e2, .int .u8 e3, .int .u8 e4, .int .u8 e5, .int .u8 e6, .int .u8 e7] : List Value)) := below_setCells ([.int .u8 e0, .int .u8 e1, .int .u8 e2, .int .u8 e3, .int .u8 e4, .int .u8 e5, .int .u8 e6, .int .u8 e7] : List Value) 0 _ (Below.refl _ _) (Nat.le_refl _)
          replace rm := rm.below hA (Nat.lt_of_lt_of_le l_rm lg)
          replace rgw := rgw.below hA (Nat.lt_of_lt_of_le l_rgw lg)
          replace sk := sk.below hA (Nat.lt_of_lt_of_le l_sk lg)
          replace sj := sj.below hA (Nat.lt_of_lt_of_le l_sj lg)
          replace rx := rx.below hA (Nat.lt_of_lt_of_le l_rx lg)
          replace rp := rp.below hA (Nat.lt_of_lt_of_le l_rp lg)
          replace rg := rg.setCells (ys := ([.int .u8 e0, .int .u8 e1, .int .u8 e2, .int .u8 e3, .int .u8 e4, .int .u8 e5, .int .u8 e6, .int .u8 e7] : List Value)) rfl
          replace bR := below_setCells ([.int .u8 e0, .int .u8 e1, .int .u8 e2, .int .u8 e3, .int .u8 e4, .int .u8 e5, .int .u8 e6, .int .u8 e7] : List Value) 0 _ bR (g := v1.heap.size) lg
          have hS7 : (fun W' : World => Row W' GX 35 [.slice (some ⟨X, 0, none⟩) len len, .slice (some ⟨Y, 0, none⟩) len' len'] ∧ Row W' (w.heap.size + 1) 26 [.int .i64 d0, .int .i64 d1, .int .i64 d2, .int .i64 d3, .int .i64 d4, .int .i64 d5, .int .i64 d6, .int .i64 d7]) (v6.setCells (v1.heap.size) 0 ([.int .u8 e0, .int .u8 e1, .int .u8 e2, .int .u8 e3, .int .u8 e4, .int .u8 e5, .int .u8 e6, .int .u8 e7] : List Value)) := ⟨rx, rp⟩
          refine hK _ _ ⟨hS7, ?_⟩
          try simp only [Act.put, List.setIfInBounds_toArray, List.set_cons_zero, List.set_cons_succ]
          obtain ⟨X7, hX7⟩ : ∃ X, X = v6.setCells (v1.heap.size) 0 ([.int .u8 e0, .int .u8 e1, .int .u8 e2, .int .u8 e3, .int .u8 e4, .int .u8 e5, .int .u8 e6, .int .u8 e7] : List Value) := ⟨_, rfl⟩
          rw [← hX7] at rm rgw sk sj rx rp rg bR hS7 ⊢
          clear hX7 hA hK K hS6
          refine wpAnyH_takeD (some 10) (i := 9) (v := ?_) rfl rfl (by kernel_rfl) (by kernel_rfl) (by kernel_rfl) (fun _ _ _ h => h) (.inl ⟨by kernel_rfl, ?_⟩) hS7 ?_
          rotate_left
          · intro w' hw'; go_simp; try with_reducible rfl
          try simp only [Act.put, List.setIfInBounds_toArray, List.set_cons_zero, List.set_cons_succ]
          refine wpAnyH_done (by kernel_rfl) ?_ _
          go_wp2_with fail
          go_meet
          exact ⟨v1.heap.size, _, rfl, rfl, rfl, rg, rgw, rm, rx, sk, sj, bW0.trans (bR.mono bW0.size)⟩
      · refine wpOp_step rfl (fun K hK => ?_)
        go_simp
        have rg := Row.new W0 29 [.int .u8 0, .int .u8 0, .int .u8 0, .int .u8 0, .int .u8 0, .int .u8 0, .int .u8 0, .int .u8 0]
        have hA : Below W0.heap.size W0 (W0.alloc (.cells #[.int .u8 0, .int .u8 0, .int .u8 0, .int .u8 0, .int .u8 0, .int .u8 0, .int .u8 0, .int .u8 0] 29)) := (Below.refl _ _).alloc (Nat.le_refl _) _
        replace rm := rm.below hA rm.lt
        replace rgw := rgw.below hA rgw.lt
        replace sk := sk.below hA sk.1
        replace sj := sj.below hA sj.1
        replace rx := rx.below hA rx.lt
        replace rp := rp.below hA rp.lt
        have lg := bR.size
        replace bR := bR.trans (hA.mono bR.size)
        have hS8 : (fun W' : World => Row W' GX 35 [.slice (some ⟨X, 0, none⟩) len len, .slice (some ⟨Y, 0, none⟩) len' len'] ∧ Row W' (w.heap.size + 1) 26 [.int .i64 d0, .int .i64 d1, .int .i64 d2, .int .i64 d3, .int .i64 d4, .int .i64 d5, .int .i64 d6, .int .i64 d7]) (W0.alloc (.cells #[.int .u8 0, .int .u8 0, .int .u8 0, .int .u8 0, .int .u8 0, .int .u8 0, .int .u8 0, .int .u8 0] 29)) := ⟨rx, rp⟩
        refine hK _ _ ⟨hS8, ?_⟩
        try simp only [Act.put, List.setIfInBounds_toArray, List.set_cons_zero, List.set_cons_succ]
        obtain ⟨X8, hX8⟩ : ∃ X, X = W0.alloc (.cells #[.int .u8 0, .int .u8 0, .int .u8 0, .int .u8 0, .int .u8 0, .int .u8 0, .int .u8 0, .int .u8 0] 29) := ⟨_, rfl⟩
        rw [← hX8] at rm rgw sk sj rx rp rg bR hS8 ⊢
        clear hX8 hA hK K hS0
        refine wpAnyH_all (rs := [2]) (by kernel_rfl) (by simp) ?_
        intro i hi; simp only [List.mem_cons, List.not_mem_nil, or_false] at hi
        subst hi
        refine wpOp_step rfl (fun K hK => ?_)
        go_simp
        with_reducible refine (toParts_any d0 d1 d2 d3 d4 d5 d6 d7 X8).mono ?_
        rintro e v9 ⟨rfl, hB9⟩
        replace rm := rm.below hB9 rm.lt
        replace rgw := rgw.below hB9 rgw.lt
        replace sk := sk.below hB9 sk.1
        replace sj := sj.below hB9 sj.1
        replace rx := rx.below hB9 rx.lt
        replace rp := rp.below hB9 rp.lt
        replace rg := rg.below hB9 rg.lt
        replace bR := bR.trans (hB9.mono bR.size)
        have hS9 : (fun W' : World => Row W' GX 35 [.slice (some ⟨X, 0, none⟩) len len, .slice (some ⟨Y, 0, none⟩) len' len'] ∧ Row W' (w.heap.size + 1) 26 [.int .i64 d0, .int .i64 d1, .int .i64 d2, .int .i64 d3, .int .i64 d4, .int .i64 d5, .int .i64 d6, .int .i64 d7]) v9 := ⟨rx, rp⟩
        refine hK _ _ ⟨hS9, ?_⟩
        try simp only [Act.put, List.setIfInBounds_toArray, List.set_cons_zero, List.set_cons_succ]
        clear hB9 hK K hS8
        refine wpAnyH_all (rs := [3]) (by kernel_rfl) (by simp) ?_
        intro i hi; simp only [List.mem_cons, List.not_mem_nil, or_false] at hi
        subst hi
        refine wpOp_step rfl (fun K hK => ?_)
        go_simp
        with_reducible refine (HM.out X Y v9 sk sj).mono ?_
        rintro e v10 ⟨rfl, hB10⟩
        replace rm := rm.below hB10 rm.lt
        replace rgw := rgw.below hB10 rgw.lt
        replace sk := sk.below hB10 sk.1
        replace sj := sj.below hB10 sj.1
        replace rx := rx.below hB10 rx.lt
        replace rp := rp.below hB10 rp.lt
        replace rg := rg.below hB10 rg.lt
        replace bR := bR.trans (hB10.mono bR.size)
        have hS10 : (fun W' : World => Row W' GX 35 [.slice (some ⟨X, 0, none⟩) len len, .slice (some ⟨Y, 0, none⟩) len' len'] ∧ Row W' (w.heap.size + 1) 26 [.int .i64 d0, .int .i64 d1, .int .i64 d2, .int .i64 d3, .int .i64 d4, .int .i64 d5, .int .i64 d6, .int .i64 d7]) v10 := ⟨rx, rp⟩
        refine hK _ _ ⟨hS10, ?_⟩
        try simp only [Act.put, List.setIfInBounds_toArray, List.set_cons_zero, List.set_cons_succ]
        clear hB10 hK K hS9
        refine wpAnyH_takeD (some 26) (i := 4) (v := ?_) rfl rfl (by kernel_rfl) (by kernel_rfl) (by kernel_rfl) (fun _ _ _ h => h) (.inl ⟨by kernel_rfl, ?_⟩) hS10 ?_
        rotate_left
        · intro w' hw'; go_simp; try with_reducible rfl
        try simp only [Act.put, List.setIfInBounds_toArray, List.set_cons_zero, List.set_cons_succ]
        refine wpAnyH_takeD (some 31) (i := 5) (v := ?_) rfl rfl (by kernel_rfl) (by kernel_rfl) (by kernel_rfl) (fun _ _ _ h => h) (.inl ⟨by kernel_rfl, ?_⟩) hS10 ?_
        rotate_left
        · intro w' hw'; go_simp; try with_reducible rfl
        try simp only [Act.put, List.setIfInBounds_toArray, List.set_cons_zero, List.set_cons_succ]
        refine wpAnyH_takeD (some 32) (i := 6) (v := ?_) rfl rfl (by kernel_rfl) (by kernel_rfl) (by kernel_rfl) (fun _ _ _ h => h) (.inl ⟨by kernel_rfl, ?_⟩) hS10 ?_
        rotate_left
        · intro w' hw'; go_simp; try with_reducible rfl
        try simp only [Act.put, List.setIfInBounds_toArray, List.set_cons_zero, List.set_cons_succ]
        refine wpAnyH_all (rs := [8]) (by kernel_rfl) (by simp) ?_
        intro i hi; simp only [List.mem_cons, List.not_mem_nil, or_false] at hi
        subst hi
        refine wpOp_step rfl (fun K hK => ?_)
        rw [if_pos (by kernel_rfl)]
        refine wp_store_mid 29 (.tmp 9) (.tmp 31) rfl (W0.heap.size) 0 ([.int .u8 e0, .int .u8 e1, .int .u8 e2, .int .u8 e3, .int .u8 e4, .int .u8 e5, .int .u8 e6, .int .u8 e7] : List Value).toArray rfl rfl (rg.there 8 rfl) hd (all_oneCell_toArray (one_of8 (ints_e e0 e1 e2 e3 e4 e5 e6 e7))) ?_
        have hA : Below (W0.heap.size) v10 (v10.setCells (W0.heap.size) 0 ([.int .u8 e0, .int .u8 e1, .int .u8 e2, .int .u8 e3, .int .u8 e4, .int .u8 e5, .int .u8 e6, .int .u8 e7] : List Value)) := below_setCells ([.int .u8 e0, .int .u8 e1, .int .u8 e2, .int .u8 e3, .int .u8 e4, .int .u8 e5, .int .u8 e6, .int .u8 e7] : List Value) 0 _ (Below.refl _ _) (Nat.le_refl _)
        replace rm := rm.below hA (Nat.lt_of_lt_of_le l_rm lg)
        replace rgw := rgw.below hA (Nat.lt_of_lt_of_le l_rgw lg)
        replace sk := sk.below hA (Nat.lt_of_lt_of_le l_sk lg)
        replace sj := sj.below hA (Nat.lt_of_lt_of_le l_sj lg)
        replace rx := rx.below hA (Nat.lt_of_lt_of_le l_rx lg)
        replace rp := rp.below hA (Nat.lt_of_lt_of_le l_rp lg)
        replace rg := rg.setCells (ys := ([.int .u8 e0, .int .u8 e1, .int .u8 e2, .int .u8 e3, .int .u8 e4, .int .u8 e5, .int .u8 e6, .int .u8 e7] : List Value)) rfl
        replace bR := below_setCells ([.int .u8 e0, .int .u8 e1, .int .u8 e2, .int .u8 e3, .int .u8 e4, .int .u8 e5, .int .u8 e6, .int .u8 e7] : List Value) 0 _ bR (g := W0.heap.size) lg
        have hS11 : (fun W' : World => Row W' GX 35 [.slice (some ⟨X, 0, none⟩) len len, .slice (some ⟨Y, 0, none⟩) len' len'] ∧ Row W' (w.heap.size + 1) 26 [.int .i64 d0, .int .i64 d1, .int .i64 d2, .int .i64 d3, .int .i64 d4, .int .i64 d5, .int .i64 d6, .int .i64 d7]) (v10.setCells (W0.heap.size) 0 ([.int .u8 e0, .int .u8 e1, .int .u8 e2, .int .u8 e3, .int .u8 e4, .int .u8 e5, .int .u8 e6, .int .u8 e7] : List Value)) := ⟨rx, rp⟩
        refine hK _ _ ⟨hS11, ?_⟩
        try simp only [Act.put, List.setIfInBounds_toArray, List.set_cons_zero, List.set_cons_succ]
        obtain ⟨X11, hX11⟩ : ∃ X, X = v10.setCells (W0.heap.size) 0 ([.int .u8 e0, .int .u8 e1, .int .u8 e2, .int .u8 e3, .int .u8 e4, .int .u8 e5, .int .u8 e6, .int .u8 e7] : List Value) := ⟨_, rfl⟩
        rw [← hX11] at rm rgw sk sj rx rp rg bR hS11 ⊢
        clear hX11 hA hK K hS10
        refine wpAnyH_takeD (some 10) (i := 9) (v := ?_) rfl rfl (by kernel_rfl) (by kernel_rfl) (by kernel_rfl) (fun _ _ _ h => h) (.inl ⟨by kernel_rfl, ?_⟩) hS11 ?_
        rotate_left
        · intro w' hw'; go_simp; try with_reducible rfl
        try simp only [Act.put, List.setIfInBounds_toArray, List.set_cons_zero, List.set_cons_succ]
        refine wpAnyH_done (by kernel_rfl) ?_ _
        go_wp2_with fail
        go_meet
        exact ⟨W0.heap.size, _, rfl, rfl, rfl, rg, rgw, rm, rx, sk, sj, bW0.trans (bR.mono bW0.size)⟩
    case rest =>
      clear rgw rm rx rp sk sj bW
      obtain ⟨g2, W5, rfl, rfl, rfl, rz, rg, rm, rx, sk, sj, bW⟩ := hcut
      have HRZ := hid rz
      have HRG := hid rg
      go_wp2_with (first | ((with_reducible refine wpList_load_row rfl 29 _ rfl g2 ?_ 29 (([.int .u8 e0, .int .u8 e1, .int .u8 e2, .int .u8 e3, .int .u8 e4, .int .u8 e5, .int .u8 e6, .int .u8 e7] : List Value) : List Value).toArray (0, 0) _ ?_ Try.underlying29 ?_ ?_ ?_); rfl; exact HRZ.out; rfl; exact hd) | ((with_reducible refine wpList_load_row rfl 29 _ rfl g ?_ 29 (([.int .u8 e0, .int .u8 e1, .int .u8 e2, .int .u8 e3, .int .u8 e4, .int .u8 e5, .int .u8 e6, .int .u8 e7] : List Value) : List Value).toArray (0, 0) _ ?_ Try.underlying29 ?_ ?_ ?_); rfl; exact HRG.out; rfl; exact hd))
      with_reducible refine (eqDigits_same e0 e1 e2 e3 e4 e5 e6 e7 _).mono ?_
      rintro e w6 ⟨rfl, hB⟩
      replace rm := rm.below hB rm.lt
      replace rx := rx.below hB rx.lt
      replace sk := sk.below hB sk.1
      replace sj := sj.below hB sj.1
      replace bW := bW.trans (hB.mono bW.size)
      clear hB HRZ HRG rz rg
      go_upto_region 10 with fail
      refine wp_region_held (S := fun W' : World => Row W' GX 35 [.slice (some ⟨X, 0, none⟩) len len, .slice (some ⟨Y, 0, none⟩) len' len'] ∧ Row W' w.heap.size 25 [.slice a len cap, .slice a' len' cap']) (by kernel_rfl) ?_
      change wpAnyH _ _ _ _ _ _ _ _ (World.drew _)
      obtain ⟨W0, hW0⟩ : ∃ X, X = World.drew w6 := ⟨_, rfl⟩
      have hD0 : Below w6.heap.size w6 W0 := by rw [hW0]; exact (Below.refl _ _).drew
      replace rx := rx.below hD0 rx.lt
      replace rm := rm.below hD0 rm.lt
      replace sk := sk.below hD0 sk.1
      replace sj := sj.below hD0 sj.1
      replace bW := bW.trans (hD0.mono bW.size)
      rw [← hW0]
      clear hW0 hD0
      have hS0 : (fun W' : World => Row W' GX 35 [.slice (some ⟨X, 0, none⟩) len len, .slice (some ⟨Y, 0, none⟩) len' len'] ∧ Row W' w.heap.size 25 [.slice a len cap, .slice a' len' cap']) W0 := ⟨rx, rm⟩
      refine wpAnyH_takeD (some 42) (i := 0) (v := ?_) rfl rfl (by kernel_rfl) (by kernel_rfl) (by kernel_rfl) (fun _ _ _ h => h) (.inl ⟨by kernel_rfl, ?_⟩) hS0 ?_
      rotate_left
      · intro w' hw'; have hrow := hw'.1; have e0' := Row.cell hrow 0; have e1' := Row.cell hrow 1; simp only [List.getElem?_cons_zero, List.getElem?_cons_succ] at e0' e1'; clear hrow hw'; go_simp; try with_reducible rfl
      try simp only [Act.put, List.setIfInBounds_toArray, List.set_cons_zero, List.set_cons_succ]
      refine wpAnyH_takeD (some 43) (i := 1) (v := ?_) rfl rfl (by kernel_rfl) (by kernel_rfl) (by kernel_rfl) (fun _ _ _ h => h) (.inl ⟨by kernel_rfl, ?_⟩) hS0 ?_
      rotate_left
      · intro w' hw'; have hrow := hw'.2; have e0' := Row.cell hrow 0; have e1' := Row.cell hrow 1; simp only [List.getElem?_cons_zero, List.getElem?_cons_succ] at e0' e1'; clear hrow hw'; go_simp; try with_reducible rfl
      try simp only [Act.put, List.setIfInBounds_toArray, List.set_cons_zero, List.set_cons_succ]
      refine wpAnyH_all (rs := [2]) (by kernel_rfl) (by simp) ?_
      intro i hi'; simp only [List.mem_singleton] at hi'; subst hi'
      refine wpOp_step rfl (fun K hK => ?_)
      go_simp
      with_reducible refine (toMotion_any a len cap zs a' len' cap' js W0 (hI.out.below bW (Nat.le_refl _)) (hJ.out.below bW (Nat.le_refl _)) hle hle').mono ?_
      rintro e w7 ⟨U, V, rfl, hB, sk2, sj2, _, _⟩
      replace rx := rx.below hB rx.lt
      replace rm := rm.below hB rm.lt
      replace sk := sk.below hB sk.1
      replace sj := sj.below hB sj.1
      replace bW := bW.trans (hB.mono bW.size)
      clear hB
      have hS1 : (fun W' : World => Row W' GX 35 [.slice (some ⟨X, 0, none⟩) len len, .slice (some ⟨Y, 0, none⟩) len' len'] ∧ Row W' w.heap.size 25 [.slice a len cap, .slice a' len' cap']) w7 := ⟨rx, rm⟩
      refine hK _ _ ⟨hS1, ?_⟩
      try simp only [Act.put, List.setIfInBounds_toArray, List.set_cons_zero, List.set_cons_succ]
      clear hK K
      refine wpAnyH_all (rs := [3]) (by kernel_rfl) (by simp) ?_
      intro i hi'; simp only [List.mem_singleton] at hi'; subst hi'
      refine wpOp_step rfl (fun K hK => ?_)
      go_simp
      with_reducible refine (eqMotion_same X U len len len Y V len' len' len' zs js w7 sk sk2 hn.out sj sj2 hm.out).mono ?_
      rintro e w8 ⟨rfl, hB⟩
      replace rx := rx.below hB rx.lt
      replace rm := rm.below hB rm.lt
      replace bW := bW.trans (hB.mono bW.size)
      clear hB
      have hS2 : (fun W' : World => Row W' GX 35 [.slice (some ⟨X, 0, none⟩) len len, .slice (some ⟨Y, 0, none⟩) len' len'] ∧ Row W' w.heap.size 25 [.slice a len cap, .slice a' len' cap']) w8 := ⟨rx, rm⟩
      refine hK _ _ ⟨hS2, ?_⟩
      try simp only [Act.put, List.setIfInBounds_toArray, List.set_cons_zero, List.set_cons_succ]
      clear hK K
      refine wpAnyH_takeD (some 46) (i := 4) (v := ?_) rfl rfl (by kernel_rfl) (by kernel_rfl) (by kernel_rfl) (fun _ _ _ h => h) (.inl ⟨by kernel_rfl, ?_⟩) hS2 ?_
      rotate_left
      · intro w' hw'; go_simp; try with_reducible rfl
      try simp only [Act.put, List.setIfInBounds_toArray, List.set_cons_zero, List.set_cons_succ]
      refine wpAnyH_done (by kernel_rfl) ?_ _
      go_wp2_with fail
      go_ret
      exact ⟨rfl, bW⟩
end Go.Proofs.Ytkgldcjbaghapaa
