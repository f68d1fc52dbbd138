/- The walk of the law PhotoOf. -/
import Derived.Test.YtgfdfnlbkljgeaaPhP
import Derived.Deep.DeepCutAuto
namespace Go.Proofs.Ytgfdfnlbkljgeaa
open Go.RowKit
set_option maxRecDepth 100000 in
set_option maxHeartbeats 2000000 in
theorem law_FnExactPhotoOf (a : Option Addr) (len cap : Nat) (zs : List Int) (d0 d1 d2 d3 d4 d5 d6 d7 : Int) (w : World) (h : InB w a len zs) (ho : Oct d0 d1 d2 d3 d4 d5 d6 d7) :
    Calls Try.prog 4 #[.slice a len cap, .agg #[.int .u8 d0, .int .u8 d1, .int .u8 d2, .int .u8 d3, .int .u8 d4, .int .u8 d5, .int .u8 d6, .int .u8 d7]] w fun e w' => e = .returned (.bool true) ∧ Below w.heap.size w w' := by
  by_cases hl : 1048576 < len
  · go_enter Try.func4, Try.ntmps4
    go_wp2
    go_ret
    exact ⟨rfl, (Below.refl _ _).alloc (Nat.le_refl _) _⟩
  have hlen : len ≤ 1048576 := by omega
  have hI := hid h
  have hL := hid h.1
  have HO := hid ho
  have hi := Try.infoPhoto
  have hb1 : ((dphR zs [d0, d1, d2, d3, d4, d5, d6, d7]).2 != (dphR zs [d0, d1, d2, d3, d4, d5, d6, d7]).2) = false := by simp
  have rd := Row.new w 35 [.int .u8 d0, .int .u8 d1, .int .u8 d2, .int .u8 d3, .int .u8 d4, .int .u8 d5, .int .u8 d6, .int .u8 d7]
  have bW : Below w.heap.size w (w.alloc (.cells #[.int .u8 d0, .int .u8 d1, .int .u8 d2, .int .u8 d3, .int .u8 d4, .int .u8 d5, .int .u8 d6, .int .u8 d7] 35)) := (Below.refl _ _).alloc (Nat.le_refl _) _
  clear h ho
  go_enter Try.func4, Try.ntmps4
  go_upto_region 3 with fail
  go_cut [5, 6] (fun s5 s6 wx => ∃ (g : Nat) (W : World), W = wx ∧ s5 = .pointer (some ⟨g, 0, none⟩) ∧ s6 = .int .i64 (dphR zs [d0, d1, d2, d3, d4, d5, d6, d7]).2 ∧ Row W g 31 (phL (dphR zs [d0, d1, d2, d3, d4, d5, d6, d7]).1) ∧ Row W w.heap.size 35 [.int .u8 d0, .int .u8 d1, .int .u8 d2, .int .u8 d3, .int .u8 d4, .int .u8 d5, .int .u8 d6, .int .u8 d7] ∧ Below w.heap.size w W)
  case first =>
    refine wp_region_held (S := fun W' : World => Row W' w.heap.size 35 [.int .u8 d0, .int .u8 d1, .int .u8 d2, .int .u8 d3, .int .u8 d4, .int .u8 d5, .int .u8 d6, .int .u8 d7]) (by kernel_rfl) ?_
    change wpAnyH _ _ _ _ _ _ _ _ (World.drew _)
    obtain ⟨W0, hW0⟩ : ∃ X, X = World.drew (w.alloc (.cells #[.int .u8 d0, .int .u8 d1, .int .u8 d2, .int .u8 d3, .int .u8 d4, .int .u8 d5, .int .u8 d6, .int .u8 d7] 35)) := ⟨_, rfl⟩
    have hD0 : Below (w.alloc (.cells #[.int .u8 d0, .int .u8 d1, .int .u8 d2, .int .u8 d3, .int .u8 d4, .int .u8 d5, .int .u8 d6, .int .u8 d7] 35)).heap.size (w.alloc (.cells #[.int .u8 d0, .int .u8 d1, .int .u8 d2, .int .u8 d3, .int .u8 d4, .int .u8 d5, .int .u8 d6, .int .u8 d7] 35)) W0 := by rw [hW0]; exact (Below.refl _ _).drew
    replace rd := rd.below hD0 rd.lt
    have bW0 := bW.trans (hD0.mono bW.size)
    have bR : Below W0.heap.size W0 W0 := Below.refl _ _
    rw [← hW0]
    clear hW0 hD0
    have l_rd := rd.lt
    have hS0 : (fun W' : World => Row W' w.heap.size 35 [.int .u8 d0, .int .u8 d1, .int .u8 d2, .int .u8 d3, .int .u8 d4, .int .u8 d5, .int .u8 d6, .int .u8 d7]) W0 := rd
    refine wpAnyH_takeD (some 14) (i := 0) (v := ?_) rfl rfl (by kernel_rfl) (by kernel_rfl) (by kernel_rfl) (fun _ _ _ h => h) (.inl ⟨by kernel_rfl, ?_⟩) hS0 ?_
    rotate_left
    · intro w' hw'; go_simp; try with_reducible rfl
    try simp only [Act.put, List.setIfInBounds_toArray, List.set_cons_zero, List.set_cons_succ]
    refine wpAnyH_takeD (some 16) (i := 2) (v := ?_) rfl rfl (by kernel_rfl) (by kernel_rfl) (by kernel_rfl) (fun _ _ _ h => h) (.inl ⟨by kernel_rfl, ?_⟩) hS0 ?_
    rotate_left
    · intro w' hw'; have hrow := hw'; have e0 := Row.cell hrow 0; have e1 := Row.cell hrow 1; have e2 := Row.cell hrow 2; have e3 := Row.cell hrow 3; have e4 := Row.cell hrow 4; have e5 := Row.cell hrow 5; have e6 := Row.cell hrow 6; have e7 := Row.cell hrow 7; simp only [List.getElem?_cons_zero, List.getElem?_cons_succ] at e0 e1 e2 e3 e4 e5 e6 e7; clear hrow hw'; go_simp; try with_reducible rfl
    try simp only [Act.put, List.setIfInBounds_toArray, List.set_cons_zero, List.set_cons_succ]
    refine wpAnyH_all (rs := [1, 8]) (by kernel_rfl) (by simp) ?_
    intro i hi; simp only [List.mem_cons, List.not_mem_nil, or_false] at hi
    rcases hi with rfl | rfl
    · refine wpOp_step rfl (fun K hK => ?_)
      go_simp
      with_reducible refine (toStack_any a len cap zs W0 (hI.out.below (bW0.trans (bR.mono bW0.size)) (Nat.le_refl _)) hlen).mono ?_
      rintro e v1 ⟨rfl, hB1, sk, _⟩
      replace rd := rd.below hB1 rd.lt
      replace bR := bR.trans (hB1.mono bR.size)
      have hS1 : (fun W' : World => Row W' w.heap.size 35 [.int .u8 d0, .int .u8 d1, .int .u8 d2, .int .u8 d3, .int .u8 d4, .int .u8 d5, .int .u8 d6, .int .u8 d7]) v1 := rd
      refine hK _ _ ⟨hS1, ?_⟩
      try simp only [Act.put, List.setIfInBounds_toArray, List.set_cons_zero, List.set_cons_succ]
      clear hB1 hK K hS0
      refine wpAnyH_all (rs := [3, 8]) (by kernel_rfl) (by simp) ?_
      intro i hi; simp only [List.mem_cons, List.not_mem_nil, or_false] at hi
      rcases hi with rfl | rfl
      · refine wpOp_step rfl (fun K hK => ?_)
        go_simp
        with_reducible refine (toDigits_any d0 d1 d2 d3 d4 d5 d6 d7 v1).mono ?_
        rintro e v2 ⟨rfl, hB2⟩
        replace rd := rd.below hB2 rd.lt
        replace sk := sk.below hB2 sk.1
        replace bR := bR.trans (hB2.mono bR.size)
        have hS2 : (fun W' : World => Row W' w.heap.size 35 [.int .u8 d0, .int .u8 d1, .int .u8 d2, .int .u8 d3, .int .u8 d4, .int .u8 d5, .int .u8 d6, .int .u8 d7]) v2 := rd
        refine hK _ _ ⟨hS2, ?_⟩
        try simp only [Act.put, List.setIfInBounds_toArray, List.set_cons_zero, List.set_cons_succ]
        clear hB2 hK K hS1
        refine wpAnyH_all (rs := [4, 8]) (by kernel_rfl) (by simp) ?_
        intro i hi; simp only [List.mem_cons, List.not_mem_nil, or_false] at hi
        rcases hi with rfl | rfl
        · refine wpOp_step rfl (fun K hK => ?_)
          go_simp
          with_reducible refine (specPhotoOf_any _ len len zs d0 d1 d2 d3 d4 d5 d6 d7 v2 sk hL.out.symm HO.out).mono ?_
          rintro e v3 ⟨rfl, hB3⟩
          replace rd := rd.below hB3 rd.lt
          replace sk := sk.below hB3 sk.1
          replace bR := bR.trans (hB3.mono bR.size)
          have hS3 : (fun W' : World => Row W' w.heap.size 35 [.int .u8 d0, .int .u8 d1, .int .u8 d2, .int .u8 d3, .int .u8 d4, .int .u8 d5, .int .u8 d6, .int .u8 d7]) v3 := rd
          refine hK _ _ ⟨hS3, ?_⟩
          try simp only [Act.put, List.setIfInBounds_toArray, List.set_cons_zero, List.set_cons_succ]
          clear hB3 hK K hS2
          refine wpAnyH_takeD (some 13) (i := 5) (v := ?_) rfl rfl (by kernel_rfl) (by kernel_rfl) (by kernel_rfl) (fun _ _ _ h => h) (.inl ⟨by kernel_rfl, ?_⟩) hS3 ?_
          rotate_left
          · intro w' hw'; go_simp; try with_reducible rfl
          try simp only [Act.put, List.setIfInBounds_toArray, List.set_cons_zero, List.set_cons_succ]
          refine wpAnyH_takeD (some 19) (i := 6) (v := ?_) rfl rfl (by kernel_rfl) (by kernel_rfl) (by kernel_rfl) (fun _ _ _ h => h) (.inl ⟨by kernel_rfl, ?_⟩) hS3 ?_
          rotate_left
          · intro w' hw'; go_simp; try with_reducible rfl
          try simp only [Act.put, List.setIfInBounds_toArray, List.set_cons_zero, List.set_cons_succ]
          refine wpAnyH_takeD (some 20) (i := 7) (v := ?_) rfl rfl (by kernel_rfl) (by kernel_rfl) (by kernel_rfl) (fun _ _ _ h => h) (.inl ⟨by kernel_rfl, ?_⟩) hS3 ?_
          rotate_left
          · intro w' hw'; go_simp; try with_reducible rfl
          try simp only [Act.put, List.setIfInBounds_toArray, List.set_cons_zero, List.set_cons_succ]
          refine wpAnyH_all (rs := [8]) (by kernel_rfl) (by simp) ?_
          intro i hi; simp only [List.mem_cons, List.not_mem_nil, or_false] at hi
          subst hi
          refine wpOp_step rfl (fun K hK => ?_)
          go_simp
          have rg := (Row.new v3 31 [.int .u64 0, .int .u64 0, .int .u64 0, .int .u64 0, .int .u64 0, .int .u64 0, .int .u64 0, .int .u64 0, .int .u64 0, .int .u64 0, .int .u64 0, .int .u64 0, .int .u64 0, .int .u64 0, .int .u64 0, .int .u64 0]).zeros
          have hA : Below v3.heap.size v3 (v3.alloc (.cells #[.int .u64 0, .int .u64 0, .int .u64 0, .int .u64 0, .int .u64 0, .int .u64 0, .int .u64 0, .int .u64 0, .int .u64 0, .int .u64 0, .int .u64 0, .int .u64 0, .int .u64 0, .int .u64 0, .int .u64 0, .int .u64 0] 31)) := (Below.refl _ _).alloc (Nat.le_refl _) _
          replace rd := rd.below hA rd.lt
          replace sk := sk.below hA sk.1
          have lg := bR.size
          replace bR := bR.trans (hA.mono bR.size)
          have hS4 : (fun W' : World => Row W' w.heap.size 35 [.int .u8 d0, .int .u8 d1, .int .u8 d2, .int .u8 d3, .int .u8 d4, .int .u8 d5, .int .u8 d6, .int .u8 d7]) (v3.alloc (.cells #[.int .u64 0, .int .u64 0, .int .u64 0, .int .u64 0, .int .u64 0, .int .u64 0, .int .u64 0, .int .u64 0, .int .u64 0, .int .u64 0, .int .u64 0, .int .u64 0, .int .u64 0, .int .u64 0, .int .u64 0, .int .u64 0] 31)) := rd
          refine hK _ _ ⟨hS4, ?_⟩
          try simp only [Act.put, List.setIfInBounds_toArray, List.set_cons_zero, List.set_cons_succ]
          obtain ⟨X4, hX4⟩ : ∃ X, X = v3.alloc (.cells #[.int .u64 0, .int .u64 0, .int .u64 0, .int .u64 0, .int .u64 0, .int .u64 0, .int .u64 0, .int .u64 0, .int .u64 0, .int .u64 0, .int .u64 0, .int .u64 0, .int .u64 0, .int .u64 0, .int .u64 0, .int .u64 0] 31) := ⟨_, rfl⟩
          rw [← hX4] at rd sk rg bR hS4 ⊢
          clear hX4 hA hK K hS3
          refine wpAnyH_all (rs := [9]) (by kernel_rfl) (by simp) ?_
          intro i hi; simp only [List.mem_cons, List.not_mem_nil, or_false] at hi
          subst hi
          refine wpOp_step rfl (fun K hK => ?_)
          rw [if_pos (by kernel_rfl)]
          refine wp_store_mid 31 (.tmp 5) (.tmp 19) rfl (v3.heap.size) 0 (phL (dphR zs [d0, d1, d2, d3, d4, d5, d6, d7]).1).toArray rfl rfl (by rw [sz16]; exact rg.there 16 rfl) (by rw [sz16]; exact hi) (all_oneCell_toArray (phL_one _)) ?_
          have hA : Below (v3.heap.size) X4 (X4.setCells (v3.heap.size) 0 (phL (dphR zs [d0, d1, d2, d3, d4, d5, d6, d7]).1)) := below_setCells (phL (dphR zs [d0, d1, d2, d3, d4, d5, d6, d7]).1) 0 _ (Below.refl _ _) (Nat.le_refl _)
          replace rd := rd.below hA (Nat.lt_of_lt_of_le l_rd lg)
          replace rg := rg.setCells (ys := (phL (dphR zs [d0, d1, d2, d3, d4, d5, d6, d7]).1)) rfl
          replace bR := below_setCells (phL (dphR zs [d0, d1, d2, d3, d4, d5, d6, d7]).1) 0 _ bR (g := v3.heap.size) lg
          have hS5 : (fun W' : World => Row W' w.heap.size 35 [.int .u8 d0, .int .u8 d1, .int .u8 d2, .int .u8 d3, .int .u8 d4, .int .u8 d5, .int .u8 d6, .int .u8 d7]) (X4.setCells (v3.heap.size) 0 (phL (dphR zs [d0, d1, d2, d3, d4, d5, d6, d7]).1)) := rd
          refine hK _ _ ⟨hS5, ?_⟩
          try simp only [Act.put, List.setIfInBounds_toArray, List.set_cons_zero, List.set_cons_succ]
          obtain ⟨X5, hX5⟩ : ∃ X, X = X4.setCells (v3.heap.size) 0 (phL (dphR zs [d0, d1, d2, d3, d4, d5, d6, d7]).1) := ⟨_, rfl⟩
          rw [← hX5] at rd rg bR hS5 ⊢
          clear hX5 hA hK K hS4
          refine wpAnyH_takeD (some 6) (i := 10) (v := ?_) rfl rfl (by kernel_rfl) (by kernel_rfl) (by kernel_rfl) (fun _ _ _ h => h) (.inl ⟨by kernel_rfl, ?_⟩) hS5 ?_
          rotate_left
          · intro w' hw'; go_simp; try with_reducible rfl
          try simp only [Act.put, List.setIfInBounds_toArray, List.set_cons_zero, List.set_cons_succ]
          refine wpAnyH_done (by kernel_rfl) ?_ _
          go_wp2_with fail
          go_meet
          exact ⟨v3.heap.size, _, rfl, rfl, rfl, rg, rd, bW0.trans (bR.mono bW0.size)⟩
        · refine wpOp_step rfl (fun K hK => ?_)
          go_simp
          have rg := (Row.new v2 31 [.int .u64 0, .int .u64 0, .int .u64 0, .int .u64 0, .int .u64 0, .int .u64 0, .int .u64 0, .int .u64 0, .int .u64 0, .int .u64 0, .int .u64 0, .int .u64 0, .int .u64 0, .int .u64 0, .int .u64 0, .int .u64 0]).zeros
          have hA : Below v2.heap.size v2 (v2.alloc (.cells #[.int .u64 0, .int .u64 0, .int .u64 0, .int .u64 0, .int .u64 0, .int .u64 0, .int .u64 0, .int .u64 0, .int .u64 0, .int .u64 0, .int .u64 0, .int .u64 0, .int .u64 0, .int .u64 0, .int .u64 0, .int .u64 0] 31)) := (Below.refl _ _).alloc (Nat.le_refl _) _
          replace rd := rd.below hA rd.lt
          replace sk := sk.below hA sk.1
          have lg := bR.size
          replace bR := bR.trans (hA.mono bR.size)
          have hS6 : (fun W' : World => Row W' w.heap.size 35 [.int .u8 d0, .int .u8 d1, .int .u8 d2, .int .u8 d3, .int .u8 d4, .int .u8 d5, .int .u8 d6, .int .u8 d7]) (v2.alloc (.cells #[.int .u64 0, .int .u64 0, .int .u64 0, .int .u64 0, .int .u64 0, .int .u64 0, .int .u64 0, .int .u64 0, .int .u64 0, .int .u64 0, .int .u64 0, .int .u64 0, .int .u64 0, .int .u64 0, .int .u64 0, .int .u64 0] 31)) := rd
          refine hK _ _ ⟨hS6, ?_⟩
          try simp only [Act.put, List.setIfInBounds_toArray, List.set_cons_zero, List.set_cons_succ]
          obtain ⟨X6, hX6⟩ : ∃ X, X = v2.alloc (.cells #[.int .u64 0, .int .u64 0, .int .u64 0, .int .u64 0, .int .u64 0, .int .u64 0, .int .u64 0, .int .u64 0, .int .u64 0, .int .u64 0, .int .u64 0, .int .u64 0, .int .u64 0, .int .u64 0, .int .u64 0, .int .u64 0] 31) := ⟨_, rfl⟩
          rw [← hX6] at rd sk rg bR hS6 ⊢
          clear hX6 hA hK K hS2
          refine wpAnyH_all (rs := [4]) (by kernel_rfl) (by simp) ?_
          intro i hi; simp only [List.mem_cons, List.not_mem_nil, or_false] at hi
          subst hi
          refine wpOp_step rfl (fun K hK => ?_)
          go_simp
          with_reducible refine (specPhotoOf_any _ len len zs d0 d1 d2 d3 d4 d5 d6 d7 X6 sk hL.out.symm HO.out).mono ?_
          rintro e v7 ⟨rfl, hB7⟩
          replace rd := rd.below hB7 rd.lt
          replace sk := sk.below hB7 sk.1
          replace rg := rg.below hB7 rg.lt
          replace bR := bR.trans (hB7.mono bR.size)
          have hS7 : (fun W' : World => Row W' w.heap.size 35 [.int .u8 d0, .int .u8 d1, .int .u8 d2, .int .u8 d3, .int .u8 d4, .int .u8 d5, .int .u8 d6, .int .u8 d7]) v7 := rd
          refine hK _ _ ⟨hS7, ?_⟩
          try simp only [Act.put, List.setIfInBounds_toArray, List.set_cons_zero, List.set_cons_succ]
          clear hB7 hK K hS6
          refine wpAnyH_takeD (some 13) (i := 5) (v := ?_) rfl rfl (by kernel_rfl) (by kernel_rfl) (by kernel_rfl) (fun _ _ _ h => h) (.inl ⟨by kernel_rfl, ?_⟩) hS7 ?_
          rotate_left
          · intro w' hw'; go_simp; try with_reducible rfl
          try simp only [Act.put, List.setIfInBounds_toArray, List.set_cons_zero, List.set_cons_succ]
          refine wpAnyH_takeD (some 19) (i := 6) (v := ?_) rfl rfl (by kernel_rfl) (by kernel_rfl) (by kernel_rfl) (fun _ _ _ h => h) (.inl ⟨by kernel_rfl, ?_⟩) hS7 ?_
          rotate_left
          · intro w' hw'; go_simp; try with_reducible rfl
          try simp only [Act.put, List.setIfInBounds_toArray, List.set_cons_zero, List.set_cons_succ]
          refine wpAnyH_takeD (some 20) (i := 7) (v := ?_) rfl rfl (by kernel_rfl) (by kernel_rfl) (by kernel_rfl) (fun _ _ _ h => h) (.inl ⟨by kernel_rfl, ?_⟩) hS7 ?_
          rotate_left
          · intro w' hw'; go_simp; try with_reducible rfl
          try simp only [Act.put, List.setIfInBounds_toArray, List.set_cons_zero, List.set_cons_succ]
          refine wpAnyH_all (rs := [9]) (by kernel_rfl) (by simp) ?_
          intro i hi; simp only [List.mem_cons, List.not_mem_nil, or_false] at hi
          subst hi
          refine wpOp_step rfl (fun K hK => ?_)
          rw [if_pos (by kernel_rfl)]
          refine wp_store_mid 31 (.tmp 5) (.tmp 19) rfl (v2.heap.size) 0 (phL (dphR zs [d0, d1, d2, d3, d4, d5, d6, d7]).1).toArray rfl rfl (by rw [sz16]; exact rg.there 16 rfl) (by rw [sz16]; exact hi) (all_oneCell_toArray (phL_one _)) ?_
          have hA : Below (v2.heap.size) v7 (v7.setCells (v2.heap.size) 0 (phL (dphR zs [d0, d1, d2, d3, d4, d5, d6, d7]).1)) := below_setCells (phL (dphR zs [d0, d1, d2, d3, d4, d5, d6, d7]).1) 0 _ (Below.refl _ _) (Nat.le_refl _)
          replace rd := rd.below hA (Nat.lt_of_lt_of_le l_rd lg)
          replace rg := rg.setCells (ys := (phL (dphR zs [d0, d1, d2, d3, d4, d5, d6, d7]).1)) rfl
          replace bR := below_setCells (phL (dphR zs [d0, d1, d2, d3, d4, d5, d6, d7]).1) 0 _ bR (g := v2.heap.size) lg
          have hS8 : (fun W' : World => Row W' w.heap.size 35 [.int .u8 d0, .int .u8 d1, .int .u8 d2, .int .u8 d3, .int .u8 d4, .int .u8 d5, .int .u8 d6, .int .u8 d7]) (v7.setCells (v2.heap.size) 0 (phL (dphR zs [d0, d1, d2, d3, d4, d5, d6, d7]).1)) := rd
          refine hK _ _ ⟨hS8, ?_⟩
          try simp only [Act.put, List.setIfInBounds_toArray, List.set_cons_zero, List.set_cons_succ]
          obtain ⟨X8, hX8⟩ : ∃ X, X = v7.setCells (v2.heap.size) 0 (phL (dphR zs [d0, d1, d2, d3, d4, d5, d6, d7]).1) := ⟨_, rfl⟩
          rw [← hX8] at rd rg bR hS8 ⊢
          clear hX8 hA hK K hS7
          refine wpAnyH_takeD (some 6) (i := 10) (v := ?_) rfl rfl (by kernel_rfl) (by kernel_rfl) (by kernel_rfl) (fun _ _ _ h => h) (.inl ⟨by kernel_rfl, ?_⟩) hS8 ?_
          rotate_left
          · intro w' hw'; go_simp; try with_reducible rfl
          try simp only [Act.put, List.setIfInBounds_toArray, List.set_cons_zero, List.set_cons_succ]
          refine wpAnyH_done (by kernel_rfl) ?_ _
          go_wp2_with fail
          go_meet
          exact ⟨v2.heap.size, _, rfl, rfl, rfl, rg, rd, bW0.trans (bR.mono bW0.size)⟩
      · refine wpOp_step rfl (fun K hK => ?_)
        go_simp
        have rg := (Row.new v1 31 [.int .u64 0, .int .u64 0, .int .u64 0, .int .u64 0, .int .u64 0, .int .u64 0, .int .u64 0, .int .u64 0, .int .u64 0, .int .u64 0, .int .u64 0, .int .u64 0, .int .u64 0, .int .u64 0, .int .u64 0, .int .u64 0]).zeros
        have hA : Below v1.heap.size v1 (v1.alloc (.cells #[.int .u64 0, .int .u64 0, .int .u64 0, .int .u64 0, .int .u64 0, .int .u64 0, .int .u64 0, .int .u64 0, .int .u64 0, .int .u64 0, .int .u64 0, .int .u64 0, .int .u64 0, .int .u64 0, .int .u64 0, .int .u64 0] 31)) := (Below.refl _ _).alloc (Nat.le_refl _) _
        replace rd := rd.below hA rd.lt
        replace sk := sk.below hA sk.1
        have lg := bR.size
        replace bR := bR.trans (hA.mono bR.size)
        have hS9 : (fun W' : World => Row W' w.heap.size 35 [.int .u8 d0, .int .u8 d1, .int .u8 d2, .int .u8 d3, .int .u8 d4, .int .u8 d5, .int .u8 d6, .int .u8 d7]) (v1.alloc (.cells #[.int .u64 0, .int .u64 0, .int .u64 0, .int .u64 0, .int .u64 0, .int .u64 0, .int .u64 0, .int .u64 0, .int .u64 0, .int .u64 0, .int .u64 0, .int .u64 0, .int .u64 0, .int .u64 0, .int .u64 0, .int .u64 0] 31)) := rd
        refine hK _ _ ⟨hS9, ?_⟩
        try simp only [Act.put, List.setIfInBounds_toArray, List.set_cons_zero, List.set_cons_succ]
        obtain ⟨X9, hX9⟩ : ∃ X, X = v1.alloc (.cells #[.int .u64 0, .int .u64 0, .int .u64 0, .int .u64 0, .int .u64 0, .int .u64 0, .int .u64 0, .int .u64 0, .int .u64 0, .int .u64 0, .int .u64 0, .int .u64 0, .int .u64 0, .int .u64 0, .int .u64 0, .int .u64 0] 31) := ⟨_, rfl⟩
        rw [← hX9] at rd sk rg bR hS9 ⊢
        clear hX9 hA hK K hS1
        refine wpAnyH_all (rs := [3]) (by kernel_rfl) (by simp) ?_
        intro i hi; simp only [List.mem_cons, List.not_mem_nil, or_false] at hi
        subst hi
        refine wpOp_step rfl (fun K hK => ?_)
        go_simp
        with_reducible refine (toDigits_any d0 d1 d2 d3 d4 d5 d6 d7 X9).mono ?_
        rintro e v10 ⟨rfl, hB10⟩
        replace rd := rd.below hB10 rd.lt
        replace sk := sk.below hB10 sk.1
        replace rg := rg.below hB10 rg.lt
        replace bR := bR.trans (hB10.mono bR.size)
        have hS10 : (fun W' : World => Row W' w.heap.size 35 [.int .u8 d0, .int .u8 d1, .int .u8 d2, .int .u8 d3, .int .u8 d4, .int .u8 d5, .int .u8 d6, .int .u8 d7]) v10 := rd
        refine hK _ _ ⟨hS10, ?_⟩
        try simp only [Act.put, List.setIfInBounds_toArray, List.set_cons_zero, List.set_cons_succ]
        clear hB10 hK K hS9
        refine wpAnyH_all (rs := [4]) (by kernel_rfl) (by simp) ?_
        intro i hi; simp only [List.mem_cons, List.not_mem_nil, or_false] at hi
        subst hi
        refine wpOp_step rfl (fun K hK => ?_)
        go_simp
        with_reducible refine (specPhotoOf_any _ len len zs d0 d1 d2 d3 d4 d5 d6 d7 v10 sk hL.out.symm HO.out).mono ?_
        rintro e v11 ⟨rfl, hB11⟩
        replace rd := rd.below hB11 rd.lt
        replace sk := sk.below hB11 sk.1
        replace rg := rg.below hB11 rg.lt
        replace bR := bR.trans (hB11.mono bR.size)
        have hS11 : (fun W' : World => Row W' w.heap.size 35 [.int .u8 d0, .int .u8 d1, .int .u8 d2, .int .u8 d3, .int .u8 d4, .int .u8 d5, .int .u8 d6, .int .u8 d7]) v11 := rd
        refine hK _ _ ⟨hS11, ?_⟩
        try simp only [Act.put, List.setIfInBounds_toArray, List.set_cons_zero, List.set_cons_succ]
        clear hB11 hK K hS10
        refine wpAnyH_takeD (some 13) (i := 5) (v := ?_) rfl rfl (by kernel_rfl) (by kernel_rfl) (by kernel_rfl) (fun _ _ _ h => h) (.inl ⟨by kernel_rfl, ?_⟩) hS11 ?_
        rotate_left
        · intro w' hw'; go_simp; try with_reducible rfl
        try simp only [Act.put, List.setIfInBounds_toArray, List.set_cons_zero, List.set_cons_succ]
        refine wpAnyH_takeD (some 19) (i := 6) (v := ?_) rfl rfl (by kernel_rfl) (by kernel_rfl) (by kernel_rfl) (fun _ _ _ h => h) (.inl ⟨by kernel_rfl, ?_⟩) hS11 ?_
        rotate_left
        · intro w' hw'; go_simp; try with_reducible rfl
        try simp only [Act.put, List.setIfInBounds_toArray, List.set_cons_zero, List.set_cons_succ]
        refine wpAnyH_takeD (some 20) (i := 7) (v := ?_) rfl rfl (by kernel_rfl) (by kernel_rfl) (by kernel_rfl) (fun _ _ _ h => h) (.inl ⟨by kernel_rfl, ?_⟩) hS11 ?_
        rotate_left
        · intro w' hw'; go_simp; try with_reducible rfl
        try simp only [Act.put, List.setIfInBounds_toArray, List.set_cons_zero, List.set_cons_succ]
        refine wpAnyH_all (rs := [9]) (by kernel_rfl) (by simp) ?_
        intro i hi; simp only [List.mem_cons, List.not_mem_nil, or_false] at hi
        subst hi
        refine wpOp_step rfl (fun K hK => ?_)
        rw [if_pos (by kernel_rfl)]
        refine wp_store_mid 31 (.tmp 5) (.tmp 19) rfl (v1.heap.size) 0 (phL (dphR zs [d0, d1, d2, d3, d4, d5, d6, d7]).1).toArray rfl rfl (by rw [sz16]; exact rg.there 16 rfl) (by rw [sz16]; exact hi) (all_oneCell_toArray (phL_one _)) ?_
        have hA : Below (v1.heap.size) v11 (v11.setCells (v1.heap.size) 0 (phL (dphR zs [d0, d1, d2, d3, d4, d5, d6, d7]).1)) := below_setCells (phL (dphR zs [d0, d1, d2, d3, d4, d5, d6, d7]).1) 0 _ (Below.refl _ _) (Nat.le_refl _)
        replace rd := rd.below hA (Nat.lt_of_lt_of_le l_rd lg)
        replace rg := rg.setCells (ys := (phL (dphR zs [d0, d1, d2, d3, d4, d5, d6, d7]).1)) rfl
        replace bR := below_setCells (phL (dphR zs [d0, d1, d2, d3, d4, d5, d6, d7]).1) 0 _ bR (g := v1.heap.size) lg
        have hS12 : (fun W' : World => Row W' w.heap.size 35 [.int .u8 d0, .int .u8 d1, .int .u8 d2, .int .u8 d3, .int .u8 d4, .int .u8 d5, .int .u8 d6, .int .u8 d7]) (v11.setCells (v1.heap.size) 0 (phL (dphR zs [d0, d1, d2, d3, d4, d5, d6, d7]).1)) := rd
        refine hK _ _ ⟨hS12, ?_⟩
        try simp only [Act.put, List.setIfInBounds_toArray, List.set_cons_zero, List.set_cons_succ]
        obtain ⟨X12, hX12⟩ : ∃ X, X = v11.setCells (v1.heap.size) 0 (phL (dphR zs [d0, d1, d2, d3, d4, d5, d6, d7]).1) := ⟨_, rfl⟩
        rw [← hX12] at rd rg bR hS12 ⊢
        clear hX12 hA hK K hS11
        refine wpAnyH_takeD (some 6) (i := 10) (v := ?_) rfl rfl (by kernel_rfl) (by kernel_rfl) (by kernel_rfl) (fun _ _ _ h => h) (.inl ⟨by kernel_rfl, ?_⟩) hS12 ?_
        rotate_left
        · intro w' hw'; go_simp; try with_reducible rfl
        try simp only [Act.put, List.setIfInBounds_toArray, List.set_cons_zero, List.set_cons_succ]
        refine wpAnyH_done (by kernel_rfl) ?_ _
        go_wp2_with fail
        go_meet
        exact ⟨v1.heap.size, _, rfl, rfl, rfl, rg, rd, bW0.trans (bR.mono bW0.size)⟩
    · refine wpOp_step rfl (fun K hK => ?_)
      go_simp
      have rg := (Row.new W0 31 [.int .u64 0, .int .u64 0, .int .u64 0, .int .u64 0, .int .u64 0, .int .u64 0, .int .u64 0, .int .u64 0, .int .u64 0, .int .u64 0, .int .u64 0, .int .u64 0, .int .u64 0, .int .u64 0, .int .u64 0, .int .u64 0]).zeros
      have hA : Below W0.heap.size W0 (W0.alloc (.cells #[.int .u64 0, .int .u64 0, .int .u64 0, .int .u64 0, .int .u64 0, .int .u64 0, .int .u64 0, .int .u64 0, .int .u64 0, .int .u64 0, .int .u64 0, .int .u64 0, .int .u64 0, .int .u64 0, .int .u64 0, .int .u64 0] 31)) := (Below.refl _ _).alloc (Nat.le_refl _) _
      replace rd := rd.below hA rd.lt
      have lg := bR.size
      replace bR := bR.trans (hA.mono bR.size)
      have hS13 : (fun W' : World => Row W' w.heap.size 35 [.int .u8 d0, .int .u8 d1, .int .u8 d2, .int .u8 d3, .int .u8 d4, .int .u8 d5, .int .u8 d6, .int .u8 d7]) (W0.alloc (.cells #[.int .u64 0, .int .u64 0, .int .u64 0, .int .u64 0, .int .u64 0, .int .u64 0, .int .u64 0, .int .u64 0, .int .u64 0, .int .u64 0, .int .u64 0, .int .u64 0, .int .u64 0, .int .u64 0, .int .u64 0, .int .u64 0] 31)) := rd
      refine hK _ _ ⟨hS13, ?_⟩
      try simp only [Act.put, List.setIfInBounds_toArray, List.set_cons_zero, List.set_cons_succ]
      obtain ⟨X13, hX13⟩ : ∃ X, X = W0.alloc (.cells #[.int .u64 0, .int .u64 0, .int .u64 0, .int .u64 0, .int .u64 0, .int .u64 0, .int .u64 0, .int .u64 0, .int .u64 0, .int .u64 0, .int .u64 0, .int .u64 0, .int .u64 0, .int .u64 0, .int .u64 0, .int .u64 0] 31) := ⟨_, rfl⟩
      rw [← hX13] at rd rg bR hS13 ⊢
      clear hX13 hA hK K hS0
      refine wpAnyH_all (rs := [1]) (by kernel_rfl) (by simp) ?_
      intro i hi; simp only [List.mem_cons, List.not_mem_nil, or_false] at hi
      subst hi
      refine wpOp_step rfl (fun K hK => ?_)
      go_simp
      with_reducible refine (toStack_any a len cap zs X13 (hI.out.below (bW0.trans (bR.mono bW0.size)) (Nat.le_refl _)) hlen).mono ?_
      rintro e v14 ⟨rfl, hB14, sk, _⟩
      replace rd := rd.below hB14 rd.lt
      replace rg := rg.below hB14 rg.lt
      replace bR := bR.trans (hB14.mono bR.size)
      have hS14 : (fun W' : World => Row W' w.heap.size 35 [.int .u8 d0, .int .u8 d1, .int .u8 d2, .int .u8 d3, .int .u8 d4, .int .u8 d5, .int .u8 d6, .int .u8 d7]) v14 := rd
      refine hK _ _ ⟨hS14, ?_⟩
      try simp only [Act.put, List.setIfInBounds_toArray, List.set_cons_zero, List.set_cons_succ]
      clear hB14 hK K hS13
      refine wpAnyH_all (rs := [3]) (by kernel_rfl) (by simp) ?_
      intro i hi; simp only [List.mem_cons, List.not_mem_nil, or_false] at hi
      subst hi
      refine wpOp_step rfl (fun K hK => ?_)
      go_simp
      with_reducible refine (toDigits_any d0 d1 d2 d3 d4 d5 d6 d7 v14).mono ?_
      rintro e v15 ⟨rfl, hB15⟩
      replace rd := rd.below hB15 rd.lt
      replace sk := sk.below hB15 sk.1
      replace rg := rg.below hB15 rg.lt
      replace bR := bR.trans (hB15.mono bR.size)
      have hS15 : (fun W' : World => Row W' w.heap.size 35 [.int .u8 d0, .int .u8 d1, .int .u8 d2, .int .u8 d3, .int .u8 d4, .int .u8 d5, .int .u8 d6, .int .u8 d7]) v15 := rd
      refine hK _ _ ⟨hS15, ?_⟩
      try simp only [Act.put, List.setIfInBounds_toArray, List.set_cons_zero, List.set_cons_succ]
      clear hB15 hK K hS14
      refine wpAnyH_all (rs := [4]) (by kernel_rfl) (by simp) ?_
      intro i hi; simp only [List.mem_cons, List.not_mem_nil, or_false] at hi
      subst hi
      refine wpOp_step rfl (fun K hK => ?_)
      go_simp
      with_reducible refine (specPhotoOf_any _ len len zs d0 d1 d2 d3 d4 d5 d6 d7 v15 sk hL.out.symm HO.out).mono ?_
      rintro e v16 ⟨rfl, hB16⟩
      replace rd := rd.below hB16 rd.lt
      replace sk := sk.below hB16 sk.1
      replace rg := rg.below hB16 rg.lt
      replace bR := bR.trans (hB16.mono bR.size)
      have hS16 : (fun W' : World => Row W' w.heap.size 35 [.int .u8 d0, .int .u8 d1, .int .u8 d2, .int .u8 d3, .int .u8 d4, .int .u8 d5, .int .u8 d6, .int .u8 d7]) v16 := rd
      refine hK _ _ ⟨hS16, ?_⟩
      try simp only [Act.put, List.setIfInBounds_toArray, List.set_cons_zero, List.set_cons_succ]
      clear hB16 hK K hS15
      refine wpAnyH_takeD (some 13) (i := 5) (v := ?_) rfl rfl (by kernel_rfl) (by kernel_rfl) (by kernel_rfl) (fun _ _ _ h => h) (.inl ⟨by kernel_rfl, ?_⟩) hS16 ?_
      rotate_left
      · intro w' hw'; go_simp; try with_reducible rfl
      try simp only [Act.put, List.setIfInBounds_toArray, List.set_cons_zero, List.set_cons_succ]
      refine wpAnyH_takeD (some 19) (i := 6) (v := ?_) rfl rfl (by kernel_rfl) (by kernel_rfl) (by kernel_rfl) (fun _ _ _ h => h) (.inl ⟨by kernel_rfl, ?_⟩) hS16 ?_
      rotate_left
      · intro w' hw'; go_simp; try with_reducible rfl
      try simp only [Act.put, List.setIfInBounds_toArray, List.set_cons_zero, List.set_cons_succ]
      refine wpAnyH_takeD (some 20) (i := 7) (v := ?_) rfl rfl (by kernel_rfl) (by kernel_rfl) (by kernel_rfl) (fun _ _ _ h => h) (.inl ⟨by kernel_rfl, ?_⟩) hS16 ?_
      rotate_left
      · intro w' hw'; go_simp; try with_reducible rfl
      try simp only [Act.put, List.setIfInBounds_toArray, List.set_cons_zero, List.set_cons_succ]
      refine wpAnyH_all (rs := [9]) (by kernel_rfl) (by simp) ?_
      intro i hi; simp only [List.mem_cons, List.not_mem_nil, or_false] at hi
      subst hi
      refine wpOp_step rfl (fun K hK => ?_)
      rw [if_pos (by kernel_rfl)]
      refine wp_store_mid 31 (.tmp 5) (.tmp 19) rfl (W0.heap.size) 0 (phL (dphR zs [d0, d1, d2, d3, d4, d5, d6, d7]).1).toArray rfl rfl (by rw [sz16]; exact rg.there 16 rfl) (by rw [sz16]; exact hi) (all_oneCell_toArray (phL_one _)) ?_
      have hA : Below (W0.heap.size) v16 (v16.setCells (W0.heap.size) 0 (phL (dphR zs [d0, d1, d2, d3, d4, d5, d6, d7]).1)) := below_setCells (phL (dphR zs [d0, d1, d2, d3, d4, d5, d6, d7]).1) 0 _ (Below.refl _ _) (Nat.le_refl _)
      replace rd := rd.below hA (Nat.lt_of_lt_of_le l_rd lg)
      replace rg := rg.setCells (ys := (phL (dphR zs [d0, d1, d2, d3, d4, d5, d6, d7]).1)) rfl
      replace bR := below_setCells (phL (dphR zs [d0, d1, d2, d3, d4, d5, d6, d7]).1) 0 _ bR (g := W0.heap.size) lg
      have hS17 : (fun W' : World => Row W' w.heap.size 35 [.int .u8 d0, .int .u8 d1, .int .u8 d2, .int .u8 d3, .int .u8 d4, .int .u8 d5, .int .u8 d6, .int .u8 d7]) (v16.setCells (W0.heap.size) 0 (phL (dphR zs [d0, d1, d2, d3, d4, d5, d6, d7]).1)) := rd
      refine hK _ _ ⟨hS17, ?_⟩
      try simp only [Act.put, List.setIfInBounds_toArray, List.set_cons_zero, List.set_cons_succ]
      obtain ⟨X17, hX17⟩ : ∃ X, X = v16.setCells (W0.heap.size) 0 (phL (dphR zs [d0, d1, d2, d3, d4, d5, d6, d7]).1) := ⟨_, rfl⟩
      rw [← hX17] at rd rg bR hS17 ⊢
      clear hX17 hA hK K hS16
      refine wpAnyH_takeD (some 6) (i := 10) (v := ?_) rfl rfl (by kernel_rfl) (by kernel_rfl) (by kernel_rfl) (fun _ _ _ h => h) (.inl ⟨by kernel_rfl, ?_⟩) hS17 ?_
      rotate_left
      · intro w' hw'; go_simp; try with_reducible rfl
      try simp only [Act.put, List.setIfInBounds_toArray, List.set_cons_zero, List.set_cons_succ]
      refine wpAnyH_done (by kernel_rfl) ?_ _
      go_wp2_with fail
      go_meet
      exact ⟨W0.heap.size, _, rfl, rfl, rfl, rg, rd, bW0.trans (bR.mono bW0.size)⟩
  case rest =>
    clear rd bW
    obtain ⟨g, W, rfl, rfl, rfl, rg, rd, bW⟩ := hcut
    go_wp2_with fail
    with_reducible refine (toStack_any a len cap zs W (hI.out.below bW (Nat.le_refl _)) hlen).mono ?_
    rintro e w3 ⟨rfl, hB, sk, _⟩
    replace rd := rd.below hB rd.lt
    replace rg := rg.below hB rg.lt
    replace bW := bW.trans (hB.mono bW.size)
    clear hB
    have e0 := rd.cell 0
    have e1 := rd.cell 1
    have e2 := rd.cell 2
    have e3 := rd.cell 3
    have e4 := rd.cell 4
    have e5 := rd.cell 5
    have e6 := rd.cell 6
    have e7 := rd.cell 7
    simp only [List.getElem?_cons_zero, List.getElem?_cons_succ] at e0 e1 e2 e3 e4 e5 e6 e7
    go_wp2_with fail
    with_reducible refine (toDigits_any d0 d1 d2 d3 d4 d5 d6 d7 w3).mono ?_
    rintro e w4 ⟨rfl, hB⟩
    replace rd := rd.below hB rd.lt
    replace rg := rg.below hB rg.lt
    replace sk := sk.below hB sk.1
    replace bW := bW.trans (hB.mono bW.size)
    clear hB
    clear e0 e1 e2 e3 e4 e5 e6 e7
    go_wp2_with fail
    with_reducible refine (implPhotoOf_any _ len len zs d0 d1 d2 d3 d4 d5 d6 d7 w4 sk hL.out.symm HO.out).mono ?_
    rintro e w5 ⟨rfl, hB⟩
    replace rd := rd.below hB rd.lt
    replace rg := rg.below hB rg.lt
    replace sk := sk.below hB sk.1
    replace bW := bW.trans (hB.mono bW.size)
    clear hB
    have rz := (Row.new w5 31 [.int .u64 0, .int .u64 0, .int .u64 0, .int .u64 0, .int .u64 0, .int .u64 0, .int .u64 0, .int .u64 0, .int .u64 0, .int .u64 0, .int .u64 0, .int .u64 0, .int .u64 0, .int .u64 0, .int .u64 0, .int .u64 0]).zeros
    have hA : Below w5.heap.size w5 (w5.alloc (.cells #[.int .u64 0, .int .u64 0, .int .u64 0, .int .u64 0, .int .u64 0, .int .u64 0, .int .u64 0, .int .u64 0, .int .u64 0, .int .u64 0, .int .u64 0, .int .u64 0, .int .u64 0, .int .u64 0, .int .u64 0, .int .u64 0] 31)) := (Below.refl _ _).alloc (Nat.le_refl _) _
    have hA2 := below_setCells (phL (dphR zs [d0, d1, d2, d3, d4, d5, d6, d7]).1) 0 _ hA (g := w5.heap.size) (Nat.le_refl _)
    have T1 := rz.there 16 rfl
    replace rz := rz.setCells (ys := (phL (dphR zs [d0, d1, d2, d3, d4, d5, d6, d7]).1)) rfl
    replace rg := rg.below hA2 rg.lt
    replace sk := sk.below hA2 sk.1
    replace bW := bW.trans (hA2.mono bW.size)
    have HRZ := hid rz
    have HRG := hid rg
    have HSK := hid sk
    have HBW := hid bW
    clear rd hA hA2 sk bW
    go_wp2_with (first | ((with_reducible refine wpList_store_mid rfl 31 _ _ rfl w5.heap.size 0 (phL (dphR zs [d0, d1, d2, d3, d4, d5, d6, d7]).1).toArray ?_ ?_ ?_ ?_ (all_oneCell_toArray (phL_one _)) ?_); rfl; rfl; (rw [sz16]; exact T1); (rw [sz16]; exact hi)) | ((with_reducible refine wpList_load_row rfl 31 _ rfl w5.heap.size ?_ 31 (phL (dphR zs [d0, d1, d2, d3, d4, d5, d6, d7]).1).toArray (0, 0) _ ?_ Try.underlying31 ?_ ?_ ?_); rfl; exact HRZ.out; rfl; (rw [sz16]; exact hi)) | ((with_reducible refine wpList_load_row rfl 31 _ rfl g ?_ 31 (phL (dphR zs [d0, d1, d2, d3, d4, d5, d6, d7]).1).toArray (0, 0) _ ?_ Try.underlying31 ?_ ?_ ?_); rfl; exact HRG.out; rfl; (rw [sz16]; exact hi)))
    with_reducible refine (eqPhoto_same (dphR zs [d0, d1, d2, d3, d4, d5, d6, d7]).1 _).mono ?_
    rintro e w6 ⟨rfl, hB⟩
    have bW := HBW.out.trans (hB.mono HBW.out.size)
    have sk := HSK.out.below hB HSK.out.1
    clear HRZ HRG HSK HBW rz rg T1 hB
    go_wp2_with fail
    with_reducible refine (toStack_any a len cap zs w6 (hI.out.below bW (Nat.le_refl _)) hlen).mono ?_
    rintro e w7 ⟨rfl, hB, sk2, _⟩
    replace sk := sk.below hB sk.1
    replace bW := bW.trans (hB.mono bW.size)
    clear hB
    go_wp2_with fail
    with_reducible refine (eqStack_same _ _ len len len zs w7 sk sk2 hL.out.symm).mono ?_
    rintro e w8 ⟨rfl, hB⟩
    go_wp2_with fail
    go_ret
    exact ⟨rfl, bW.trans (hB.mono bW.size)⟩
end Go.Proofs.Ytgfdfnlbkljgeaa
