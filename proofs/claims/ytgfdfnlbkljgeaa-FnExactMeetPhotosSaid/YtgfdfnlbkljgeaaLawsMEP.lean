/- The walk of the law MeetPhotos. -/
import Derived.Test.YtgfdfnlbkljgeaaJoinI
import Derived.Test.YtgfdfnlbkljgeaaPhE
import Derived.Test.YtgfdfnlbkljgeaaPhO
import Derived.Deep.DeepCutAuto
namespace Go.Proofs.Ytgfdfnlbkljgeaa
open Go.RowKit
set_option maxRecDepth 100000 in
set_option maxHeartbeats 2000000 in
theorem law_FnExactMeetPhotos (a : Option Addr) (len cap : Nat) (zs : List Int) (ps1 : List (Int × Int)) (ps2 : List (Int × Int)) (w : World) (h : InB w a len zs) (hp1 : Ph ps1) (hp2 : Ph ps2) :
    Calls Try.prog 11 #[.slice a len cap, .agg (phL ps1).toArray, .agg (phL ps2).toArray] w fun e w' => e = .returned (.bool true) ∧ Below w.heap.size w w' := by
  have bW : Below w.heap.size w ((w.alloc (.cells (phL ps1).toArray 25)).alloc (.cells (phL ps2).toArray 25)) := ((Below.refl _ _).alloc (by first | exact Nat.le_refl _ | (simp; done) | (simp; omega)) _).alloc (by first | exact Nat.le_refl _ | (simp; done) | (simp; omega)) _
  by_cases hl : 1048576 < len
  · go_enter Try.func11, Try.ntmps11
    go_wp2
    go_ret
    exact ⟨rfl, bW⟩
  have hlen : len ≤ 1048576 := by omega
  have hI := hid h
  have hL := hid h.1
  have HP1 := hid hp1
  clear hp1
  have HP2 := hid hp2
  clear hp2
  have hi := Try.infoPhoto
  have hj := Try.infoPhoto'
  have hb1 : ((meetR zs ps1 ps2).2 != (meetR zs ps1 ps2).2) = false := by simp
  have rd1 := (Row.new w 25 (phL ps1)).alloc (.cells (phL ps2).toArray 25)
  have rd2 := Row.new (w.alloc (.cells (phL ps1).toArray 25)) 25 (phL ps2)
  simp only [World.size_alloc] at rd2
  clear h
  go_enter Try.func11, Try.ntmps11
  go_upto_region 3 with fail
  go_cut [7, 8] (fun s7 s8 wx => ∃ (g : Nat) (W : World), W = wx ∧ s7 = .pointer (some ⟨g, 0, none⟩) ∧ s8 = .int .i64 (meetR zs ps1 ps2).2 ∧ Row W g 31 (phL (meetR zs ps1 ps2).1) ∧ Row W (w.heap.size) 25 (phL ps1) ∧ Row W ((w.heap.size + 1)) 25 (phL ps2) ∧ Below w.heap.size w W)
  case first =>
    refine wp_region_held (S := fun W' : World => Row W' w.heap.size 25 (phL ps1) ∧ Row W' (w.heap.size + 1) 25 (phL ps2)) (by kernel_rfl) ?_
    change wpAnyH _ _ _ _ _ _ _ _ (World.drew _)
    obtain ⟨W0, hW0⟩ : ∃ X, X = World.drew (((w.alloc (.cells (phL ps1).toArray 25)).alloc (.cells (phL ps2).toArray 25))) := ⟨_, rfl⟩
    have hD0 : Below (((w.alloc (.cells (phL ps1).toArray 25)).alloc (.cells (phL ps2).toArray 25))).heap.size (((w.alloc (.cells (phL ps1).toArray 25)).alloc (.cells (phL ps2).toArray 25))) W0 := by rw [hW0]; exact (Below.refl _ _).drew
    replace rd1 := rd1.below hD0 rd1.lt
    replace rd2 := rd2.below hD0 rd2.lt
    have bW0 := bW.trans (hD0.mono bW.size)
    have bR : Below W0.heap.size W0 W0 := Below.refl _ _
    rw [← hW0]
    clear hW0 hD0
    have l_rd1 := rd1.lt
    have l_rd2 := rd2.lt
    have hS0 : (fun W' : World => Row W' w.heap.size 25 (phL ps1) ∧ Row W' (w.heap.size + 1) 25 (phL ps2)) W0 := ⟨rd1, rd2⟩
    refine wpAnyH_takeD (some 16) (i := 0) (v := ?_) rfl rfl (by kernel_rfl) (by kernel_rfl) (by kernel_rfl) (fun _ _ _ h => h) (.inl ⟨by kernel_rfl, ?_⟩) hS0 ?_
    rotate_left
    · intro w' hw'; go_simp; try with_reducible rfl
    try simp only [Act.put, List.setIfInBounds_toArray, List.set_cons_zero, List.set_cons_succ]
    refine wpAnyH_takeD (some 18) (i := 2) (v := .agg (phL ps1).toArray) rfl rfl (by kernel_rfl) (by kernel_rfl) (by kernel_rfl) (fun _ _ _ h => h) (yieldsIf_load_mid (by kernel_rfl) 25 _ rfl w.heap.size 0 rfl (phL ps1) _ (fun w' hw' => Row.range hw'.1) Try.underlying25 rfl (by rw [phL_len]; exact hj)) hS0 ?_
    try simp only [Act.put, List.setIfInBounds_toArray, List.set_cons_zero, List.set_cons_succ]
    refine wpAnyH_takeD (some 20) (i := 4) (v := .agg (phL ps2).toArray) rfl rfl (by kernel_rfl) (by kernel_rfl) (by kernel_rfl) (fun _ _ _ h => h) (yieldsIf_load_mid (by kernel_rfl) 25 _ rfl (w.heap.size + 1) 0 rfl (phL ps2) _ (fun w' hw' => Row.range hw'.2) Try.underlying25 rfl (by rw [phL_len]; exact hj)) hS0 ?_
    try simp only [Act.put, List.setIfInBounds_toArray, List.set_cons_zero, List.set_cons_succ]
    refine wpAnyH_all (rs := [1, 10]) (by kernel_rfl) (by simp) ?_
    intro i hi; simp only [List.mem_cons, List.not_mem_nil, or_false] at hi
    rcases hi with rfl | rfl
    · refine wpOp_step rfl (fun K hK => ?_)
      go_simp
      with_reducible refine (toStack_any a len cap zs W0 (hI.out.below (bW0.trans (bR.mono bW0.size)) (Nat.le_refl _)) hlen).mono ?_
      rintro e v18 ⟨rfl, hB18, sk, _⟩
      replace rd1 := rd1.below hB18 rd1.lt
      replace rd2 := rd2.below hB18 rd2.lt
      replace bR := bR.trans (hB18.mono bR.size)
      have hS18 : (fun W' : World => Row W' w.heap.size 25 (phL ps1) ∧ Row W' (w.heap.size + 1) 25 (phL ps2)) v18 := ⟨rd1, rd2⟩
      refine hK _ _ ⟨hS18, ?_⟩
      try simp only [Act.put, List.setIfInBounds_toArray, List.set_cons_zero, List.set_cons_succ]
      clear hB18 hK K hS0
      refine wpAnyH_all (rs := [3, 10]) (by kernel_rfl) (by simp) ?_
      intro i hi; simp only [List.mem_cons, List.not_mem_nil, or_false] at hi
      rcases hi with rfl | rfl
      · refine wpOp_step rfl (fun K hK => ?_)
        go_simp
        with_reducible refine (toPhoto_any ps1 v18).mono ?_
        rintro e v19 ⟨rfl, hB19⟩
        replace rd1 := rd1.below hB19 rd1.lt
        replace rd2 := rd2.below hB19 rd2.lt
        replace sk := sk.below hB19 sk.1
        replace bR := bR.trans (hB19.mono bR.size)
        have hS19 : (fun W' : World => Row W' w.heap.size 25 (phL ps1) ∧ Row W' (w.heap.size + 1) 25 (phL ps2)) v19 := ⟨rd1, rd2⟩
        refine hK _ _ ⟨hS19, ?_⟩
        try simp only [Act.put, List.setIfInBounds_toArray, List.set_cons_zero, List.set_cons_succ]
        clear hB19 hK K hS18
        refine wpAnyH_all (rs := [5, 10]) (by kernel_rfl) (by simp) ?_
        intro i hi; simp only [List.mem_cons, List.not_mem_nil, or_false] at hi
        rcases hi with rfl | rfl
        · refine wpOp_step rfl (fun K hK => ?_)
          go_simp
          with_reducible refine (toPhoto_any ps2 v19).mono ?_
          rintro e v20 ⟨rfl, hB20⟩
          replace rd1 := rd1.below hB20 rd1.lt
          replace rd2 := rd2.below hB20 rd2.lt
          replace sk := sk.below hB20 sk.1
          replace bR := bR.trans (hB20.mono bR.size)
          have hS20 : (fun W' : World => Row W' w.heap.size 25 (phL ps1) ∧ Row W' (w.heap.size + 1) 25 (phL ps2)) v20 := ⟨rd1, rd2⟩
          refine hK _ _ ⟨hS20, ?_⟩
          try simp only [Act.put, List.setIfInBounds_toArray, List.set_cons_zero, List.set_cons_succ]
          clear hB20 hK K hS19
          refine wpAnyH_all (rs := [6, 10]) (by kernel_rfl) (by simp) ?_
          intro i hi; simp only [List.mem_cons, List.not_mem_nil, or_false] at hi
          rcases hi with rfl | rfl
          · refine wpOp_step rfl (fun K hK => ?_)
            go_simp
            with_reducible refine (specMeetPhotos_any _ len len zs ps1 ps2 v20 sk hL.out.symm).mono ?_
            rintro e v21 ⟨rfl, hB21⟩
            replace rd1 := rd1.below hB21 rd1.lt
            replace rd2 := rd2.below hB21 rd2.lt
            replace sk := sk.below hB21 sk.1
            replace bR := bR.trans (hB21.mono bR.size)
            have hS21 : (fun W' : World => Row W' w.heap.size 25 (phL ps1) ∧ Row W' (w.heap.size + 1) 25 (phL ps2)) v21 := ⟨rd1, rd2⟩
            refine hK _ _ ⟨hS21, ?_⟩
            try simp only [Act.put, List.setIfInBounds_toArray, List.set_cons_zero, List.set_cons_succ]
            clear hB21 hK K hS20
            refine wpAnyH_takeD (some 15) (i := 7) (v := ?_) rfl rfl (by kernel_rfl) (by kernel_rfl) (by kernel_rfl) (fun _ _ _ h => h) (.inl ⟨by kernel_rfl, ?_⟩) hS21 ?_
            rotate_left
            · intro w' hw'; go_simp; try with_reducible rfl
            try simp only [Act.put, List.setIfInBounds_toArray, List.set_cons_zero, List.set_cons_succ]
            refine wpAnyH_takeD (some 23) (i := 8) (v := ?_) rfl rfl (by kernel_rfl) (by kernel_rfl) (by kernel_rfl) (fun _ _ _ h => h) (.inl ⟨by kernel_rfl, ?_⟩) hS21 ?_
            rotate_left
            · intro w' hw'; go_simp; try with_reducible rfl
            try simp only [Act.put, List.setIfInBounds_toArray, List.set_cons_zero, List.set_cons_succ]
            refine wpAnyH_takeD (some 24) (i := 9) (v := ?_) rfl rfl (by kernel_rfl) (by kernel_rfl) (by kernel_rfl) (fun _ _ _ h => h) (.inl ⟨by kernel_rfl, ?_⟩) hS21 ?_
            rotate_left
            · intro w' hw'; go_simp; try with_reducible rfl
            try simp only [Act.put, List.setIfInBounds_toArray, List.set_cons_zero, List.set_cons_succ]
            refine wpAnyH_all (rs := [10]) (by kernel_rfl) (by simp) ?_
            intro i hi; simp only [List.mem_cons, List.not_mem_nil, or_false] at hi
            subst hi
            refine wpOp_step rfl (fun K hK => ?_)
            go_simp
            have rg := (Row.new v21 31 [.int .u64 0, .int .u64 0, .int .u64 0, .int .u64 0, .int .u64 0, .int .u64 0, .int .u64 0, .int .u64 0, .int .u64 0, .int .u64 0, .int .u64 0, .int .u64 0, .int .u64 0, .int .u64 0, .int .u64 0, .int .u64 0]).zeros
            have hA : Below v21.heap.size v21 (v21.alloc (.cells #[.int .u64 0, .int .u64 0, .int .u64 0, .int .u64 0, .int .u64 0, .int .u64 0, .int .u64 0, .int .u64 0, .int .u64 0, .int .u64 0, .int .u64 0, .int .u64 0, .int .u64 0, .int .u64 0, .int .u64 0, .int .u64 0] 31)) := (Below.refl _ _).alloc (Nat.le_refl _) _
            replace rd1 := rd1.below hA rd1.lt
            replace rd2 := rd2.below hA rd2.lt
            replace sk := sk.below hA sk.1
            have lg := bR.size
            replace bR := bR.trans (hA.mono bR.size)
            have hS22 : (fun W' : World => Row W' w.heap.size 25 (phL ps1) ∧ Row W' (w.heap.size + 1) 25 (phL ps2)) (v21.alloc (.cells #[.int .u64 0, .int .u64 0, .int .u64 0, .int .u64 0, .int .u64 0, .int .u64 0, .int .u64 0, .int .u64 0, .int .u64 0, .int .u64 0, .int .u64 0, .int .u64 0, .int .u64 0, .int .u64 0, .int .u64 0, .int .u64 0] 31)) := ⟨rd1, rd2⟩
            refine hK _ _ ⟨hS22, ?_⟩
            try simp only [Act.put, List.setIfInBounds_toArray, List.set_cons_zero, List.set_cons_succ]
            obtain ⟨X22, hX22⟩ : ∃ X, X = v21.alloc (.cells #[.int .u64 0, .int .u64 0, .int .u64 0, .int .u64 0, .int .u64 0, .int .u64 0, .int .u64 0, .int .u64 0, .int .u64 0, .int .u64 0, .int .u64 0, .int .u64 0, .int .u64 0, .int .u64 0, .int .u64 0, .int .u64 0] 31) := ⟨_, rfl⟩
            rw [← hX22] at rd1 rd2 sk rg bR hS22 ⊢
            clear hX22 hA hK K hS21
            refine wpAnyH_all (rs := [11]) (by kernel_rfl) (by simp) ?_
            intro i hi; simp only [List.mem_cons, List.not_mem_nil, or_false] at hi
            subst hi
            refine wpOp_step rfl (fun K hK => ?_)
            rw [if_pos (by kernel_rfl)]
            refine wp_store_mid 31 (.tmp 7) (.tmp 23) rfl (v21.heap.size) 0 (phL (meetR zs ps1 ps2).1).toArray rfl rfl (by rw [sz16]; exact rg.there 16 rfl) (by rw [sz16]; exact hi) (all_oneCell_toArray (phL_one _)) ?_
            have hA : Below (v21.heap.size) X22 (X22.setCells (v21.heap.size) 0 (phL (meetR zs ps1 ps2).1)) := below_setCells (phL (meetR zs ps1 ps2).1) 0 _ (Below.refl _ _) (Nat.le_refl _)
            replace rd1 := rd1.below hA (Nat.lt_of_lt_of_le l_rd1 lg)
            replace rd2 := rd2.below hA (Nat.lt_of_lt_of_le l_rd2 lg)
            replace rg := rg.setCells (ys := (phL (meetR zs ps1 ps2).1)) rfl
            replace bR := below_setCells (phL (meetR zs ps1 ps2).1) 0 _ bR (g := v21.heap.size) lg
            have hS23 : (fun W' : World => Row W' w.heap.size 25 (phL ps1) ∧ Row W' (w.heap.size + 1) 25 (phL ps2)) (X22.setCells (v21.heap.size) 0 (phL (meetR zs ps1 ps2).1)) := ⟨rd1, rd2⟩
            refine hK _ _ ⟨hS23, ?_⟩
            try simp only [Act.put, List.setIfInBounds_toArray, List.set_cons_zero, List.set_cons_succ]
            obtain ⟨X23, hX23⟩ : ∃ X, X = X22.setCells (v21.heap.size) 0 (phL (meetR zs ps1 ps2).1) := ⟨_, rfl⟩
            rw [← hX23] at rd1 rd2 rg bR hS23 ⊢
            clear hX23 hA hK K hS22
            refine wpAnyH_takeD (some 8) (i := 12) (v := ?_) rfl rfl (by kernel_rfl) (by kernel_rfl) (by kernel_rfl) (fun _ _ _ h => h) (.inl ⟨by kernel_rfl, ?_⟩) hS23 ?_
            rotate_left
            · intro w' hw'; go_simp; try with_reducible rfl
            try simp only [Act.put, List.setIfInBounds_toArray, List.set_cons_zero, List.set_cons_succ]
            refine wpAnyH_done (by kernel_rfl) ?_ _
            go_wp2_with fail
            go_meet
            exact ⟨v21.heap.size, _, rfl, rfl, rfl, rg, rd1, rd2, bW0.trans (bR.mono bW0.size)⟩
          · refine wpOp_step rfl (fun K hK => ?_)
            go_simp
            have rg := (Row.new v20 31 [.int .u64 0, .int .u64 0, .int .u64 0, .int .u64 0, .int .u64 0, .int .u64 0, .int .u64 0, .int .u64 0, .int .u64 0, .int .u64 0, .int .u64 0, .int .u64 0, .int .u64 0, .int .u64 0, .int .u64 0, .int .u64 0]).zeros
            have hA : Below v20.heap.size v20 (v20.alloc (.cells #[.int .u64 0, .int .u64 0, .int .u64 0, .int .u64 0, .int .u64 0, .int .u64 0, .int .u64 0, .int .u64 0, .int .u64 0, .int .u64 0, .int .u64 0, .int .u64 0, .int .u64 0, .int .u64 0, .int .u64 0, .int .u64 0] 31)) := (Below.refl _ _).alloc (Nat.le_refl _) _
            replace rd1 := rd1.below hA rd1.lt
            replace rd2 := rd2.below hA rd2.lt
            replace sk := sk.below hA sk.1
            have lg := bR.size
            replace bR := bR.trans (hA.mono bR.size)
            have hS24 : (fun W' : World => Row W' w.heap.size 25 (phL ps1) ∧ Row W' (w.heap.size + 1) 25 (phL ps2)) (v20.alloc (.cells #[.int .u64 0, .int .u64 0, .int .u64 0, .int .u64 0, .int .u64 0, .int .u64 0, .int .u64 0, .int .u64 0, .int .u64 0, .int .u64 0, .int .u64 0, .int .u64 0, .int .u64 0, .int .u64 0, .int .u64 0, .int .u64 0] 31)) := ⟨rd1, rd2⟩
            refine hK _ _ ⟨hS24, ?_⟩
            try simp only [Act.put, List.setIfInBounds_toArray, List.set_cons_zero, List.set_cons_succ]
            obtain ⟨X24, hX24⟩ : ∃ X, X = v20.alloc (.cells #[.int .u64 0, .int .u64 0, .int .u64 0, .int .u64 0, .int .u64 0, .int .u64 0, .int .u64 0, .int .u64 0, .int .u64 0, .int .u64 0, .int .u64 0, .int .u64 0, .int .u64 0, .int .u64 0, .int .u64 0, .int .u64 0] 31) := ⟨_, rfl⟩
            rw [← hX24] at rd1 rd2 sk rg bR hS24 ⊢
            clear hX24 hA hK K hS20
            refine wpAnyH_all (rs := [6]) (by kernel_rfl) (by simp) ?_
            intro i hi; simp only [List.mem_cons, List.not_mem_nil, or_false] at hi
            subst hi
            refine wpOp_step rfl (fun K hK => ?_)
            go_simp
            with_reducible refine (specMeetPhotos_any _ len len zs ps1 ps2 X24 sk hL.out.symm).mono ?_
            rintro e v25 ⟨rfl, hB25⟩
            replace rd1 := rd1.below hB25 rd1.lt
            replace rd2 := rd2.below hB25 rd2.lt
            replace sk := sk.below hB25 sk.1
            replace rg := rg.below hB25 rg.lt
            replace bR := bR.trans (hB25.mono bR.size)
            have hS25 : (fun W' : World => Row W' w.heap.size 25 (phL ps1) ∧ Row W' (w.heap.size + 1) 25 (phL ps2)) v25 := ⟨rd1, rd2⟩
            refine hK _ _ ⟨hS25, ?_⟩
            try simp only [Act.put, List.setIfInBounds_toArray, List.set_cons_zero, List.set_cons_succ]
            clear hB25 hK K hS24
            refine wpAnyH_takeD (some 15) (i := 7) (v := ?_) rfl rfl (by kernel_rfl) (by kernel_rfl) (by kernel_rfl) (fun _ _ _ h => h) (.inl ⟨by kernel_rfl, ?_⟩) hS25 ?_
            rotate_left
            · intro w' hw'; go_simp; try with_reducible rfl
            try simp only [Act.put, List.setIfInBounds_toArray, List.set_cons_zero, List.set_cons_succ]
            refine wpAnyH_takeD (some 23) (i := 8) (v := ?_) rfl rfl (by kernel_rfl) (by kernel_rfl) (by kernel_rfl) (fun _ _ _ h => h) (.inl ⟨by kernel_rfl, ?_⟩) hS25 ?_
            rotate_left
            · intro w' hw'; go_simp; try with_reducible rfl
            try simp only [Act.put, List.setIfInBounds_toArray, List.set_cons_zero, List.set_cons_succ]
            refine wpAnyH_takeD (some 24) (i := 9) (v := ?_) rfl rfl (by kernel_rfl) (by kernel_rfl) (by kernel_rfl) (fun _ _ _ h => h) (.inl ⟨by kernel_rfl, ?_⟩) hS25 ?_
            rotate_left
            · intro w' hw'; go_simp; try with_reducible rfl
            try simp only [Act.put, List.setIfInBounds_toArray, List.set_cons_zero, List.set_cons_succ]
            refine wpAnyH_all (rs := [11]) (by kernel_rfl) (by simp) ?_
            intro i hi; simp only [List.mem_cons, List.not_mem_nil, or_false] at hi
            subst hi
            refine wpOp_step rfl (fun K hK => ?_)
            rw [if_pos (by kernel_rfl)]
            refine wp_store_mid 31 (.tmp 7) (.tmp 23) rfl (v20.heap.size) 0 (phL (meetR zs ps1 ps2).1).toArray rfl rfl (by rw [sz16]; exact rg.there 16 rfl) (by rw [sz16]; exact hi) (all_oneCell_toArray (phL_one _)) ?_
            have hA : Below (v20.heap.size) v25 (v25.setCells (v20.heap.size) 0 (phL (meetR zs ps1 ps2).1)) := below_setCells (phL (meetR zs ps1 ps2).1) 0 _ (Below.refl _ _) (Nat.le_refl _)
            replace rd1 := rd1.below hA (Nat.lt_of_lt_of_le l_rd1 lg)
            replace rd2 := rd2.below hA (Nat.lt_of_lt_of_le l_rd2 lg)
            replace rg := rg.setCells (ys := (phL (meetR zs ps1 ps2).1)) rfl
            replace bR := below_setCells (phL (meetR zs ps1 ps2).1) 0 _ bR (g := v20.heap.size) lg
            have hS26 : (fun W' : World => Row W' w.heap.size 25 (phL ps1) ∧ Row W' (w.heap.size + 1) 25 (phL ps2)) (v25.setCells (v20.heap.size) 0 (phL (meetR zs ps1 ps2).1)) := ⟨rd1, rd2⟩
            refine hK _ _ ⟨hS26, ?_⟩
            try simp only [Act.put, List.setIfInBounds_toArray, List.set_cons_zero, List.set_cons_succ]
            obtain ⟨X26, hX26⟩ : ∃ X, X = v25.setCells (v20.heap.size) 0 (phL (meetR zs ps1 ps2).1) := ⟨_, rfl⟩
            rw [← hX26] at rd1 rd2 rg bR hS26 ⊢
            clear hX26 hA hK K hS25
            refine wpAnyH_takeD (some 8) (i := 12) (v := ?_) rfl rfl (by kernel_rfl) (by kernel_rfl) (by kernel_rfl) (fun _ _ _ h => h) (.inl ⟨by kernel_rfl, ?_⟩) hS26 ?_
            rotate_left
            · intro w' hw'; go_simp; try with_reducible rfl
            try simp only [Act.put, List.setIfInBounds_toArray, List.set_cons_zero, List.set_cons_succ]
            refine wpAnyH_done (by kernel_rfl) ?_ _
            go_wp2_with fail
            go_meet
            exact ⟨v20.heap.size, _, rfl, rfl, rfl, rg, rd1, rd2, bW0.trans (bR.mono bW0.size)⟩
        · refine wpOp_step rfl (fun K hK => ?_)
          go_simp
          have rg := (Row.new v19 31 [.int .u64 0, .int .u64 0, .int .u64 0, .int .u64 0, .int .u64 0, .int .u64 0, .int .u64 0, .int .u64 0, .int .u64 0, .int .u64 0, .int .u64 0, .int .u64 0, .int .u64 0, .int .u64 0, .int .u64 0, .int .u64 0]).zeros
          have hA : Below v19.heap.size v19 (v19.alloc (.cells #[.int .u64 0, .int .u64 0, .int .u64 0, .int .u64 0, .int .u64 0, .int .u64 0, .int .u64 0, .int .u64 0, .int .u64 0, .int .u64 0, .int .u64 0, .int .u64 0, .int .u64 0, .int .u64 0, .int .u64 0, .int .u64 0] 31)) := (Below.refl _ _).alloc (Nat.le_refl _) _
          replace rd1 := rd1.below hA rd1.lt
          replace rd2 := rd2.below hA rd2.lt
          replace sk := sk.below hA sk.1
          have lg := bR.size
          replace bR := bR.trans (hA.mono bR.size)
          have hS27 : (fun W' : World => Row W' w.heap.size 25 (phL ps1) ∧ Row W' (w.heap.size + 1) 25 (phL ps2)) (v19.alloc (.cells #[.int .u64 0, .int .u64 0, .int .u64 0, .int .u64 0, .int .u64 0, .int .u64 0, .int .u64 0, .int .u64 0, .int .u64 0, .int .u64 0, .int .u64 0, .int .u64 0, .int .u64 0, .int .u64 0, .int .u64 0, .int .u64 0] 31)) := ⟨rd1, rd2⟩
          refine hK _ _ ⟨hS27, ?_⟩
          try simp only [Act.put, List.setIfInBounds_toArray, List.set_cons_zero, List.set_cons_succ]
          obtain ⟨X27, hX27⟩ : ∃ X, X = v19.alloc (.cells #[.int .u64 0, .int .u64 0, .int .u64 0, .int .u64 0, .int .u64 0, .int .u64 0, .int .u64 0, .int .u64 0, .int .u64 0, .int .u64 0, .int .u64 0, .int .u64 0, .int .u64 0, .int .u64 0, .int .u64 0, .int .u64 0] 31) := ⟨_, rfl⟩
          rw [← hX27] at rd1 rd2 sk rg bR hS27 ⊢
          clear hX27 hA hK K hS19
          refine wpAnyH_all (rs := [5]) (by kernel_rfl) (by simp) ?_
          intro i hi; simp only [List.mem_cons, List.not_mem_nil, or_false] at hi
          subst hi
          refine wpOp_step rfl (fun K hK => ?_)
          go_simp
          with_reducible refine (toPhoto_any ps2 X27).mono ?_
          rintro e v28 ⟨rfl, hB28⟩
          replace rd1 := rd1.below hB28 rd1.lt
          replace rd2 := rd2.below hB28 rd2.lt
          replace sk := sk.below hB28 sk.1
          replace rg := rg.below hB28 rg.lt
          replace bR := bR.trans (hB28.mono bR.size)
          have hS28 : (fun W' : World => Row W' w.heap.size 25 (phL ps1) ∧ Row W' (w.heap.size + 1) 25 (phL ps2)) v28 := ⟨rd1, rd2⟩
          refine hK _ _ ⟨hS28, ?_⟩
          try simp only [Act.put, List.setIfInBounds_toArray, List.set_cons_zero, List.set_cons_succ]
          clear hB28 hK K hS27
          refine wpAnyH_all (rs := [6]) (by kernel_rfl) (by simp) ?_
          intro i hi; simp only [List.mem_cons, List.not_mem_nil, or_false] at hi
          subst hi
          refine wpOp_step rfl (fun K hK => ?_)
          go_simp
          with_reducible refine (specMeetPhotos_any _ len len zs ps1 ps2 v28 sk hL.out.symm).mono ?_
          rintro e v29 ⟨rfl, hB29⟩
          replace rd1 := rd1.below hB29 rd1.lt
          replace rd2 := rd2.below hB29 rd2.lt
          replace sk := sk.below hB29 sk.1
          replace rg := rg.below hB29 rg.lt
          replace bR := bR.trans (hB29.mono bR.size)
          have hS29 : (fun W' : World => Row W' w.heap.size 25 (phL ps1) ∧ Row W' (w.heap.size + 1) 25 (phL ps2)) v29 := ⟨rd1, rd2⟩
          refine hK _ _ ⟨hS29, ?_⟩
          try simp only [Act.put, List.setIfInBounds_toArray, List.set_cons_zero, List.set_cons_succ]
          clear hB29 hK K hS28
          refine wpAnyH_takeD (some 15) (i := 7) (v := ?_) rfl rfl (by kernel_rfl) (by kernel_rfl) (by kernel_rfl) (fun _ _ _ h => h) (.inl ⟨by kernel_rfl, ?_⟩) hS29 ?_
          rotate_left
          · intro w' hw'; go_simp; try with_reducible rfl
          try simp only [Act.put, List.setIfInBounds_toArray, List.set_cons_zero, List.set_cons_succ]
          refine wpAnyH_takeD (some 23) (i := 8) (v := ?_) rfl rfl (by kernel_rfl) (by kernel_rfl) (by kernel_rfl) (fun _ _ _ h => h) (.inl ⟨by kernel_rfl, ?_⟩) hS29 ?_
          rotate_left
          · intro w' hw'; go_simp; try with_reducible rfl
          try simp only [Act.put, List.setIfInBounds_toArray, List.set_cons_zero, List.set_cons_succ]
          refine wpAnyH_takeD (some 24) (i := 9) (v := ?_) rfl rfl (by kernel_rfl) (by kernel_rfl) (by kernel_rfl) (fun _ _ _ h => h) (.inl ⟨by kernel_rfl, ?_⟩) hS29 ?_
          rotate_left
          · intro w' hw'; go_simp; try with_reducible rfl
          try simp only [Act.put, List.setIfInBounds_toArray, List.set_cons_zero, List.set_cons_succ]
          refine wpAnyH_all (rs := [11]) (by kernel_rfl) (by simp) ?_
          intro i hi; simp only [List.mem_cons, List.not_mem_nil, or_false] at hi
          subst hi
          refine wpOp_step rfl (fun K hK => ?_)
          rw [if_pos (by kernel_rfl)]
          refine wp_store_mid 31 (.tmp 7) (.tmp 23) rfl (v19.heap.size) 0 (phL (meetR zs ps1 ps2).1).toArray rfl rfl (by rw [sz16]; exact rg.there 16 rfl) (by rw [sz16]; exact hi) (all_oneCell_toArray (phL_one _)) ?_
          have hA : Below (v19.heap.size) v29 (v29.setCells (v19.heap.size) 0 (phL (meetR zs ps1 ps2).1)) := below_setCells (phL (meetR zs ps1 ps2).1) 0 _ (Below.refl _ _) (Nat.le_refl _)
          replace rd1 := rd1.below hA (Nat.lt_of_lt_of_le l_rd1 lg)
          replace rd2 := rd2.below hA (Nat.lt_of_lt_of_le l_rd2 lg)
          replace rg := rg.setCells (ys := (phL (meetR zs ps1 ps2).1)) rfl
          replace bR := below_setCells (phL (meetR zs ps1 ps2).1) 0 _ bR (g := v19.heap.size) lg
          have hS30 : (fun W' : World => Row W' w.heap.size 25 (phL ps1) ∧ Row W' (w.heap.size + 1) 25 (phL ps2)) (v29.setCells (v19.heap.size) 0 (phL (meetR zs ps1 ps2).1)) := ⟨rd1, rd2⟩
          refine hK _ _ ⟨hS30, ?_⟩
          try simp only [Act.put, List.setIfInBounds_toArray, List.set_cons_zero, List.set_cons_succ]
          obtain ⟨X30, hX30⟩ : ∃ X, X = v29.setCells (v19.heap.size) 0 (phL (meetR zs ps1 ps2).1) := ⟨_, rfl⟩
          rw [← hX30] at rd1 rd2 rg bR hS30 ⊢
          clear hX30 hA hK K hS29
          refine wpAnyH_takeD (some 8) (i := 12) (v := ?_) rfl rfl (by kernel_rfl) (by kernel_rfl) (by kernel_rfl) (fun _ _ _ h => h) (.inl ⟨by kernel_rfl, ?_⟩) hS30 ?_
          rotate_left
          · intro w' hw'; go_simp; try with_reducible rfl
          try simp only [Act.put, List.setIfInBounds_toArray, List.set_cons_zero, List.set_cons_succ]
          refine wpAnyH_done (by kernel_rfl) ?_ _
          go_wp2_with fail
          go_meet
          exact ⟨v19.heap.size, _, rfl, rfl, rfl, rg, rd1, rd2, bW0.trans (bR.mono bW0.size)⟩
      · refine wpOp_step rfl (fun K hK => ?_)
        go_simp
        have rg := (Row.new v18 31 [.int .u64 0, .int .u64 0, .int .u64 0, .int .u64 0, .int .u64 0, .int .u64 0, .int .u64 0, .int .u64 0, .int .u64 0, .int .u64 0, .int .u64 0, .int .u64 0, .int .u64 0, .int .u64 0, .int .u64 0, .int .u64 0]).zeros
        have hA : Below v18.heap.size v18 (v18.alloc (.cells #[.int .u64 0, .int .u64 0, .int .u64 0, .int .u64 0, .int .u64 0, .int .u64 0, .int .u64 0, .int .u64 0, .int .u64 0, .int .u64 0, .int .u64 0, .int .u64 0, .int .u64 0, .int .u64 0, .int .u64 0, .int .u64 0] 31)) := (Below.refl _ _).alloc (Nat.le_refl _) _
        replace rd1 := rd1.below hA rd1.lt
        replace rd2 := rd2.below hA rd2.lt
        replace sk := sk.below hA sk.1
        have lg := bR.size
        replace bR := bR.trans (hA.mono bR.size)
        have hS31 : (fun W' : World => Row W' w.heap.size 25 (phL ps1) ∧ Row W' (w.heap.size + 1) 25 (phL ps2)) (v18.alloc (.cells #[.int .u64 0, .int .u64 0, .int .u64 0, .int .u64 0, .int .u64 0, .int .u64 0, .int .u64 0, .int .u64 0, .int .u64 0, .int .u64 0, .int .u64 0, .int .u64 0, .int .u64 0, .int .u64 0, .int .u64 0, .int .u64 0] 31)) := ⟨rd1, rd2⟩
        refine hK _ _ ⟨hS31, ?_⟩
        try simp only [Act.put, List.setIfInBounds_toArray, List.set_cons_zero, List.set_cons_succ]
        obtain ⟨X31, hX31⟩ : ∃ X, X = v18.alloc (.cells #[.int .u64 0, .int .u64 0, .int .u64 0, .int .u64 0, .int .u64 0, .int .u64 0, .int .u64 0, .int .u64 0, .int .u64 0, .int .u64 0, .int .u64 0, .int .u64 0, .int .u64 0, .int .u64 0, .int .u64 0, .int .u64 0] 31) := ⟨_, rfl⟩
        rw [← hX31] at rd1 rd2 sk rg bR hS31 ⊢
        clear hX31 hA hK K hS18
        refine wpAnyH_all (rs := [3]) (by kernel_rfl) (by simp) ?_
        intro i hi; simp only [List.mem_cons, List.not_mem_nil, or_false] at hi
        subst hi
        refine wpOp_step rfl (fun K hK => ?_)
        go_simp
        with_reducible refine (toPhoto_any ps1 X31).mono ?_
        rintro e v32 ⟨rfl, hB32⟩
        replace rd1 := rd1.below hB32 rd1.lt
        replace rd2 := rd2.below hB32 rd2.lt
        replace sk := sk.below hB32 sk.1
        replace rg := rg.below hB32 rg.lt
        replace bR := bR.trans (hB32.mono bR.size)
        have hS32 : (fun W' : World => Row W' w.heap.size 25 (phL ps1) ∧ Row W' (w.heap.size + 1) 25 (phL ps2)) v32 := ⟨rd1, rd2⟩
        refine hK _ _ ⟨hS32, ?_⟩
        try simp only [Act.put, List.setIfInBounds_toArray, List.set_cons_zero, List.set_cons_succ]
        clear hB32 hK K hS31
        refine wpAnyH_all (rs := [5]) (by kernel_rfl) (by simp) ?_
        intro i hi; simp only [List.mem_cons, List.not_mem_nil, or_false] at hi
        subst hi
        refine wpOp_step rfl (fun K hK => ?_)
        go_simp
        with_reducible refine (toPhoto_any ps2 v32).mono ?_
        rintro e v33 ⟨rfl, hB33⟩
        replace rd1 := rd1.below hB33 rd1.lt
        replace rd2 := rd2.below hB33 rd2.lt
        replace sk := sk.below hB33 sk.1
        replace rg := rg.below hB33 rg.lt
        replace bR := bR.trans (hB33.mono bR.size)
        have hS33 : (fun W' : World => Row W' w.heap.size 25 (phL ps1) ∧ Row W' (w.heap.size + 1) 25 (phL ps2)) v33 := ⟨rd1, rd2⟩
        refine hK _ _ ⟨hS33, ?_⟩
        try simp only [Act.put, List.setIfInBounds_toArray, List.set_cons_zero, List.set_cons_succ]
        clear hB33 hK K hS32
        refine wpAnyH_all (rs := [6]) (by kernel_rfl) (by simp) ?_
        intro i hi; simp only [List.mem_cons, List.not_mem_nil, or_false] at hi
        subst hi
        refine wpOp_step rfl (fun K hK => ?_)
        go_simp
        with_reducible refine (specMeetPhotos_any _ len len zs ps1 ps2 v33 sk hL.out.symm).mono ?_
        rintro e v34 ⟨rfl, hB34⟩
        replace rd1 := rd1.below hB34 rd1.lt
        replace rd2 := rd2.below hB34 rd2.lt
        replace sk := sk.below hB34 sk.1
        replace rg := rg.below hB34 rg.lt
        replace bR := bR.trans (hB34.mono bR.size)
        have hS34 : (fun W' : World => Row W' w.heap.size 25 (phL ps1) ∧ Row W' (w.heap.size + 1) 25 (phL ps2)) v34 := ⟨rd1, rd2⟩
        refine hK _ _ ⟨hS34, ?_⟩
        try simp only [Act.put, List.setIfInBounds_toArray, List.set_cons_zero, List.set_cons_succ]
        clear hB34 hK K hS33
        refine wpAnyH_takeD (some 15) (i := 7) (v := ?_) rfl rfl (by kernel_rfl) (by kernel_rfl) (by kernel_rfl) (fun _ _ _ h => h) (.inl ⟨by kernel_rfl, ?_⟩) hS34 ?_
        rotate_left
        · intro w' hw'; go_simp; try with_reducible rfl
        try simp only [Act.put, List.setIfInBounds_toArray, List.set_cons_zero, List.set_cons_succ]
        refine wpAnyH_takeD (some 23) (i := 8) (v := ?_) rfl rfl (by kernel_rfl) (by kernel_rfl) (by kernel_rfl) (fun _ _ _ h => h) (.inl ⟨by kernel_rfl, ?_⟩) hS34 ?_
        rotate_left
        · intro w' hw'; go_simp; try with_reducible rfl
        try simp only [Act.put, List.setIfInBounds_toArray, List.set_cons_zero, List.set_cons_succ]
        refine wpAnyH_takeD (some 24) (i := 9) (v := ?_) rfl rfl (by kernel_rfl) (by kernel_rfl) (by kernel_rfl) (fun _ _ _ h => h) (.inl ⟨by kernel_rfl, ?_⟩) hS34 ?_
        rotate_left
        · intro w' hw'; go_simp; try with_reducible rfl
        try simp only [Act.put, List.setIfInBounds_toArray, List.set_cons_zero, List.set_cons_succ]
        refine wpAnyH_all (rs := [11]) (by kernel_rfl) (by simp) ?_
        intro i hi; simp only [List.mem_cons, List.not_mem_nil, or_false] at hi
        subst hi
        refine wpOp_step rfl (fun K hK => ?_)
        rw [if_pos (by kernel_rfl)]
        refine wp_store_mid 31 (.tmp 7) (.tmp 23) rfl (v18.heap.size) 0 (phL (meetR zs ps1 ps2).1).toArray rfl rfl (by rw [sz16]; exact rg.there 16 rfl) (by rw [sz16]; exact hi) (all_oneCell_toArray (phL_one _)) ?_
        have hA : Below (v18.heap.size) v34 (v34.setCells (v18.heap.size) 0 (phL (meetR zs ps1 ps2).1)) := below_setCells (phL (meetR zs ps1 ps2).1) 0 _ (Below.refl _ _) (Nat.le_refl _)
        replace rd1 := rd1.below hA (Nat.lt_of_lt_of_le l_rd1 lg)
        replace rd2 := rd2.below hA (Nat.lt_of_lt_of_le l_rd2 lg)
        replace rg := rg.setCells (ys := (phL (meetR zs ps1 ps2).1)) rfl
        replace bR := below_setCells (phL (meetR zs ps1 ps2).1) 0 _ bR (g := v18.heap.size) lg
        have hS35 : (fun W' : World => Row W' w.heap.size 25 (phL ps1) ∧ Row W' (w.heap.size + 1) 25 (phL ps2)) (v34.setCells (v18.heap.size) 0 (phL (meetR zs ps1 ps2).1)) := ⟨rd1, rd2⟩
        refine hK _ _ ⟨hS35, ?_⟩
        try simp only [Act.put, List.setIfInBounds_toArray, List.set_cons_zero, List.set_cons_succ]
        obtain ⟨X35, hX35⟩ : ∃ X, X = v34.setCells (v18.heap.size) 0 (phL (meetR zs ps1 ps2).1) := ⟨_, rfl⟩
        rw [← hX35] at rd1 rd2 rg bR hS35 ⊢
        clear hX35 hA hK K hS34
        refine wpAnyH_takeD (some 8) (i := 12) (v := ?_) rfl rfl (by kernel_rfl) (by kernel_rfl) (by kernel_rfl) (fun _ _ _ h => h) (.inl ⟨by kernel_rfl, ?_⟩) hS35 ?_
        rotate_left
        · intro w' hw'; go_simp; try with_reducible rfl
        try simp only [Act.put, List.setIfInBounds_toArray, List.set_cons_zero, List.set_cons_succ]
        refine wpAnyH_done (by kernel_rfl) ?_ _
        go_wp2_with fail
        go_meet
        exact ⟨v18.heap.size, _, rfl, rfl, rfl, rg, rd1, rd2, bW0.trans (bR.mono bW0.size)⟩
    · refine wpOp_step rfl (fun K hK => ?_)
      go_simp
      have rg := (Row.new W0 31 [.int .u64 0, .int .u64 0, .int .u64 0, .int .u64 0, .int .u64 0, .int .u64 0, .int .u64 0, .int .u64 0, .int .u64 0, .int .u64 0, .int .u64 0, .int .u64 0, .int .u64 0, .int .u64 0, .int .u64 0, .int .u64 0]).zeros
      have hA : Below W0.heap.size W0 (W0.alloc (.cells #[.int .u64 0, .int .u64 0, .int .u64 0, .int .u64 0, .int .u64 0, .int .u64 0, .int .u64 0, .int .u64 0, .int .u64 0, .int .u64 0, .int .u64 0, .int .u64 0, .int .u64 0, .int .u64 0, .int .u64 0, .int .u64 0] 31)) := (Below.refl _ _).alloc (Nat.le_refl _) _
      replace rd1 := rd1.below hA rd1.lt
      replace rd2 := rd2.below hA rd2.lt
      have lg := bR.size
      replace bR := bR.trans (hA.mono bR.size)
      have hS36 : (fun W' : World => Row W' w.heap.size 25 (phL ps1) ∧ Row W' (w.heap.size + 1) 25 (phL ps2)) (W0.alloc (.cells #[.int .u64 0, .int .u64 0, .int .u64 0, .int .u64 0, .int .u64 0, .int .u64 0, .int .u64 0, .int .u64 0, .int .u64 0, .int .u64 0, .int .u64 0, .int .u64 0, .int .u64 0, .int .u64 0, .int .u64 0, .int .u64 0] 31)) := ⟨rd1, rd2⟩
      refine hK _ _ ⟨hS36, ?_⟩
      try simp only [Act.put, List.setIfInBounds_toArray, List.set_cons_zero, List.set_cons_succ]
      obtain ⟨X36, hX36⟩ : ∃ X, X = W0.alloc (.cells #[.int .u64 0, .int .u64 0, .int .u64 0, .int .u64 0, .int .u64 0, .int .u64 0, .int .u64 0, .int .u64 0, .int .u64 0, .int .u64 0, .int .u64 0, .int .u64 0, .int .u64 0, .int .u64 0, .int .u64 0, .int .u64 0] 31) := ⟨_, rfl⟩
      rw [← hX36] at rd1 rd2 rg bR hS36 ⊢
      clear hX36 hA hK K hS0
      refine wpAnyH_all (rs := [1]) (by kernel_rfl) (by simp) ?_
      intro i hi; simp only [List.mem_cons, List.not_mem_nil, or_false] at hi
      subst hi
      refine wpOp_step rfl (fun K hK => ?_)
      go_simp
      with_reducible refine (toStack_any a len cap zs X36 (hI.out.below (bW0.trans (bR.mono bW0.size)) (Nat.le_refl _)) hlen).mono ?_
      rintro e v37 ⟨rfl, hB37, sk, _⟩
      replace rd1 := rd1.below hB37 rd1.lt
      replace rd2 := rd2.below hB37 rd2.lt
      replace rg := rg.below hB37 rg.lt
      replace bR := bR.trans (hB37.mono bR.size)
      have hS37 : (fun W' : World => Row W' w.heap.size 25 (phL ps1) ∧ Row W' (w.heap.size + 1) 25 (phL ps2)) v37 := ⟨rd1, rd2⟩
      refine hK _ _ ⟨hS37, ?_⟩
      try simp only [Act.put, List.setIfInBounds_toArray, List.set_cons_zero, List.set_cons_succ]
      clear hB37 hK K hS36
      refine wpAnyH_all (rs := [3]) (by kernel_rfl) (by simp) ?_
      intro i hi; simp only [List.mem_cons, List.not_mem_nil, or_false] at hi
      subst hi
      refine wpOp_step rfl (fun K hK => ?_)
      go_simp
      with_reducible refine (toPhoto_any ps1 v37).mono ?_
      rintro e v38 ⟨rfl, hB38⟩
      replace rd1 := rd1.below hB38 rd1.lt
      replace rd2 := rd2.below hB38 rd2.lt
      replace sk := sk.below hB38 sk.1
      replace rg := rg.below hB38 rg.lt
      replace bR := bR.trans (hB38.mono bR.size)
      have hS38 : (fun W' : World => Row W' w.heap.size 25 (phL ps1) ∧ Row W' (w.heap.size + 1) 25 (phL ps2)) v38 := ⟨rd1, rd2⟩
      refine hK _ _ ⟨hS38, ?_⟩
      try simp only [Act.put, List.setIfInBounds_toArray, List.set_cons_zero, List.set_cons_succ]
      clear hB38 hK K hS37
      refine wpAnyH_all (rs := [5]) (by kernel_rfl) (by simp) ?_
      intro i hi; simp only [List.mem_cons, List.not_mem_nil, or_false] at hi
      subst hi
      refine wpOp_step rfl (fun K hK => ?_)
      go_simp
      with_reducible refine (toPhoto_any ps2 v38).mono ?_
      rintro e v39 ⟨rfl, hB39⟩
      replace rd1 := rd1.below hB39 rd1.lt
      replace rd2 := rd2.below hB39 rd2.lt
      replace sk := sk.below hB39 sk.1
      replace rg := rg.below hB39 rg.lt
      replace bR := bR.trans (hB39.mono bR.size)
      have hS39 : (fun W' : World => Row W' w.heap.size 25 (phL ps1) ∧ Row W' (w.heap.size + 1) 25 (phL ps2)) v39 := ⟨rd1, rd2⟩
      refine hK _ _ ⟨hS39, ?_⟩
      try simp only [Act.put, List.setIfInBounds_toArray, List.set_cons_zero, List.set_cons_succ]
      clear hB39 hK K hS38
      refine wpAnyH_all (rs := [6]) (by kernel_rfl) (by simp) ?_
      intro i hi; simp only [List.mem_cons, List.not_mem_nil, or_false] at hi
      subst hi
      refine wpOp_step rfl (fun K hK => ?_)
      go_simp
      with_reducible refine (specMeetPhotos_any _ len len zs ps1 ps2 v39 sk hL.out.symm).mono ?_
      rintro e v40 ⟨rfl, hB40⟩
      replace rd1 := rd1.below hB40 rd1.lt
      replace rd2 := rd2.below hB40 rd2.lt
      replace sk := sk.below hB40 sk.1
      replace rg := rg.below hB40 rg.lt
      replace bR := bR.trans (hB40.mono bR.size)
      have hS40 : (fun W' : World => Row W' w.heap.size 25 (phL ps1) ∧ Row W' (w.heap.size + 1) 25 (phL ps2)) v40 := ⟨rd1, rd2⟩
      refine hK _ _ ⟨hS40, ?_⟩
      try simp only [Act.put, List.setIfInBounds_toArray, List.set_cons_zero, List.set_cons_succ]
      clear hB40 hK K hS39
      refine wpAnyH_takeD (some 15) (i := 7) (v := ?_) rfl rfl (by kernel_rfl) (by kernel_rfl) (by kernel_rfl) (fun _ _ _ h => h) (.inl ⟨by kernel_rfl, ?_⟩) hS40 ?_
      rotate_left
      · intro w' hw'; go_simp; try with_reducible rfl
      try simp only [Act.put, List.setIfInBounds_toArray, List.set_cons_zero, List.set_cons_succ]
      refine wpAnyH_takeD (some 23) (i := 8) (v := ?_) rfl rfl (by kernel_rfl) (by kernel_rfl) (by kernel_rfl) (fun _ _ _ h => h) (.inl ⟨by kernel_rfl, ?_⟩) hS40 ?_
      rotate_left
      · intro w' hw'; go_simp; try with_reducible rfl
      try simp only [Act.put, List.setIfInBounds_toArray, List.set_cons_zero, List.set_cons_succ]
      refine wpAnyH_takeD (some 24) (i := 9) (v := ?_) rfl rfl (by kernel_rfl) (by kernel_rfl) (by kernel_rfl) (fun _ _ _ h => h) (.inl ⟨by kernel_rfl, ?_⟩) hS40 ?_
      rotate_left
      · intro w' hw'; go_simp; try with_reducible rfl
      try simp only [Act.put, List.setIfInBounds_toArray, List.set_cons_zero, List.set_cons_succ]
      refine wpAnyH_all (rs := [11]) (by kernel_rfl) (by simp) ?_
      intro i hi; simp only [List.mem_cons, List.not_mem_nil, or_false] at hi
      subst hi
      refine wpOp_step rfl (fun K hK => ?_)
      rw [if_pos (by kernel_rfl)]
      refine wp_store_mid 31 (.tmp 7) (.tmp 23) rfl (W0.heap.size) 0 (phL (meetR zs ps1 ps2).1).toArray rfl rfl (by rw [sz16]; exact rg.there 16 rfl) (by rw [sz16]; exact hi) (all_oneCell_toArray (phL_one _)) ?_
      have hA : Below (W0.heap.size) v40 (v40.setCells (W0.heap.size) 0 (phL (meetR zs ps1 ps2).1)) := below_setCells (phL (meetR zs ps1 ps2).1) 0 _ (Below.refl _ _) (Nat.le_refl _)
      replace rd1 := rd1.below hA (Nat.lt_of_lt_of_le l_rd1 lg)
      replace rd2 := rd2.below hA (Nat.lt_of_lt_of_le l_rd2 lg)
      replace rg := rg.setCells (ys := (phL (meetR zs ps1 ps2).1)) rfl
      replace bR := below_setCells (phL (meetR zs ps1 ps2).1) 0 _ bR (g := W0.heap.size) lg
      have hS41 : (fun W' : World => Row W' w.heap.size 25 (phL ps1) ∧ Row W' (w.heap.size + 1) 25 (phL ps2)) (v40.setCells (W0.heap.size) 0 (phL (meetR zs ps1 ps2).1)) := ⟨rd1, rd2⟩
      refine hK _ _ ⟨hS41, ?_⟩
      try simp only [Act.put, List.setIfInBounds_toArray, List.set_cons_zero, List.set_cons_succ]
      obtain ⟨X41, hX41⟩ : ∃ X, X = v40.setCells (W0.heap.size) 0 (phL (meetR zs ps1 ps2).1) := ⟨_, rfl⟩
      rw [← hX41] at rd1 rd2 rg bR hS41 ⊢
      clear hX41 hA hK K hS40
      refine wpAnyH_takeD (some 8) (i := 12) (v := ?_) rfl rfl (by kernel_rfl) (by kernel_rfl) (by kernel_rfl) (fun _ _ _ h => h) (.inl ⟨by kernel_rfl, ?_⟩) hS41 ?_
      rotate_left
      · intro w' hw'; go_simp; try with_reducible rfl
      try simp only [Act.put, List.setIfInBounds_toArray, List.set_cons_zero, List.set_cons_succ]
      refine wpAnyH_done (by kernel_rfl) ?_ _
      go_wp2_with fail
      go_meet
      exact ⟨W0.heap.size, _, rfl, rfl, rfl, rg, rd1, rd2, bW0.trans (bR.mono bW0.size)⟩
  case rest =>
    clear rd1 rd2 bW
    obtain ⟨g, W, rfl, rfl, rfl, rg, rd1, rd2, bW⟩ := hcut
    go_wp2_with fail
    with_reducible refine (toStack_any a len cap zs W (hI.out.below bW (Nat.le_refl _)) hlen).mono ?_
    rintro e w3 ⟨rfl, hB, sk, _⟩
    replace rd1 := rd1.below hB rd1.lt
    replace rd2 := rd2.below hB rd2.lt
    replace rg := rg.below hB rg.lt
    replace bW := bW.trans (hB.mono bW.size)
    clear hB
    go_upto_region 5 with fail
    go_cut [9, 10, 11] (fun s9 s10 s11 wx => ∃ (g2 : Nat) (B : Nat) (W : World), W = wx ∧ s9 = .slice (some ⟨B, 0, none⟩) len len ∧ s10 = .pointer (some ⟨g2, 0, none⟩) ∧ s11 = .int .i64 (meetR zs ps1 ps2).2 ∧ Row W g 31 (phL (meetR zs ps1 ps2).1) ∧ Row W g2 31 (phL (meetR zs ps1 ps2).1) ∧ Stk W B zs ∧ Below w.heap.size w W)
    case first =>
      have rgw := rg
      clear rg
      refine wp_region_held (S := fun W' : World => Row W' w.heap.size 25 (phL ps1) ∧ Row W' (w.heap.size + 1) 25 (phL ps2)) (by kernel_rfl) ?_
      change wpAnyH _ _ _ _ _ _ _ _ (World.drew _)
      obtain ⟨W0, hW0⟩ : ∃ X, X = World.drew (w3) := ⟨_, rfl⟩
      have hD0 : Below (w3).heap.size (w3) W0 := by rw [hW0]; exact (Below.refl _ _).drew
      replace rgw := rgw.below hD0 rgw.lt
      replace sk := sk.below hD0 sk.1
      replace rd1 := rd1.below hD0 rd1.lt
      replace rd2 := rd2.below hD0 rd2.lt
      have bW0 := bW.trans (hD0.mono bW.size)
      have bR : Below W0.heap.size W0 W0 := Below.refl _ _
      rw [← hW0]
      clear hW0 hD0
      have l_rgw := rgw.lt
      have l_sk := sk.1
      have l_rd1 := rd1.lt
      have l_rd2 := rd2.lt
      have hS0 : (fun W' : World => Row W' w.heap.size 25 (phL ps1) ∧ Row W' (w.heap.size + 1) 25 (phL ps2)) W0 := ⟨rd1, rd2⟩
      refine wpAnyH_takeD (some 28) (i := 0) (v := ?_) rfl rfl (by kernel_rfl) (by kernel_rfl) (by kernel_rfl) (fun _ _ _ h => h) (.inl ⟨by kernel_rfl, ?_⟩) hS0 ?_
      rotate_left
      · intro w' hw'; go_simp; try with_reducible rfl
      try simp only [Act.put, List.setIfInBounds_toArray, List.set_cons_zero, List.set_cons_succ]
      refine wpAnyH_takeD (some 29) (i := 1) (v := .agg (phL ps1).toArray) rfl rfl (by kernel_rfl) (by kernel_rfl) (by kernel_rfl) (fun _ _ _ h => h) (yieldsIf_load_mid (by kernel_rfl) 25 _ rfl w.heap.size 0 rfl (phL ps1) _ (fun w' hw' => Row.range hw'.1) Try.underlying25 rfl (by rw [phL_len]; exact hj)) hS0 ?_
      try simp only [Act.put, List.setIfInBounds_toArray, List.set_cons_zero, List.set_cons_succ]
      refine wpAnyH_takeD (some 31) (i := 3) (v := .agg (phL ps2).toArray) rfl rfl (by kernel_rfl) (by kernel_rfl) (by kernel_rfl) (fun _ _ _ h => h) (yieldsIf_load_mid (by kernel_rfl) 25 _ rfl (w.heap.size + 1) 0 rfl (phL ps2) _ (fun w' hw' => Row.range hw'.2) Try.underlying25 rfl (by rw [phL_len]; exact hj)) hS0 ?_
      try simp only [Act.put, List.setIfInBounds_toArray, List.set_cons_zero, List.set_cons_succ]
      refine wpAnyH_all (rs := [2, 9]) (by kernel_rfl) (by simp) ?_
      intro i hi; simp only [List.mem_cons, List.not_mem_nil, or_false] at hi
      rcases hi with rfl | rfl
      · refine wpOp_step rfl (fun K hK => ?_)
        go_simp
        with_reducible refine (toPhoto_any ps1 W0).mono ?_
        rintro e v1 ⟨rfl, hB1⟩
        replace rgw := rgw.below hB1 rgw.lt
        replace sk := sk.below hB1 sk.1
        replace rd1 := rd1.below hB1 rd1.lt
        replace rd2 := rd2.below hB1 rd2.lt
        replace bR := bR.trans (hB1.mono bR.size)
        have hS1 : (fun W' : World => Row W' w.heap.size 25 (phL ps1) ∧ Row W' (w.heap.size + 1) 25 (phL ps2)) v1 := ⟨rd1, rd2⟩
        refine hK _ _ ⟨hS1, ?_⟩
        try simp only [Act.put, List.setIfInBounds_toArray, List.set_cons_zero, List.set_cons_succ]
        clear hB1 hK K hS0
        refine wpAnyH_all (rs := [4, 9]) (by kernel_rfl) (by simp) ?_
        intro i hi; simp only [List.mem_cons, List.not_mem_nil, or_false] at hi
        rcases hi with rfl | rfl
        · refine wpOp_step rfl (fun K hK => ?_)
          go_simp
          with_reducible refine (toPhoto_any ps2 v1).mono ?_
          rintro e v2 ⟨rfl, hB2⟩
          replace rgw := rgw.below hB2 rgw.lt
          replace sk := sk.below hB2 sk.1
          replace rd1 := rd1.below hB2 rd1.lt
          replace rd2 := rd2.below hB2 rd2.lt
          replace bR := bR.trans (hB2.mono bR.size)
          have hS2 : (fun W' : World => Row W' w.heap.size 25 (phL ps1) ∧ Row W' (w.heap.size + 1) 25 (phL ps2)) v2 := ⟨rd1, rd2⟩
          refine hK _ _ ⟨hS2, ?_⟩
          try simp only [Act.put, List.setIfInBounds_toArray, List.set_cons_zero, List.set_cons_succ]
          clear hB2 hK K hS1
          refine wpAnyH_all (rs := [5, 9]) (by kernel_rfl) (by simp) ?_
          intro i hi; simp only [List.mem_cons, List.not_mem_nil, or_false] at hi
          rcases hi with rfl | rfl
          · refine wpOp_step rfl (fun K hK => ?_)
            go_simp
            with_reducible refine (implMeetPhotos_any _ len len zs ps1 ps2 v2 sk hL.out.symm HP1.out HP2.out).mono ?_
            rintro e v3 ⟨rfl, hB3⟩
            replace rgw := rgw.below hB3 rgw.lt
            replace sk := sk.below hB3 sk.1
            replace rd1 := rd1.below hB3 rd1.lt
            replace rd2 := rd2.below hB3 rd2.lt
            replace bR := bR.trans (hB3.mono bR.size)
            have hS3 : (fun W' : World => Row W' w.heap.size 25 (phL ps1) ∧ Row W' (w.heap.size + 1) 25 (phL ps2)) v3 := ⟨rd1, rd2⟩
            refine hK _ _ ⟨hS3, ?_⟩
            try simp only [Act.put, List.setIfInBounds_toArray, List.set_cons_zero, List.set_cons_succ]
            clear hB3 hK K hS2
            refine wpAnyH_takeD (some 27) (i := 6) (v := ?_) rfl rfl (by kernel_rfl) (by kernel_rfl) (by kernel_rfl) (fun _ _ _ h => h) (.inl ⟨by kernel_rfl, ?_⟩) hS3 ?_
            rotate_left
            · intro w' hw'; go_simp; try with_reducible rfl
            try simp only [Act.put, List.setIfInBounds_toArray, List.set_cons_zero, List.set_cons_succ]
            refine wpAnyH_takeD (some 34) (i := 7) (v := ?_) rfl rfl (by kernel_rfl) (by kernel_rfl) (by kernel_rfl) (fun _ _ _ h => h) (.inl ⟨by kernel_rfl, ?_⟩) hS3 ?_
            rotate_left
            · intro w' hw'; go_simp; try with_reducible rfl
            try simp only [Act.put, List.setIfInBounds_toArray, List.set_cons_zero, List.set_cons_succ]
            refine wpAnyH_takeD (some 35) (i := 8) (v := ?_) rfl rfl (by kernel_rfl) (by kernel_rfl) (by kernel_rfl) (fun _ _ _ h => h) (.inl ⟨by kernel_rfl, ?_⟩) hS3 ?_
            rotate_left
            · intro w' hw'; go_simp; try with_reducible rfl
            try simp only [Act.put, List.setIfInBounds_toArray, List.set_cons_zero, List.set_cons_succ]
            refine wpAnyH_all (rs := [9]) (by kernel_rfl) (by simp) ?_
            intro i hi; simp only [List.mem_cons, List.not_mem_nil, or_false] at hi
            subst hi
            refine wpOp_step rfl (fun K hK => ?_)
            go_simp
            have rg := (Row.new v3 31 [.int .u64 0, .int .u64 0, .int .u64 0, .int .u64 0, .int .u64 0, .int .u64 0, .int .u64 0, .int .u64 0, .int .u64 0, .int .u64 0, .int .u64 0, .int .u64 0, .int .u64 0, .int .u64 0, .int .u64 0, .int .u64 0]).zeros
            have hA : Below v3.heap.size v3 (v3.alloc (.cells #[.int .u64 0, .int .u64 0, .int .u64 0, .int .u64 0, .int .u64 0, .int .u64 0, .int .u64 0, .int .u64 0, .int .u64 0, .int .u64 0, .int .u64 0, .int .u64 0, .int .u64 0, .int .u64 0, .int .u64 0, .int .u64 0] 31)) := (Below.refl _ _).alloc (Nat.le_refl _) _
            replace rgw := rgw.below hA rgw.lt
            replace sk := sk.below hA sk.1
            replace rd1 := rd1.below hA rd1.lt
            replace rd2 := rd2.below hA rd2.lt
            have lg := bR.size
            replace bR := bR.trans (hA.mono bR.size)
            have hS4 : (fun W' : World => Row W' w.heap.size 25 (phL ps1) ∧ Row W' (w.heap.size + 1) 25 (phL ps2)) (v3.alloc (.cells #[.int .u64 0, .int .u64 0, .int .u64 0, .int .u64 0, .int .u64 0, .int .u64 0, .int .u64 0, .int .u64 0, .int .u64 0, .int .u64 0, .int .u64 0, .int .u64 0, .int .u64 0, .int .u64 0, .int .u64 0, .int .u64 0] 31)) := ⟨rd1, rd2⟩
            refine hK _ _ ⟨hS4, ?_⟩
            try simp only [Act.put, List.setIfInBounds_toArray, List.set_cons_zero, List.set_cons_succ]
            obtain ⟨X4, hX4⟩ : ∃ X, X = v3.alloc (.cells #[.int .u64 0, .int .u64 0, .int .u64 0, .int .u64 0, .int .u64 0, .int .u64 0, .int .u64 0, .int .u64 0, .int .u64 0, .int .u64 0, .int .u64 0, .int .u64 0, .int .u64 0, .int .u64 0, .int .u64 0, .int .u64 0] 31) := ⟨_, rfl⟩
            rw [← hX4] at rgw sk rd1 rd2 rg bR hS4 ⊢
            clear hX4 hA hK K hS3
            refine wpAnyH_all (rs := [10]) (by kernel_rfl) (by simp) ?_
            intro i hi; simp only [List.mem_cons, List.not_mem_nil, or_false] at hi
            subst hi
            refine wpOp_step rfl (fun K hK => ?_)
            rw [if_pos (by kernel_rfl)]
            refine wp_store_mid 31 (.tmp 10) (.tmp 34) rfl (v3.heap.size) 0 (phL (meetR zs ps1 ps2).1).toArray rfl rfl (by rw [sz16]; exact rg.there 16 rfl) (by rw [sz16]; exact hi) (all_oneCell_toArray (phL_one _)) ?_
            have hA : Below (v3.heap.size) X4 (X4.setCells (v3.heap.size) 0 (phL (meetR zs ps1 ps2).1)) := below_setCells (phL (meetR zs ps1 ps2).1) 0 _ (Below.refl _ _) (Nat.le_refl _)
            replace rgw := rgw.below hA (Nat.lt_of_lt_of_le l_rgw lg)
            replace sk := sk.below hA (Nat.lt_of_lt_of_le l_sk lg)
            replace rd1 := rd1.below hA (Nat.lt_of_lt_of_le l_rd1 lg)
            replace rd2 := rd2.below hA (Nat.lt_of_lt_of_le l_rd2 lg)
            replace rg := rg.setCells (ys := (phL (meetR zs ps1 ps2).1)) rfl
            replace bR := below_setCells (phL (meetR zs ps1 ps2).1) 0 _ bR (g := v3.heap.size) lg
            have hS5 : (fun W' : World => Row W' w.heap.size 25 (phL ps1) ∧ Row W' (w.heap.size + 1) 25 (phL ps2)) (X4.setCells (v3.heap.size) 0 (phL (meetR zs ps1 ps2).1)) := ⟨rd1, rd2⟩
            refine hK _ _ ⟨hS5, ?_⟩
            try simp only [Act.put, List.setIfInBounds_toArray, List.set_cons_zero, List.set_cons_succ]
            obtain ⟨X5, hX5⟩ : ∃ X, X = X4.setCells (v3.heap.size) 0 (phL (meetR zs ps1 ps2).1) := ⟨_, rfl⟩
            rw [← hX5] at rgw sk rd1 rd2 rg bR hS5 ⊢
            clear hX5 hA hK K hS4
            refine wpAnyH_takeD (some 11) (i := 11) (v := ?_) rfl rfl (by kernel_rfl) (by kernel_rfl) (by kernel_rfl) (fun _ _ _ h => h) (.inl ⟨by kernel_rfl, ?_⟩) hS5 ?_
            rotate_left
            · intro w' hw'; go_simp; try with_reducible rfl
            try simp only [Act.put, List.setIfInBounds_toArray, List.set_cons_zero, List.set_cons_succ]
            refine wpAnyH_done (by kernel_rfl) ?_ _
            go_wp2_with fail
            go_meet
            exact ⟨v3.heap.size, _, _, rfl, rfl, rfl, rfl, rgw, rg, sk, bW0.trans (bR.mono bW0.size)⟩
          · refine wpOp_step rfl (fun K hK => ?_)
            go_simp
            have rg := (Row.new v2 31 [.int .u64 0, .int .u64 0, .int .u64 0, .int .u64 0, .int .u64 0, .int .u64 0, .int .u64 0, .int .u64 0, .int .u64 0, .int .u64 0, .int .u64 0, .int .u64 0, .int .u64 0, .int .u64 0, .int .u64 0, .int .u64 0]).zeros
            have hA : Below v2.heap.size v2 (v2.alloc (.cells #[.int .u64 0, .int .u64 0, .int .u64 0, .int .u64 0, .int .u64 0, .int .u64 0, .int .u64 0, .int .u64 0, .int .u64 0, .int .u64 0, .int .u64 0, .int .u64 0, .int .u64 0, .int .u64 0, .int .u64 0, .int .u64 0] 31)) := (Below.refl _ _).alloc (Nat.le_refl _) _
            replace rgw := rgw.below hA rgw.lt
            replace sk := sk.below hA sk.1
            replace rd1 := rd1.below hA rd1.lt
            replace rd2 := rd2.below hA rd2.lt
            have lg := bR.size
            replace bR := bR.trans (hA.mono bR.size)
            have hS6 : (fun W' : World => Row W' w.heap.size 25 (phL ps1) ∧ Row W' (w.heap.size + 1) 25 (phL ps2)) (v2.alloc (.cells #[.int .u64 0, .int .u64 0, .int .u64 0, .int .u64 0, .int .u64 0, .int .u64 0, .int .u64 0, .int .u64 0, .int .u64 0, .int .u64 0, .int .u64 0, .int .u64 0, .int .u64 0, .int .u64 0, .int .u64 0, .int .u64 0] 31)) := ⟨rd1, rd2⟩
            refine hK _ _ ⟨hS6, ?_⟩
            try simp only [Act.put, List.setIfInBounds_toArray, List.set_cons_zero, List.set_cons_succ]
            obtain ⟨X6, hX6⟩ : ∃ X, X = v2.alloc (.cells #[.int .u64 0, .int .u64 0, .int .u64 0, .int .u64 0, .int .u64 0, .int .u64 0, .int .u64 0, .int .u64 0, .int .u64 0, .int .u64 0, .int .u64 0, .int .u64 0, .int .u64 0, .int .u64 0, .int .u64 0, .int .u64 0] 31) := ⟨_, rfl⟩
            rw [← hX6] at rgw sk rd1 rd2 rg bR hS6 ⊢
            clear hX6 hA hK K hS2
            refine wpAnyH_all (rs := [5]) (by kernel_rfl) (by simp) ?_
            intro i hi; simp only [List.mem_cons, List.not_mem_nil, or_false] at hi
            subst hi
            refine wpOp_step rfl (fun K hK => ?_)
            go_simp
            with_reducible refine (implMeetPhotos_any _ len len zs ps1 ps2 X6 sk hL.out.symm HP1.out HP2.out).mono ?_
            rintro e v7 ⟨rfl, hB7⟩
            replace rgw := rgw.below hB7 rgw.lt
            replace sk := sk.below hB7 sk.1
            replace rd1 := rd1.below hB7 rd1.lt
            replace rd2 := rd2.below hB7 rd2.lt
            replace rg := rg.below hB7 rg.lt
            replace bR := bR.trans (hB7.mono bR.size)
            have hS7 : (fun W' : World => Row W' w.heap.size 25 (phL ps1) ∧ Row W' (w.heap.size + 1) 25 (phL ps2)) v7 := ⟨rd1, rd2⟩
            refine hK _ _ ⟨hS7, ?_⟩
            try simp only [Act.put, List.setIfInBounds_toArray, List.set_cons_zero, List.set_cons_succ]
            clear hB7 hK K hS6
            refine wpAnyH_takeD (some 27) (i := 6) (v := ?_) rfl rfl (by kernel_rfl) (by kernel_rfl) (by kernel_rfl) (fun _ _ _ h => h) (.inl ⟨by kernel_rfl, ?_⟩) hS7 ?_
            rotate_left
            · intro w' hw'; go_simp; try with_reducible rfl
            try simp only [Act.put, List.setIfInBounds_toArray, List.set_cons_zero, List.set_cons_succ]
            refine wpAnyH_takeD (some 34) (i := 7) (v := ?_) rfl rfl (by kernel_rfl) (by kernel_rfl) (by kernel_rfl) (fun _ _ _ h => h) (.inl ⟨by kernel_rfl, ?_⟩) hS7 ?_
            rotate_left
            · intro w' hw'; go_simp; try with_reducible rfl
            try simp only [Act.put, List.setIfInBounds_toArray, List.set_cons_zero, List.set_cons_succ]
            refine wpAnyH_takeD (some 35) (i := 8) (v := ?_) rfl rfl (by kernel_rfl) (by kernel_rfl) (by kernel_rfl) (fun _ _ _ h => h) (.inl ⟨by kernel_rfl, ?_⟩) hS7 ?_
            rotate_left
            · intro w' hw'; go_simp; try with_reducible rfl
            try simp only [Act.put, List.setIfInBounds_toArray, List.set_cons_zero, List.set_cons_succ]
            refine wpAnyH_all (rs := [10]) (by kernel_rfl) (by simp) ?_
            intro i hi; simp only [List.mem_cons, List.not_mem_nil, or_false] at hi
            subst hi
            refine wpOp_step rfl (fun K hK => ?_)
            rw [if_pos (by kernel_rfl)]
            refine wp_store_mid 31 (.tmp 10) (.tmp 34) rfl (v2.heap.size) 0 (phL (meetR zs ps1 ps2).1).toArray rfl rfl (by rw [sz16]; exact rg.there 16 rfl) (by rw [sz16]; exact hi) (all_oneCell_toArray (phL_one _)) ?_
            have hA : Below (v2.heap.size) v7 (v7.setCells (v2.heap.size) 0 (phL (meetR zs ps1 ps2).1)) := below_setCells (phL (meetR zs ps1 ps2).1) 0 _ (Below.refl _ _) (Nat.le_refl _)
            replace rgw := rgw.below hA (Nat.lt_of_lt_of_le l_rgw lg)
            replace sk := sk.below hA (Nat.lt_of_lt_of_le l_sk lg)
            replace rd1 := rd1.below hA (Nat.lt_of_lt_of_le l_rd1 lg)
            replace rd2 := rd2.below hA (Nat.lt_of_lt_of_le l_rd2 lg)
            replace rg := rg.setCells (ys := (phL (meetR zs ps1 ps2).1)) rfl
            replace bR := below_setCells (phL (meetR zs ps1 ps2).1) 0 _ bR (g := v2.heap.size) lg
            have hS8 : (fun W' : World => Row W' w.heap.size 25 (phL ps1) ∧ Row W' (w.heap.size + 1) 25 (phL ps2)) (v7.setCells (v2.heap.size) 0 (phL (meetR zs ps1 ps2).1)) := ⟨rd1, rd2⟩
            refine hK _ _ ⟨hS8, ?_⟩
            try simp only [Act.put, List.setIfInBounds_toArray, List.set_cons_zero, List.set_cons_succ]
            obtain ⟨X8, hX8⟩ : ∃ X, X = v7.setCells (v2.heap.size) 0 (phL (meetR zs ps1 ps2).1) := ⟨_, rfl⟩
            rw [← hX8] at rgw sk rd1 rd2 rg bR hS8 ⊢
            clear hX8 hA hK K hS7
            refine wpAnyH_takeD (some 11) (i := 11) (v := ?_) rfl rfl (by kernel_rfl) (by kernel_rfl) (by kernel_rfl) (fun _ _ _ h => h) (.inl ⟨by kernel_rfl, ?_⟩) hS8 ?_
            rotate_left
            · intro w' hw'; go_simp; try with_reducible rfl
            try simp only [Act.put, List.setIfInBounds_toArray, List.set_cons_zero, List.set_cons_succ]
            refine wpAnyH_done (by kernel_rfl) ?_ _
            go_wp2_with fail
            go_meet
            exact ⟨v2.heap.size, _, _, rfl, rfl, rfl, rfl, rgw, rg, sk, bW0.trans (bR.mono bW0.size)⟩
        · refine wpOp_step rfl (fun K hK => ?_)
          go_simp
          have rg := (Row.new v1 31 [.int .u64 0, .int .u64 0, .int .u64 0, .int .u64 0, .int .u64 0, .int .u64 0, .int .u64 0, .int .u64 0, .int .u64 0, .int .u64 0, .int .u64 0, .int .u64 0, .int .u64 0, .int .u64 0, .int .u64 0, .int .u64 0]).zeros
          have hA : Below v1.heap.size v1 (v1.alloc (.cells #[.int .u64 0, .int .u64 0, .int .u64 0, .int .u64 0, .int .u64 0, .int .u64 0, .int .u64 0, .int .u64 0, .int .u64 0, .int .u64 0, .int .u64 0, .int .u64 0, .int .u64 0, .int .u64 0, .int .u64 0, .int .u64 0] 31)) := (Below.refl _ _).alloc (Nat.le_refl _) _
          replace rgw := rgw.below hA rgw.lt
          replace sk := sk.below hA sk.1
          replace rd1 := rd1.below hA rd1.lt
          replace rd2 := rd2.below hA rd2.lt
          have lg := bR.size
          replace bR := bR.trans (hA.mono bR.size)
          have hS9 : (fun W' : World => Row W' w.heap.size 25 (phL ps1) ∧ Row W' (w.heap.size + 1) 25 (phL ps2)) (v1.alloc (.cells #[.int .u64 0, .int .u64 0, .int .u64 0, .int .u64 0, .int .u64 0, .int .u64 0, .int .u64 0, .int .u64 0, .int .u64 0, .int .u64 0, .int .u64 0, .int .u64 0, .int .u64 0, .int .u64 0, .int .u64 0, .int .u64 0] 31)) := ⟨rd1, rd2⟩
          refine hK _ _ ⟨hS9, ?_⟩
          try simp only [Act.put, List.setIfInBounds_toArray, List.set_cons_zero, List.set_cons_succ]
          obtain ⟨X9, hX9⟩ : ∃ X, X = v1.alloc (.cells #[.int .u64 0, .int .u64 0, .int .u64 0, .int .u64 0, .int .u64 0, .int .u64 0, .int .u64 0, .int .u64 0, .int .u64 0, .int .u64 0, .int .u64 0, .int .u64 0, .int .u64 0, .int .u64 0, .int .u64 0, .int .u64 0] 31) := ⟨_, rfl⟩
          rw [← hX9] at rgw sk rd1 rd2 rg bR hS9 ⊢
          clear hX9 hA hK K hS1
          refine wpAnyH_all (rs := [4]) (by kernel_rfl) (by simp) ?_
          intro i hi; simp only [List.mem_cons, List.not_mem_nil, or_false] at hi
          subst hi
          refine wpOp_step rfl (fun K hK => ?_)
          go_simp
          with_reducible refine (toPhoto_any ps2 X9).mono ?_
          rintro e v10 ⟨rfl, hB10⟩
          replace rgw := rgw.below hB10 rgw.lt
          replace sk := sk.below hB10 sk.1
          replace rd1 := rd1.below hB10 rd1.lt
          replace rd2 := rd2.below hB10 rd2.lt
          replace rg := rg.below hB10 rg.lt
          replace bR := bR.trans (hB10.mono bR.size)
          have hS10 : (fun W' : World => Row W' w.heap.size 25 (phL ps1) ∧ Row W' (w.heap.size + 1) 25 (phL ps2)) v10 := ⟨rd1, rd2⟩
          refine hK _ _ ⟨hS10, ?_⟩
          try simp only [Act.put, List.setIfInBounds_toArray, List.set_cons_zero, List.set_cons_succ]
          clear hB10 hK K hS9
          refine wpAnyH_all (rs := [5]) (by kernel_rfl) (by simp) ?_
          intro i hi; simp only [List.mem_cons, List.not_mem_nil, or_false] at hi
          subst hi
          refine wpOp_step rfl (fun K hK => ?_)
          go_simp
          with_reducible refine (implMeetPhotos_any _ len len zs ps1 ps2 v10 sk hL.out.symm HP1.out HP2.out).mono ?_
          rintro e v11 ⟨rfl, hB11⟩
          replace rgw := rgw.below hB11 rgw.lt
          replace sk := sk.below hB11 sk.1
          replace rd1 := rd1.below hB11 rd1.lt
          replace rd2 := rd2.below hB11 rd2.lt
          replace rg := rg.below hB11 rg.lt
          replace bR := bR.trans (hB11.mono bR.size)
          have hS11 : (fun W' : World => Row W' w.heap.size 25 (phL ps1) ∧ Row W' (w.heap.size + 1) 25 (phL ps2)) v11 := ⟨rd1, rd2⟩
          refine hK _ _ ⟨hS11, ?_⟩
          try simp only [Act.put, List.setIfInBounds_toArray, List.set_cons_zero, List.set_cons_succ]
          clear hB11 hK K hS10
          refine wpAnyH_takeD (some 27) (i := 6) (v := ?_) rfl rfl (by kernel_rfl) (by kernel_rfl) (by kernel_rfl) (fun _ _ _ h => h) (.inl ⟨by kernel_rfl, ?_⟩) hS11 ?_
          rotate_left
          · intro w' hw'; go_simp; try with_reducible rfl
          try simp only [Act.put, List.setIfInBounds_toArray, List.set_cons_zero, List.set_cons_succ]
          refine wpAnyH_takeD (some 34) (i := 7) (v := ?_) rfl rfl (by kernel_rfl) (by kernel_rfl) (by kernel_rfl) (fun _ _ _ h => h) (.inl ⟨by kernel_rfl, ?_⟩) hS11 ?_
          rotate_left
          · intro w' hw'; go_simp; try with_reducible rfl
          try simp only [Act.put, List.setIfInBounds_toArray, List.set_cons_zero, List.set_cons_succ]
          refine wpAnyH_takeD (some 35) (i := 8) (v := ?_) rfl rfl (by kernel_rfl) (by kernel_rfl) (by kernel_rfl) (fun _ _ _ h => h) (.inl ⟨by kernel_rfl, ?_⟩) hS11 ?_
          rotate_left
          · intro w' hw'; go_simp; try with_reducible rfl
          try simp only [Act.put, List.setIfInBounds_toArray, List.set_cons_zero, List.set_cons_succ]
          refine wpAnyH_all (rs := [10]) (by kernel_rfl) (by simp) ?_
          intro i hi; simp only [List.mem_cons, List.not_mem_nil, or_false] at hi
          subst hi
          refine wpOp_step rfl (fun K hK => ?_)
          rw [if_pos (by kernel_rfl)]
          refine wp_store_mid 31 (.tmp 10) (.tmp 34) rfl (v1.heap.size) 0 (phL (meetR zs ps1 ps2).1).toArray rfl rfl (by rw [sz16]; exact rg.there 16 rfl) (by rw [sz16]; exact hi) (all_oneCell_toArray (phL_one _)) ?_
          have hA : Below (v1.heap.size) v11 (v11.setCells (v1.heap.size) 0 (phL (meetR zs ps1 ps2).1)) := below_setCells (phL (meetR zs ps1 ps2).1) 0 _ (Below.refl _ _) (Nat.le_refl _)
          replace rgw := rgw.below hA (Nat.lt_of_lt_of_le l_rgw lg)
          replace sk := sk.below hA (Nat.lt_of_lt_of_le l_sk lg)
          replace rd1 := rd1.below hA (Nat.lt_of_lt_of_le l_rd1 lg)
          replace rd2 := rd2.below hA (Nat.lt_of_lt_of_le l_rd2 lg)
          replace rg := rg.setCells (ys := (phL (meetR zs ps1 ps2).1)) rfl
          replace bR := below_setCells (phL (meetR zs ps1 ps2).1) 0 _ bR (g := v1.heap.size) lg
          have hS12 : (fun W' : World => Row W' w.heap.size 25 (phL ps1) ∧ Row W' (w.heap.size + 1) 25 (phL ps2)) (v11.setCells (v1.heap.size) 0 (phL (meetR zs ps1 ps2).1)) := ⟨rd1, rd2⟩
          refine hK _ _ ⟨hS12, ?_⟩
          try simp only [Act.put, List.setIfInBounds_toArray, List.set_cons_zero, List.set_cons_succ]
          obtain ⟨X12, hX12⟩ : ∃ X, X = v11.setCells (v1.heap.size) 0 (phL (meetR zs ps1 ps2).1) := ⟨_, rfl⟩
          rw [← hX12] at rgw sk rd1 rd2 rg bR hS12 ⊢
          clear hX12 hA hK K hS11
          refine wpAnyH_takeD (some 11) (i := 11) (v := ?_) rfl rfl (by kernel_rfl) (by kernel_rfl) (by kernel_rfl) (fun _ _ _ h => h) (.inl ⟨by kernel_rfl, ?_⟩) hS12 ?_
          rotate_left
          · intro w' hw'; go_simp; try with_reducible rfl
          try simp only [Act.put, List.setIfInBounds_toArray, List.set_cons_zero, List.set_cons_succ]
          refine wpAnyH_done (by kernel_rfl) ?_ _
          go_wp2_with fail
          go_meet
          exact ⟨v1.heap.size, _, _, rfl, rfl, rfl, rfl, rgw, rg, sk, bW0.trans (bR.mono bW0.size)⟩
      · refine wpOp_step rfl (fun K hK => ?_)
        go_simp
        have rg := (Row.new W0 31 [.int .u64 0, .int .u64 0, .int .u64 0, .int .u64 0, .int .u64 0, .int .u64 0, .int .u64 0, .int .u64 0, .int .u64 0, .int .u64 0, .int .u64 0, .int .u64 0, .int .u64 0, .int .u64 0, .int .u64 0, .int .u64 0]).zeros
        have hA : Below W0.heap.size W0 (W0.alloc (.cells #[.int .u64 0, .int .u64 0, .int .u64 0, .int .u64 0, .int .u64 0, .int .u64 0, .int .u64 0, .int .u64 0, .int .u64 0, .int .u64 0, .int .u64 0, .int .u64 0, .int .u64 0, .int .u64 0, .int .u64 0, .int .u64 0] 31)) := (Below.refl _ _).alloc (Nat.le_refl _) _
        replace rgw := rgw.below hA rgw.lt
        replace sk := sk.below hA sk.1
        replace rd1 := rd1.below hA rd1.lt
        replace rd2 := rd2.below hA rd2.lt
        have lg := bR.size
        replace bR := bR.trans (hA.mono bR.size)
        have hS13 : (fun W' : World => Row W' w.heap.size 25 (phL ps1) ∧ Row W' (w.heap.size + 1) 25 (phL ps2)) (W0.alloc (.cells #[.int .u64 0, .int .u64 0, .int .u64 0, .int .u64 0, .int .u64 0, .int .u64 0, .int .u64 0, .int .u64 0, .int .u64 0, .int .u64 0, .int .u64 0, .int .u64 0, .int .u64 0, .int .u64 0, .int .u64 0, .int .u64 0] 31)) := ⟨rd1, rd2⟩
        refine hK _ _ ⟨hS13, ?_⟩
        try simp only [Act.put, List.setIfInBounds_toArray, List.set_cons_zero, List.set_cons_succ]
        obtain ⟨X13, hX13⟩ : ∃ X, X = W0.alloc (.cells #[.int .u64 0, .int .u64 0, .int .u64 0, .int .u64 0, .int .u64 0, .int .u64 0, .int .u64 0, .int .u64 0, .int .u64 0, .int .u64 0, .int .u64 0, .int .u64 0, .int .u64 0, .int .u64 0, .int .u64 0, .int .u64 0] 31) := ⟨_, rfl⟩
        rw [← hX13] at rgw sk rd1 rd2 rg bR hS13 ⊢
        clear hX13 hA hK K hS0
        refine wpAnyH_all (rs := [2]) (by kernel_rfl) (by simp) ?_
        intro i hi; simp only [List.mem_cons, List.not_mem_nil, or_false] at hi
        subst hi
        refine wpOp_step rfl (fun K hK => ?_)
        go_simp
        with_reducible refine (toPhoto_any ps1 X13).mono ?_
        rintro e v14 ⟨rfl, hB14⟩
        replace rgw := rgw.below hB14 rgw.lt
        replace sk := sk.below hB14 sk.1
        replace rd1 := rd1.below hB14 rd1.lt
        replace rd2 := rd2.below hB14 rd2.lt
        replace rg := rg.below hB14 rg.lt
        replace bR := bR.trans (hB14.mono bR.size)
        have hS14 : (fun W' : World => Row W' w.heap.size 25 (phL ps1) ∧ Row W' (w.heap.size + 1) 25 (phL ps2)) v14 := ⟨rd1, rd2⟩
        refine hK _ _ ⟨hS14, ?_⟩
        try simp only [Act.put, List.setIfInBounds_toArray, List.set_cons_zero, List.set_cons_succ]
        clear hB14 hK K hS13
        refine wpAnyH_all (rs := [4]) (by kernel_rfl) (by simp) ?_
        intro i hi; simp only [List.mem_cons, List.not_mem_nil, or_false] at hi
        subst hi
        refine wpOp_step rfl (fun K hK => ?_)
        go_simp
        with_reducible refine (toPhoto_any ps2 v14).mono ?_
        rintro e v15 ⟨rfl, hB15⟩
        replace rgw := rgw.below hB15 rgw.lt
        replace sk := sk.below hB15 sk.1
        replace rd1 := rd1.below hB15 rd1.lt
        replace rd2 := rd2.below hB15 rd2.lt
        replace rg := rg.below hB15 rg.lt
        replace bR := bR.trans (hB15.mono bR.size)
        have hS15 : (fun W' : World => Row W' w.heap.size 25 (phL ps1) ∧ Row W' (w.heap.size + 1) 25 (phL ps2)) v15 := ⟨rd1, rd2⟩
        refine hK _ _ ⟨hS15, ?_⟩
        try simp only [Act.put, List.setIfInBounds_toArray, List.set_cons_zero, List.set_cons_succ]
        clear hB15 hK K hS14
        refine wpAnyH_all (rs := [5]) (by kernel_rfl) (by simp) ?_
        intro i hi; simp only [List.mem_cons, List.not_mem_nil, or_false] at hi
        subst hi
        refine wpOp_step rfl (fun K hK => ?_)
        go_simp
        with_reducible refine (implMeetPhotos_any _ len len zs ps1 ps2 v15 sk hL.out.symm HP1.out HP2.out).mono ?_
        rintro e v16 ⟨rfl, hB16⟩
        replace rgw := rgw.below hB16 rgw.lt
        replace sk := sk.below hB16 sk.1
        replace rd1 := rd1.below hB16 rd1.lt
        replace rd2 := rd2.below hB16 rd2.lt
        replace rg := rg.below hB16 rg.lt
        replace bR := bR.trans (hB16.mono bR.size)
        have hS16 : (fun W' : World => Row W' w.heap.size 25 (phL ps1) ∧ Row W' (w.heap.size + 1) 25 (phL ps2)) v16 := ⟨rd1, rd2⟩
        refine hK _ _ ⟨hS16, ?_⟩
        try simp only [Act.put, List.setIfInBounds_toArray, List.set_cons_zero, List.set_cons_succ]
        clear hB16 hK K hS15
        refine wpAnyH_takeD (some 27) (i := 6) (v := ?_) rfl rfl (by kernel_rfl) (by kernel_rfl) (by kernel_rfl) (fun _ _ _ h => h) (.inl ⟨by kernel_rfl, ?_⟩) hS16 ?_
        rotate_left
        · intro w' hw'; go_simp; try with_reducible rfl
        try simp only [Act.put, List.setIfInBounds_toArray, List.set_cons_zero, List.set_cons_succ]
        refine wpAnyH_takeD (some 34) (i := 7) (v := ?_) rfl rfl (by kernel_rfl) (by kernel_rfl) (by kernel_rfl) (fun _ _ _ h => h) (.inl ⟨by kernel_rfl, ?_⟩) hS16 ?_
        rotate_left
        · intro w' hw'; go_simp; try with_reducible rfl
        try simp only [Act.put, List.setIfInBounds_toArray, List.set_cons_zero, List.set_cons_succ]
        refine wpAnyH_takeD (some 35) (i := 8) (v := ?_) rfl rfl (by kernel_rfl) (by kernel_rfl) (by kernel_rfl) (fun _ _ _ h => h) (.inl ⟨by kernel_rfl, ?_⟩) hS16 ?_
        rotate_left
        · intro w' hw'; go_simp; try with_reducible rfl
        try simp only [Act.put, List.setIfInBounds_toArray, List.set_cons_zero, List.set_cons_succ]
        refine wpAnyH_all (rs := [10]) (by kernel_rfl) (by simp) ?_
        intro i hi; simp only [List.mem_cons, List.not_mem_nil, or_false] at hi
        subst hi
        refine wpOp_step rfl (fun K hK => ?_)
        rw [if_pos (by kernel_rfl)]
        refine wp_store_mid 31 (.tmp 10) (.tmp 34) rfl (W0.heap.size) 0 (phL (meetR zs ps1 ps2).1).toArray rfl rfl (by rw [sz16]; exact rg.there 16 rfl) (by rw [sz16]; exact hi) (all_oneCell_toArray (phL_one _)) ?_
        have hA : Below (W0.heap.size) v16 (v16.setCells (W0.heap.size) 0 (phL (meetR zs ps1 ps2).1)) := below_setCells (phL (meetR zs ps1 ps2).1) 0 _ (Below.refl _ _) (Nat.le_refl _)
        replace rgw := rgw.below hA (Nat.lt_of_lt_of_le l_rgw lg)
        replace sk := sk.below hA (Nat.lt_of_lt_of_le l_sk lg)
        replace rd1 := rd1.below hA (Nat.lt_of_lt_of_le l_rd1 lg)
        replace rd2 := rd2.below hA (Nat.lt_of_lt_of_le l_rd2 lg)
        replace rg := rg.setCells (ys := (phL (meetR zs ps1 ps2).1)) rfl
        replace bR := below_setCells (phL (meetR zs ps1 ps2).1) 0 _ bR (g := W0.heap.size) lg
        have hS17 : (fun W' : World => Row W' w.heap.size 25 (phL ps1) ∧ Row W' (w.heap.size + 1) 25 (phL ps2)) (v16.setCells (W0.heap.size) 0 (phL (meetR zs ps1 ps2).1)) := ⟨rd1, rd2⟩
        refine hK _ _ ⟨hS17, ?_⟩
        try simp only [Act.put, List.setIfInBounds_toArray, List.set_cons_zero, List.set_cons_succ]
        obtain ⟨X17, hX17⟩ : ∃ X, X = v16.setCells (W0.heap.size) 0 (phL (meetR zs ps1 ps2).1) := ⟨_, rfl⟩
        rw [← hX17] at rgw sk rd1 rd2 rg bR hS17 ⊢
        clear hX17 hA hK K hS16
        refine wpAnyH_takeD (some 11) (i := 11) (v := ?_) rfl rfl (by kernel_rfl) (by kernel_rfl) (by kernel_rfl) (fun _ _ _ h => h) (.inl ⟨by kernel_rfl, ?_⟩) hS17 ?_
        rotate_left
        · intro w' hw'; go_simp; try with_reducible rfl
        try simp only [Act.put, List.setIfInBounds_toArray, List.set_cons_zero, List.set_cons_succ]
        refine wpAnyH_done (by kernel_rfl) ?_ _
        go_wp2_with fail
        go_meet
        exact ⟨W0.heap.size, _, _, rfl, rfl, rfl, rfl, rgw, rg, sk, bW0.trans (bR.mono bW0.size)⟩
    case rest =>
      obtain ⟨g2, B, W5, rfl, rfl, rfl, rfl, rg, rz, sk, bW⟩ := hcut
      have HRZ := hid rz
      have HRG := hid rg
      have HSK := hid sk
      have HBW := hid bW
      have T1 : True := trivial
      clear sk bW
      go_wp2_with (first | ((with_reducible refine wpList_load_row rfl 31 _ rfl g2 ?_ 31 (phL (meetR zs ps1 ps2).1).toArray (0, 0) _ ?_ Try.underlying31 ?_ ?_ ?_); rfl; exact HRZ.out; rfl; (rw [sz16]; exact hi)) | ((with_reducible refine wpList_load_row rfl 31 _ rfl g ?_ 31 (phL (meetR zs ps1 ps2).1).toArray (0, 0) _ ?_ Try.underlying31 ?_ ?_ ?_); rfl; exact HRG.out; rfl; (rw [sz16]; exact hi)))
      with_reducible refine (eqPhoto_same (meetR zs ps1 ps2).1 _).mono ?_
      rintro e w6 ⟨rfl, hB⟩
      have bW := HBW.out.trans (hB.mono HBW.out.size)
      have sk := HSK.out.below hB HSK.out.1
      clear HRZ HRG HSK HBW rz rg T1 hB
      go_wp2_with fail
      with_reducible refine (toStack_any a len cap zs w6 (hI.out.below bW (Nat.le_refl _)) hlen).mono ?_
      rintro e w7 ⟨rfl, hB, sk2, _⟩
      replace sk := sk.below hB sk.1
      replace bW := bW.trans (hB.mono bW.size)
      clear hB
      go_wp2_with fail
      with_reducible refine (eqStack_same _ _ len len len zs w7 sk sk2 hL.out.symm).mono ?_
      rintro e w8 ⟨rfl, hB⟩
      go_wp2_with fail
      go_ret
      exact ⟨rfl, bW.trans (hB.mono bW.size)⟩
end Go.Proofs.Ytgfdfnlbkljgeaa
