/- The walk of the law WithDigit. -/
import Derived.Test.YtgfdfnlbkljgeaaWiS
import Derived.Test.YtgfdfnlbkljgeaaPhE
import Derived.Test.YtgfdfnlbkljgeaaPhO
import Derived.Deep.DeepCutAuto
namespace Go.Proofs.Ytgfdfnlbkljgeaa
open Go.RowKit
set_option maxRecDepth 100000 in
set_option maxHeartbeats 2000000 in
theorem law_FnExactWithDigit (a : Option Addr) (len cap : Nat) (zs : List Int) (ps1 : List (Int × Int)) (x2 : Int) (x3 : Int) (x4 : Bool) (w : World) (h : InB w a len zs) (hp1 : Ph ps1) (hw2 : (Lit.int .i64 x2).wf = true) (hw3 : (Lit.int .i64 x3).wf = true) :
    Calls Try.prog 7 #[.slice a len cap, .agg (phL ps1).toArray, .int .i64 x2, .int .i64 x3, .bool x4] w fun e w' => e = .returned (.bool true) ∧ Below w.heap.size w w' := by
  have bW : Below w.heap.size w (w.alloc (.cells (phL ps1).toArray 25)) := (Below.refl _ _).alloc (by first | exact Nat.le_refl _ | (simp; done) | (simp; omega)) _
  by_cases hl : 1048576 < len
  · go_enter Try.func7, Try.ntmps7
    go_wp2
    go_ret
    exact ⟨rfl, bW⟩
  have hlen : len ≤ 1048576 := by omega
  have hI := hid h
  have hL := hid h.1
  have HP1 := hid hp1
  clear hp1
  have HX2 := hid hw2
  clear hw2
  have HX3 := hid hw3
  clear hw3
  have hi := Try.infoPhoto
  have hj := Try.infoPhoto'
  have hb1 : ((withR zs ps1 x2 x3 x4).2 != (withR zs ps1 x2 x3 x4).2) = false := by simp
  have rd1 := Row.new w 25 (phL ps1)
  have hbd := hid (show -9223372036854775808 ≤ x3 ∧ x3 ≤ 9223372036854775807 from Go.bounds_i64 HX3.out)
  clear h
  go_enter Try.func7, Try.ntmps7
  go_upto_region 3 with fail
  go_cut [11, 12] (fun s11 s12 wx => ∃ (g : Nat) (W : World), W = wx ∧ s11 = .pointer (some ⟨g, 0, none⟩) ∧ s12 = .int .i64 (withR zs ps1 x2 x3 x4).2 ∧ Row W g 31 (phL (withR zs ps1 x2 x3 x4).1) ∧ Row W (w.heap.size) 25 (phL ps1) ∧ Below w.heap.size w W)
  case first =>
    refine wp_region_held (S := fun W' : World => Row W' w.heap.size 25 (phL ps1)) (by kernel_rfl) ?_
    change wpAnyH _ _ _ _ _ _ _ _ (World.drew _)
    obtain ⟨W0, hW0⟩ : ∃ X, X = World.drew ((w.alloc (.cells (phL ps1).toArray 25))) := ⟨_, rfl⟩
    have hD0 : Below ((w.alloc (.cells (phL ps1).toArray 25))).heap.size ((w.alloc (.cells (phL ps1).toArray 25))) W0 := by rw [hW0]; exact (Below.refl _ _).drew
    replace rd1 := rd1.below hD0 rd1.lt
    have bW0 := bW.trans (hD0.mono bW.size)
    have bR : Below W0.heap.size W0 W0 := Below.refl _ _
    rw [← hW0]
    clear hW0 hD0
    have l_rd1 := rd1.lt
    have hS0 : (fun W' : World => Row W' w.heap.size 25 (phL ps1)) W0 := rd1
    refine wpAnyH_takeD (some 20) (i := 0) (v := ?_) rfl rfl (by kernel_rfl) (by kernel_rfl) (by kernel_rfl) (fun _ _ _ h => h) (.inl ⟨by kernel_rfl, ?_⟩) hS0 ?_
    rotate_left
    · intro w' hw'; go_simp; try with_reducible rfl
    try simp only [Act.put, List.setIfInBounds_toArray, List.set_cons_zero, List.set_cons_succ]
    refine wpAnyH_takeD (some 22) (i := 2) (v := .agg (phL ps1).toArray) rfl rfl (by kernel_rfl) (by kernel_rfl) (by kernel_rfl) (fun _ _ _ h => h) (yieldsIf_load_mid (by kernel_rfl) 25 _ rfl w.heap.size 0 rfl (phL ps1) _ (fun w' hw' => Row.range hw') Try.underlying25 rfl (by rw [phL_len]; exact hj)) hS0 ?_
    try simp only [Act.put, List.setIfInBounds_toArray, List.set_cons_zero, List.set_cons_succ]
    refine wpAnyH_takeD (some 24) (i := 4) (v := ?_) rfl rfl (by kernel_rfl) (by kernel_rfl) (by kernel_rfl) (fun _ _ _ h => h) (.inl ⟨by kernel_rfl, ?_⟩) hS0 ?_
    rotate_left
    · intro w' hw'; go_simp; try with_reducible rfl
    try simp only [Act.put, List.setIfInBounds_toArray, List.set_cons_zero, List.set_cons_succ]
    refine wpAnyH_takeD (some 25) (i := 5) (v := ?_) rfl rfl (by kernel_rfl) (by kernel_rfl) (by kernel_rfl) (fun _ _ _ h => h) (.inl ⟨by kernel_rfl, ?_⟩) hS0 ?_
    rotate_left
    · intro w' hw'; go_simp; try with_reducible rfl
    try simp only [Act.put, List.setIfInBounds_toArray, List.set_cons_zero, List.set_cons_succ]
    refine wpAnyH_takeD (some 26) (i := 6) (v := ?_) rfl rfl (by kernel_rfl) (by kernel_rfl) (by kernel_rfl) (fun _ _ _ h => h) (.inl ⟨by kernel_rfl, ?_⟩) hS0 ?_
    rotate_left
    · intro w' hw'; go_simp; try with_reducible rfl
    try simp only [Act.put, List.setIfInBounds_toArray, List.set_cons_zero, List.set_cons_succ]
    refine wpAnyH_all (rs := [1, 11]) (by kernel_rfl) (by simp) ?_
    intro i hi; simp only [List.mem_cons, List.not_mem_nil, or_false] at hi
    rcases hi with rfl | rfl
    · refine wpOp_step rfl (fun K hK => ?_)
      go_simp
      with_reducible refine (toStack_any a len cap zs W0 (hI.out.below (bW0.trans (bR.mono bW0.size)) (Nat.le_refl _)) hlen).mono ?_
      rintro e v1 ⟨rfl, hB1, sk, _⟩
      replace rd1 := rd1.below hB1 rd1.lt
      replace bR := bR.trans (hB1.mono bR.size)
      have hS1 : (fun W' : World => Row W' w.heap.size 25 (phL ps1)) v1 := rd1
      refine hK _ _ ⟨hS1, ?_⟩
      try simp only [Act.put, List.setIfInBounds_toArray, List.set_cons_zero, List.set_cons_succ]
      clear hB1 hK K hS0
      refine wpAnyH_all (rs := [3, 11]) (by kernel_rfl) (by simp) ?_
      intro i hi; simp only [List.mem_cons, List.not_mem_nil, or_false] at hi
      rcases hi with rfl | rfl
      · refine wpOp_step rfl (fun K hK => ?_)
        go_simp
        with_reducible refine (toPhoto_any ps1 v1).mono ?_
        rintro e v2 ⟨rfl, hB2⟩
        replace rd1 := rd1.below hB2 rd1.lt
        replace sk := sk.below hB2 sk.1
        replace bR := bR.trans (hB2.mono bR.size)
        have hS2 : (fun W' : World => Row W' w.heap.size 25 (phL ps1)) v2 := rd1
        refine hK _ _ ⟨hS2, ?_⟩
        try simp only [Act.put, List.setIfInBounds_toArray, List.set_cons_zero, List.set_cons_succ]
        clear hB2 hK K hS1
        refine wpAnyH_all (rs := [7, 11]) (by kernel_rfl) (by simp) ?_
        intro i hi; simp only [List.mem_cons, List.not_mem_nil, or_false] at hi
        rcases hi with rfl | rfl
        · refine wpOp_step rfl (fun K hK => ?_)
          go_simp
          with_reducible refine (specWithDigit_any _ len len zs ps1 x2 x3 x4 v2 sk hL.out.symm HP1.out hbd.out).mono ?_
          rintro e v3 ⟨rfl, hB3⟩
          replace rd1 := rd1.below hB3 rd1.lt
          replace sk := sk.below hB3 sk.1
          replace bR := bR.trans (hB3.mono bR.size)
          have hS3 : (fun W' : World => Row W' w.heap.size 25 (phL ps1)) v3 := rd1
          refine hK _ _ ⟨hS3, ?_⟩
          try simp only [Act.put, List.setIfInBounds_toArray, List.set_cons_zero, List.set_cons_succ]
          clear hB3 hK K hS2
          refine wpAnyH_takeD (some 19) (i := 8) (v := ?_) rfl rfl (by kernel_rfl) (by kernel_rfl) (by kernel_rfl) (fun _ _ _ h => h) (.inl ⟨by kernel_rfl, ?_⟩) hS3 ?_
          rotate_left
          · intro w' hw'; go_simp; try with_reducible rfl
          try simp only [Act.put, List.setIfInBounds_toArray, List.set_cons_zero, List.set_cons_succ]
          refine wpAnyH_takeD (some 28) (i := 9) (v := ?_) rfl rfl (by kernel_rfl) (by kernel_rfl) (by kernel_rfl) (fun _ _ _ h => h) (.inl ⟨by kernel_rfl, ?_⟩) hS3 ?_
          rotate_left
          · intro w' hw'; go_simp; try with_reducible rfl
          try simp only [Act.put, List.setIfInBounds_toArray, List.set_cons_zero, List.set_cons_succ]
          refine wpAnyH_takeD (some 29) (i := 10) (v := ?_) rfl rfl (by kernel_rfl) (by kernel_rfl) (by kernel_rfl) (fun _ _ _ h => h) (.inl ⟨by kernel_rfl, ?_⟩) hS3 ?_
          rotate_left
          · intro w' hw'; go_simp; try with_reducible rfl
          try simp only [Act.put, List.setIfInBounds_toArray, List.set_cons_zero, List.set_cons_succ]
          refine wpAnyH_all (rs := [11]) (by kernel_rfl) (by simp) ?_
          intro i hi; simp only [List.mem_cons, List.not_mem_nil, or_false] at hi
          subst hi
          refine wpOp_step rfl (fun K hK => ?_)
          go_simp
          have rg := (Row.new v3 31 [.int .u64 0, .int .u64 0, .int .u64 0, .int .u64 0, .int .u64 0, .int .u64 0, .int .u64 0, .int .u64 0, .int .u64 0, .int .u64 0, .int .u64 0, .int .u64 0, .int .u64 0, .int .u64 0, .int .u64 0, .int .u64 0]).zeros
          have hA : Below v3.heap.size v3 (v3.alloc (.cells #[.int .u64 0, .int .u64 0, .int .u64 0, .int .u64 0, .int .u64 0, .int .u64 0, .int .u64 0, .int .u64 0, .int .u64 0, .int .u64 0, .int .u64 0, .int .u64 0, .int .u64 0, .int .u64 0, .int .u64 0, .int .u64 0] 31)) := (Below.refl _ _).alloc (Nat.le_refl _) _
          replace rd1 := rd1.below hA rd1.lt
          replace sk := sk.below hA sk.1
          have lg := bR.size
          replace bR := bR.trans (hA.mono bR.size)
          have hS4 : (fun W' : World => Row W' w.heap.size 25 (phL ps1)) (v3.alloc (.cells #[.int .u64 0, .int .u64 0, .int .u64 0, .int .u64 0, .int .u64 0, .int .u64 0, .int .u64 0, .int .u64 0, .int .u64 0, .int .u64 0, .int .u64 0, .int .u64 0, .int .u64 0, .int .u64 0, .int .u64 0, .int .u64 0] 31)) := rd1
          refine hK _ _ ⟨hS4, ?_⟩
          try simp only [Act.put, List.setIfInBounds_toArray, List.set_cons_zero, List.set_cons_succ]
          obtain ⟨X4, hX4⟩ : ∃ X, X = v3.alloc (.cells #[.int .u64 0, .int .u64 0, .int .u64 0, .int .u64 0, .int .u64 0, .int .u64 0, .int .u64 0, .int .u64 0, .int .u64 0, .int .u64 0, .int .u64 0, .int .u64 0, .int .u64 0, .int .u64 0, .int .u64 0, .int .u64 0] 31) := ⟨_, rfl⟩
          rw [← hX4] at rd1 sk rg bR hS4 ⊢
          clear hX4 hA hK K hS3
          refine wpAnyH_all (rs := [12]) (by kernel_rfl) (by simp) ?_
          intro i hi; simp only [List.mem_cons, List.not_mem_nil, or_false] at hi
          subst hi
          refine wpOp_step rfl (fun K hK => ?_)
          rw [if_pos (by kernel_rfl)]
          refine wp_store_mid 31 (.tmp 11) (.tmp 28) rfl (v3.heap.size) 0 (phL (withR zs ps1 x2 x3 x4).1).toArray rfl rfl (by rw [sz16]; exact rg.there 16 rfl) (by rw [sz16]; exact hi) (all_oneCell_toArray (phL_one _)) ?_
          have hA : Below (v3.heap.size) X4 (X4.setCells (v3.heap.size) 0 (phL (withR zs ps1 x2 x3 x4).1)) := below_setCells (phL (withR zs ps1 x2 x3 x4).1) 0 _ (Below.refl _ _) (Nat.le_refl _)
          replace rd1 := rd1.below hA (Nat.lt_of_lt_of_le l_rd1 lg)
          replace rg := rg.setCells (ys := (phL (withR zs ps1 x2 x3 x4).1)) rfl
          replace bR := below_setCells (phL (withR zs ps1 x2 x3 x4).1) 0 _ bR (g := v3.heap.size) lg
          have hS5 : (fun W' : World => Row W' w.heap.size 25 (phL ps1)) (X4.setCells (v3.heap.size) 0 (phL (withR zs ps1 x2 x3 x4).1)) := rd1
          refine hK _ _ ⟨hS5, ?_⟩
          try simp only [Act.put, List.setIfInBounds_toArray, List.set_cons_zero, List.set_cons_succ]
          obtain ⟨X5, hX5⟩ : ∃ X, X = X4.setCells (v3.heap.size) 0 (phL (withR zs ps1 x2 x3 x4).1) := ⟨_, rfl⟩
          rw [← hX5] at rd1 rg bR hS5 ⊢
          clear hX5 hA hK K hS4
          refine wpAnyH_takeD (some 12) (i := 13) (v := ?_) rfl rfl (by kernel_rfl) (by kernel_rfl) (by kernel_rfl) (fun _ _ _ h => h) (.inl ⟨by kernel_rfl, ?_⟩) hS5 ?_
          rotate_left
          · intro w' hw'; go_simp; try with_reducible rfl
          try simp only [Act.put, List.setIfInBounds_toArray, List.set_cons_zero, List.set_cons_succ]
          refine wpAnyH_done (by kernel_rfl) ?_ _
          go_wp2_with fail
          go_meet
          exact ⟨v3.heap.size, _, rfl, rfl, rfl, rg, rd1, bW0.trans (bR.mono bW0.size)⟩
        · refine wpOp_step rfl (fun K hK => ?_)
          go_simp
          have rg := (Row.new v2 31 [.int .u64 0, .int .u64 0, .int .u64 0, .int .u64 0, .int .u64 0, .int .u64 0, .int .u64 0, .int .u64 0, .int .u64 0, .int .u64 0, .int .u64 0, .int .u64 0, .int .u64 0, .int .u64 0, .int .u64 0, .int .u64 0]).zeros
          have hA : Below v2.heap.size v2 (v2.alloc (.cells #[.int .u64 0, .int .u64 0, .int .u64 0, .int .u64 0, .int .u64 0, .int .u64 0, .int .u64 0, .int .u64 0, .int .u64 0, .int .u64 0, .int .u64 0, .int .u64 0, .int .u64 0, .int .u64 0, .int .u64 0, .int .u64 0] 31)) := (Below.refl _ _).alloc (Nat.le_refl _) _
          replace rd1 := rd1.below hA rd1.lt
          replace sk := sk.below hA sk.1
          have lg := bR.size
          replace bR := bR.trans (hA.mono bR.size)
          have hS6 : (fun W' : World => Row W' w.heap.size 25 (phL ps1)) (v2.alloc (.cells #[.int .u64 0, .int .u64 0, .int .u64 0, .int .u64 0, .int .u64 0, .int .u64 0, .int .u64 0, .int .u64 0, .int .u64 0, .int .u64 0, .int .u64 0, .int .u64 0, .int .u64 0, .int .u64 0, .int .u64 0, .int .u64 0] 31)) := rd1
          refine hK _ _ ⟨hS6, ?_⟩
          try simp only [Act.put, List.setIfInBounds_toArray, List.set_cons_zero, List.set_cons_succ]
          obtain ⟨X6, hX6⟩ : ∃ X, X = v2.alloc (.cells #[.int .u64 0, .int .u64 0, .int .u64 0, .int .u64 0, .int .u64 0, .int .u64 0, .int .u64 0, .int .u64 0, .int .u64 0, .int .u64 0, .int .u64 0, .int .u64 0, .int .u64 0, .int .u64 0, .int .u64 0, .int .u64 0] 31) := ⟨_, rfl⟩
          rw [← hX6] at rd1 sk rg bR hS6 ⊢
          clear hX6 hA hK K hS2
          refine wpAnyH_all (rs := [7]) (by kernel_rfl) (by simp) ?_
          intro i hi; simp only [List.mem_cons, List.not_mem_nil, or_false] at hi
          subst hi
          refine wpOp_step rfl (fun K hK => ?_)
          go_simp
          with_reducible refine (specWithDigit_any _ len len zs ps1 x2 x3 x4 X6 sk hL.out.symm HP1.out hbd.out).mono ?_
          rintro e v7 ⟨rfl, hB7⟩
          replace rd1 := rd1.below hB7 rd1.lt
          replace sk := sk.below hB7 sk.1
          replace rg := rg.below hB7 rg.lt
          replace bR := bR.trans (hB7.mono bR.size)
          have hS7 : (fun W' : World => Row W' w.heap.size 25 (phL ps1)) v7 := rd1
          refine hK _ _ ⟨hS7, ?_⟩
          try simp only [Act.put, List.setIfInBounds_toArray, List.set_cons_zero, List.set_cons_succ]
          clear hB7 hK K hS6
          refine wpAnyH_takeD (some 19) (i := 8) (v := ?_) rfl rfl (by kernel_rfl) (by kernel_rfl) (by kernel_rfl) (fun _ _ _ h => h) (.inl ⟨by kernel_rfl, ?_⟩) hS7 ?_
          rotate_left
          · intro w' hw'; go_simp; try with_reducible rfl
          try simp only [Act.put, List.setIfInBounds_toArray, List.set_cons_zero, List.set_cons_succ]
          refine wpAnyH_takeD (some 28) (i := 9) (v := ?_) rfl rfl (by kernel_rfl) (by kernel_rfl) (by kernel_rfl) (fun _ _ _ h => h) (.inl ⟨by kernel_rfl, ?_⟩) hS7 ?_
          rotate_left
          · intro w' hw'; go_simp; try with_reducible rfl
          try simp only [Act.put, List.setIfInBounds_toArray, List.set_cons_zero, List.set_cons_succ]
          refine wpAnyH_takeD (some 29) (i := 10) (v := ?_) rfl rfl (by kernel_rfl) (by kernel_rfl) (by kernel_rfl) (fun _ _ _ h => h) (.inl ⟨by kernel_rfl, ?_⟩) hS7 ?_
          rotate_left
          · intro w' hw'; go_simp; try with_reducible rfl
          try simp only [Act.put, List.setIfInBounds_toArray, List.set_cons_zero, List.set_cons_succ]
          refine wpAnyH_all (rs := [12]) (by kernel_rfl) (by simp) ?_
          intro i hi; simp only [List.mem_cons, List.not_mem_nil, or_false] at hi
          subst hi
          refine wpOp_step rfl (fun K hK => ?_)
          rw [if_pos (by kernel_rfl)]
          refine wp_store_mid 31 (.tmp 11) (.tmp 28) rfl (v2.heap.size) 0 (phL (withR zs ps1 x2 x3 x4).1).toArray rfl rfl (by rw [sz16]; exact rg.there 16 rfl) (by rw [sz16]; exact hi) (all_oneCell_toArray (phL_one _)) ?_
          have hA : Below (v2.heap.size) v7 (v7.setCells (v2.heap.size) 0 (phL (withR zs ps1 x2 x3 x4).1)) := below_setCells (phL (withR zs ps1 x2 x3 x4).1) 0 _ (Below.refl _ _) (Nat.le_refl _)
          replace rd1 := rd1.below hA (Nat.lt_of_lt_of_le l_rd1 lg)
          replace rg := rg.setCells (ys := (phL (withR zs ps1 x2 x3 x4).1)) rfl
          replace bR := below_setCells (phL (withR zs ps1 x2 x3 x4).1) 0 _ bR (g := v2.heap.size) lg
          have hS8 : (fun W' : World => Row W' w.heap.size 25 (phL ps1)) (v7.setCells (v2.heap.size) 0 (phL (withR zs ps1 x2 x3 x4).1)) := rd1
          refine hK _ _ ⟨hS8, ?_⟩
          try simp only [Act.put, List.setIfInBounds_toArray, List.set_cons_zero, List.set_cons_succ]
          obtain ⟨X8, hX8⟩ : ∃ X, X = v7.setCells (v2.heap.size) 0 (phL (withR zs ps1 x2 x3 x4).1) := ⟨_, rfl⟩
          rw [← hX8] at rd1 rg bR hS8 ⊢
          clear hX8 hA hK K hS7
          refine wpAnyH_takeD (some 12) (i := 13) (v := ?_) rfl rfl (by kernel_rfl) (by kernel_rfl) (by kernel_rfl) (fun _ _ _ h => h) (.inl ⟨by kernel_rfl, ?_⟩) hS8 ?_
          rotate_left
          · intro w' hw'; go_simp; try with_reducible rfl
          try simp only [Act.put, List.setIfInBounds_toArray, List.set_cons_zero, List.set_cons_succ]
          refine wpAnyH_done (by kernel_rfl) ?_ _
          go_wp2_with fail
          go_meet
          exact ⟨v2.heap.size, _, rfl, rfl, rfl, rg, rd1, bW0.trans (bR.mono bW0.size)⟩
      · refine wpOp_step rfl (fun K hK => ?_)
        go_simp
        have rg := (Row.new v1 31 [.int .u64 0, .int .u64 0, .int .u64 0, .int .u64 0, .int .u64 0, .int .u64 0, .int .u64 0, .int .u64 0, .int .u64 0, .int .u64 0, .int .u64 0, .int .u64 0, .int .u64 0, .int .u64 0, .int .u64 0, .int .u64 0]).zeros
        have hA : Below v1.heap.size v1 (v1.alloc (.cells #[.int .u64 0, .int .u64 0, .int .u64 0, .int .u64 0, .int .u64 0, .int .u64 0, .int .u64 0, .int .u64 0, .int .u64 0, .int .u64 0, .int .u64 0, .int .u64 0, .int .u64 0, .int .u64 0, .int .u64 0, .int .u64 0] 31)) := (Below.refl _ _).alloc (Nat.le_refl _) _
        replace rd1 := rd1.below hA rd1.lt
        replace sk := sk.below hA sk.1
        have lg := bR.size
        replace bR := bR.trans (hA.mono bR.size)
        have hS9 : (fun W' : World => Row W' w.heap.size 25 (phL ps1)) (v1.alloc (.cells #[.int .u64 0, .int .u64 0, .int .u64 0, .int .u64 0, .int .u64 0, .int .u64 0, .int .u64 0, .int .u64 0, .int .u64 0, .int .u64 0, .int .u64 0, .int .u64 0, .int .u64 0, .int .u64 0, .int .u64 0, .int .u64 0] 31)) := rd1
        refine hK _ _ ⟨hS9, ?_⟩
        try simp only [Act.put, List.setIfInBounds_toArray, List.set_cons_zero, List.set_cons_succ]
        obtain ⟨X9, hX9⟩ : ∃ X, X = v1.alloc (.cells #[.int .u64 0, .int .u64 0, .int .u64 0, .int .u64 0, .int .u64 0, .int .u64 0, .int .u64 0, .int .u64 0, .int .u64 0, .int .u64 0, .int .u64 0, .int .u64 0, .int .u64 0, .int .u64 0, .int .u64 0, .int .u64 0] 31) := ⟨_, rfl⟩
        rw [← hX9] at rd1 sk rg bR hS9 ⊢
        clear hX9 hA hK K hS1
        refine wpAnyH_all (rs := [3]) (by kernel_rfl) (by simp) ?_
        intro i hi; simp only [List.mem_cons, List.not_mem_nil, or_false] at hi
        subst hi
        refine wpOp_step rfl (fun K hK => ?_)
        go_simp
        with_reducible refine (toPhoto_any ps1 X9).mono ?_
        rintro e v10 ⟨rfl, hB10⟩
        replace rd1 := rd1.below hB10 rd1.lt
        replace sk := sk.below hB10 sk.1
        replace rg := rg.below hB10 rg.lt
        replace bR := bR.trans (hB10.mono bR.size)
        have hS10 : (fun W' : World => Row W' w.heap.size 25 (phL ps1)) v10 := rd1
        refine hK _ _ ⟨hS10, ?_⟩
        try simp only [Act.put, List.setIfInBounds_toArray, List.set_cons_zero, List.set_cons_succ]
        clear hB10 hK K hS9
        refine wpAnyH_all (rs := [7]) (by kernel_rfl) (by simp) ?_
        intro i hi; simp only [List.mem_cons, List.not_mem_nil, or_false] at hi
        subst hi
        refine wpOp_step rfl (fun K hK => ?_)
        go_simp
        with_reducible refine (specWithDigit_any _ len len zs ps1 x2 x3 x4 v10 sk hL.out.symm HP1.out hbd.out).mono ?_
        rintro e v11 ⟨rfl, hB11⟩
        replace rd1 := rd1.below hB11 rd1.lt
        replace sk := sk.below hB11 sk.1
        replace rg := rg.below hB11 rg.lt
        replace bR := bR.trans (hB11.mono bR.size)
        have hS11 : (fun W' : World => Row W' w.heap.size 25 (phL ps1)) v11 := rd1
        refine hK _ _ ⟨hS11, ?_⟩
        try simp only [Act.put, List.setIfInBounds_toArray, List.set_cons_zero, List.set_cons_succ]
        clear hB11 hK K hS10
        refine wpAnyH_takeD (some 19) (i := 8) (v := ?_) rfl rfl (by kernel_rfl) (by kernel_rfl) (by kernel_rfl) (fun _ _ _ h => h) (.inl ⟨by kernel_rfl, ?_⟩) hS11 ?_
        rotate_left
        · intro w' hw'; go_simp; try with_reducible rfl
        try simp only [Act.put, List.setIfInBounds_toArray, List.set_cons_zero, List.set_cons_succ]
        refine wpAnyH_takeD (some 28) (i := 9) (v := ?_) rfl rfl (by kernel_rfl) (by kernel_rfl) (by kernel_rfl) (fun _ _ _ h => h) (.inl ⟨by kernel_rfl, ?_⟩) hS11 ?_
        rotate_left
        · intro w' hw'; go_simp; try with_reducible rfl
        try simp only [Act.put, List.setIfInBounds_toArray, List.set_cons_zero, List.set_cons_succ]
        refine wpAnyH_takeD (some 29) (i := 10) (v := ?_) rfl rfl (by kernel_rfl) (by kernel_rfl) (by kernel_rfl) (fun _ _ _ h => h) (.inl ⟨by kernel_rfl, ?_⟩) hS11 ?_
        rotate_left
        · intro w' hw'; go_simp; try with_reducible rfl
        try simp only [Act.put, List.setIfInBounds_toArray, List.set_cons_zero, List.set_cons_succ]
        refine wpAnyH_all (rs := [12]) (by kernel_rfl) (by simp) ?_
        intro i hi; simp only [List.mem_cons, List.not_mem_nil, or_false] at hi
        subst hi
        refine wpOp_step rfl (fun K hK => ?_)
        rw [if_pos (by kernel_rfl)]
        refine wp_store_mid 31 (.tmp 11) (.tmp 28) rfl (v1.heap.size) 0 (phL (withR zs ps1 x2 x3 x4).1).toArray rfl rfl (by rw [sz16]; exact rg.there 16 rfl) (by rw [sz16]; exact hi) (all_oneCell_toArray (phL_one _)) ?_
        have hA : Below (v1.heap.size) v11 (v11.setCells (v1.heap.size) 0 (phL (withR zs ps1 x2 x3 x4).1)) := below_setCells (phL (withR zs ps1 x2 x3 x4).1) 0 _ (Below.refl _ _) (Nat.le_refl _)
        replace rd1 := rd1.below hA (Nat.lt_of_lt_of_le l_rd1 lg)
        replace rg := rg.setCells (ys := (phL (withR zs ps1 x2 x3 x4).1)) rfl
        replace bR := below_setCells (phL (withR zs ps1 x2 x3 x4).1) 0 _ bR (g := v1.heap.size) lg
        have hS12 : (fun W' : World => Row W' w.heap.size 25 (phL ps1)) (v11.setCells (v1.heap.size) 0 (phL (withR zs ps1 x2 x3 x4).1)) := rd1
        refine hK _ _ ⟨hS12, ?_⟩
        try simp only [Act.put, List.setIfInBounds_toArray, List.set_cons_zero, List.set_cons_succ]
        obtain ⟨X12, hX12⟩ : ∃ X, X = v11.setCells (v1.heap.size) 0 (phL (withR zs ps1 x2 x3 x4).1) := ⟨_, rfl⟩
        rw [← hX12] at rd1 rg bR hS12 ⊢
        clear hX12 hA hK K hS11
        refine wpAnyH_takeD (some 12) (i := 13) (v := ?_) rfl rfl (by kernel_rfl) (by kernel_rfl) (by kernel_rfl) (fun _ _ _ h => h) (.inl ⟨by kernel_rfl, ?_⟩) hS12 ?_
        rotate_left
        · intro w' hw'; go_simp; try with_reducible rfl
        try simp only [Act.put, List.setIfInBounds_toArray, List.set_cons_zero, List.set_cons_succ]
        refine wpAnyH_done (by kernel_rfl) ?_ _
        go_wp2_with fail
        go_meet
        exact ⟨v1.heap.size, _, rfl, rfl, rfl, rg, rd1, bW0.trans (bR.mono bW0.size)⟩
    · refine wpOp_step rfl (fun K hK => ?_)
      go_simp
      have rg := (Row.new W0 31 [.int .u64 0, .int .u64 0, .int .u64 0, .int .u64 0, .int .u64 0, .int .u64 0, .int .u64 0, .int .u64 0, .int .u64 0, .int .u64 0, .int .u64 0, .int .u64 0, .int .u64 0, .int .u64 0, .int .u64 0, .int .u64 0]).zeros
      have hA : Below W0.heap.size W0 (W0.alloc (.cells #[.int .u64 0, .int .u64 0, .int .u64 0, .int .u64 0, .int .u64 0, .int .u64 0, .int .u64 0, .int .u64 0, .int .u64 0, .int .u64 0, .int .u64 0, .int .u64 0, .int .u64 0, .int .u64 0, .int .u64 0, .int .u64 0] 31)) := (Below.refl _ _).alloc (Nat.le_refl _) _
      replace rd1 := rd1.below hA rd1.lt
      have lg := bR.size
      replace bR := bR.trans (hA.mono bR.size)
      have hS13 : (fun W' : World => Row W' w.heap.size 25 (phL ps1)) (W0.alloc (.cells #[.int .u64 0, .int .u64 0, .int .u64 0, .int .u64 0, .int .u64 0, .int .u64 0, .int .u64 0, .int .u64 0, .int .u64 0, .int .u64 0, .int .u64 0, .int .u64 0, .int .u64 0, .int .u64 0, .int .u64 0, .int .u64 0] 31)) := rd1
      refine hK _ _ ⟨hS13, ?_⟩
      try simp only [Act.put, List.setIfInBounds_toArray, List.set_cons_zero, List.set_cons_succ]
      obtain ⟨X13, hX13⟩ : ∃ X, X = W0.alloc (.cells #[.int .u64 0, .int .u64 0, .int .u64 0, .int .u64 0, .int .u64 0, .int .u64 0, .int .u64 0, .int .u64 0, .int .u64 0, .int .u64 0, .int .u64 0, .int .u64 0, .int .u64 0, .int .u64 0, .int .u64 0, .int .u64 0] 31) := ⟨_, rfl⟩
      rw [← hX13] at rd1 rg bR hS13 ⊢
      clear hX13 hA hK K hS0
      refine wpAnyH_all (rs := [1]) (by kernel_rfl) (by simp) ?_
      intro i hi; simp only [List.mem_cons, List.not_mem_nil, or_false] at hi
      subst hi
      refine wpOp_step rfl (fun K hK => ?_)
      go_simp
      with_reducible refine (toStack_any a len cap zs X13 (hI.out.below (bW0.trans (bR.mono bW0.size)) (Nat.le_refl _)) hlen).mono ?_
      rintro e v14 ⟨rfl, hB14, sk, _⟩
      replace rd1 := rd1.below hB14 rd1.lt
      replace rg := rg.below hB14 rg.lt
      replace bR := bR.trans (hB14.mono bR.size)
      have hS14 : (fun W' : World => Row W' w.heap.size 25 (phL ps1)) v14 := rd1
      refine hK _ _ ⟨hS14, ?_⟩
      try simp only [Act.put, List.setIfInBounds_toArray, List.set_cons_zero, List.set_cons_succ]
      clear hB14 hK K hS13
      refine wpAnyH_all (rs := [3]) (by kernel_rfl) (by simp) ?_
      intro i hi; simp only [List.mem_cons, List.not_mem_nil, or_false] at hi
      subst hi
      refine wpOp_step rfl (fun K hK => ?_)
      go_simp
      with_reducible refine (toPhoto_any ps1 v14).mono ?_
      rintro e v15 ⟨rfl, hB15⟩
      replace rd1 := rd1.below hB15 rd1.lt
      replace sk := sk.below hB15 sk.1
      replace rg := rg.below hB15 rg.lt
      replace bR := bR.trans (hB15.mono bR.size)
      have hS15 : (fun W' : World => Row W' w.heap.size 25 (phL ps1)) v15 := rd1
      refine hK _ _ ⟨hS15, ?_⟩
      try simp only [Act.put, List.setIfInBounds_toArray, List.set_cons_zero, List.set_cons_succ]
      clear hB15 hK K hS14
      refine wpAnyH_all (rs := [7]) (by kernel_rfl) (by simp) ?_
      intro i hi; simp only [List.mem_cons, List.not_mem_nil, or_false] at hi
      subst hi
      refine wpOp_step rfl (fun K hK => ?_)
      go_simp
      with_reducible refine (specWithDigit_any _ len len zs ps1 x2 x3 x4 v15 sk hL.out.symm HP1.out hbd.out).mono ?_
      rintro e v16 ⟨rfl, hB16⟩
      replace rd1 := rd1.below hB16 rd1.lt
      replace sk := sk.below hB16 sk.1
      replace rg := rg.below hB16 rg.lt
      replace bR := bR.trans (hB16.mono bR.size)
      have hS16 : (fun W' : World => Row W' w.heap.size 25 (phL ps1)) v16 := rd1
      refine hK _ _ ⟨hS16, ?_⟩
      try simp only [Act.put, List.setIfInBounds_toArray, List.set_cons_zero, List.set_cons_succ]
      clear hB16 hK K hS15
      refine wpAnyH_takeD (some 19) (i := 8) (v := ?_) rfl rfl (by kernel_rfl) (by kernel_rfl) (by kernel_rfl) (fun _ _ _ h => h) (.inl ⟨by kernel_rfl, ?_⟩) hS16 ?_
      rotate_left
      · intro w' hw'; go_simp; try with_reducible rfl
      try simp only [Act.put, List.setIfInBounds_toArray, List.set_cons_zero, List.set_cons_succ]
      refine wpAnyH_takeD (some 28) (i := 9) (v := ?_) rfl rfl (by kernel_rfl) (by kernel_rfl) (by kernel_rfl) (fun _ _ _ h => h) (.inl ⟨by kernel_rfl, ?_⟩) hS16 ?_
      rotate_left
      · intro w' hw'; go_simp; try with_reducible rfl
      try simp only [Act.put, List.setIfInBounds_toArray, List.set_cons_zero, List.set_cons_succ]
      refine wpAnyH_takeD (some 29) (i := 10) (v := ?_) rfl rfl (by kernel_rfl) (by kernel_rfl) (by kernel_rfl) (fun _ _ _ h => h) (.inl ⟨by kernel_rfl, ?_⟩) hS16 ?_
      rotate_left
      · intro w' hw'; go_simp; try with_reducible rfl
      try simp only [Act.put, List.setIfInBounds_toArray, List.set_cons_zero, List.set_cons_succ]
      refine wpAnyH_all (rs := [12]) (by kernel_rfl) (by simp) ?_
      intro i hi; simp only [List.mem_cons, List.not_mem_nil, or_false] at hi
      subst hi
      refine wpOp_step rfl (fun K hK => ?_)
      rw [if_pos (by kernel_rfl)]
      refine wp_store_mid 31 (.tmp 11) (.tmp 28) rfl (W0.heap.size) 0 (phL (withR zs ps1 x2 x3 x4).1).toArray rfl rfl (by rw [sz16]; exact rg.there 16 rfl) (by rw [sz16]; exact hi) (all_oneCell_toArray (phL_one _)) ?_
      have hA : Below (W0.heap.size) v16 (v16.setCells (W0.heap.size) 0 (phL (withR zs ps1 x2 x3 x4).1)) := below_setCells (phL (withR zs ps1 x2 x3 x4).1) 0 _ (Below.refl _ _) (Nat.le_refl _)
      replace rd1 := rd1.below hA (Nat.lt_of_lt_of_le l_rd1 lg)
      replace rg := rg.setCells (ys := (phL (withR zs ps1 x2 x3 x4).1)) rfl
      replace bR := below_setCells (phL (withR zs ps1 x2 x3 x4).1) 0 _ bR (g := W0.heap.size) lg
      have hS17 : (fun W' : World => Row W' w.heap.size 25 (phL ps1)) (v16.setCells (W0.heap.size) 0 (phL (withR zs ps1 x2 x3 x4).1)) := rd1
      refine hK _ _ ⟨hS17, ?_⟩
      try simp only [Act.put, List.setIfInBounds_toArray, List.set_cons_zero, List.set_cons_succ]
      obtain ⟨X17, hX17⟩ : ∃ X, X = v16.setCells (W0.heap.size) 0 (phL (withR zs ps1 x2 x3 x4).1) := ⟨_, rfl⟩
      rw [← hX17] at rd1 rg bR hS17 ⊢
      clear hX17 hA hK K hS16
      refine wpAnyH_takeD (some 12) (i := 13) (v := ?_) rfl rfl (by kernel_rfl) (by kernel_rfl) (by kernel_rfl) (fun _ _ _ h => h) (.inl ⟨by kernel_rfl, ?_⟩) hS17 ?_
      rotate_left
      · intro w' hw'; go_simp; try with_reducible rfl
      try simp only [Act.put, List.setIfInBounds_toArray, List.set_cons_zero, List.set_cons_succ]
      refine wpAnyH_done (by kernel_rfl) ?_ _
      go_wp2_with fail
      go_meet
      exact ⟨W0.heap.size, _, rfl, rfl, rfl, rg, rd1, bW0.trans (bR.mono bW0.size)⟩
  case rest =>
    clear rd1 bW
    obtain ⟨g, W, rfl, rfl, rfl, rg, rd1, bW⟩ := hcut
    go_wp2_with fail
    with_reducible refine (toStack_any a len cap zs W (hI.out.below bW (Nat.le_refl _)) hlen).mono ?_
    rintro e w3 ⟨rfl, hB, sk, _⟩
    replace rd1 := rd1.below hB rd1.lt
    replace rg := rg.below hB rg.lt
    replace bW := bW.trans (hB.mono bW.size)
    clear hB
    have HR := hid rd1
    go_wp2_with ((with_reducible refine wpList_load_row rfl 25 _ rfl w.heap.size ?_ 25 (phL ps1).toArray (0, 0) _ ?_ Try.underlying25 ?_ ?_ ?_); rfl; exact HR.out; rfl; (rw [sz16]; exact hj))
    clear HR
    with_reducible refine (toPhoto_any ps1 w3).mono ?_
    rintro e w4 ⟨rfl, hB⟩
    replace rd1 := rd1.below hB rd1.lt
    replace rg := rg.below hB rg.lt
    replace sk := sk.below hB sk.1
    replace bW := bW.trans (hB.mono bW.size)
    clear hB
    go_wp2_with fail
    with_reducible refine (implWithDigit_any _ len len zs ps1 x2 x3 x4 w4 sk hL.out.symm HP1.out hbd.out).mono ?_
    rintro e w5 ⟨rfl, hB⟩
    replace rd1 := rd1.below hB rd1.lt
    replace rg := rg.below hB rg.lt
    replace sk := sk.below hB sk.1
    replace bW := bW.trans (hB.mono bW.size)
    clear hB
    have rz := (Row.new w5 31 [.int .u64 0, .int .u64 0, .int .u64 0, .int .u64 0, .int .u64 0, .int .u64 0, .int .u64 0, .int .u64 0, .int .u64 0, .int .u64 0, .int .u64 0, .int .u64 0, .int .u64 0, .int .u64 0, .int .u64 0, .int .u64 0]).zeros
    have hA : Below w5.heap.size w5 (w5.alloc (.cells #[.int .u64 0, .int .u64 0, .int .u64 0, .int .u64 0, .int .u64 0, .int .u64 0, .int .u64 0, .int .u64 0, .int .u64 0, .int .u64 0, .int .u64 0, .int .u64 0, .int .u64 0, .int .u64 0, .int .u64 0, .int .u64 0] 31)) := (Below.refl _ _).alloc (Nat.le_refl _) _
    have hA2 := below_setCells (phL (withR zs ps1 x2 x3 x4).1) 0 _ hA (g := w5.heap.size) (Nat.le_refl _)
    have T1 := rz.there 16 rfl
    replace rz := rz.setCells (ys := (phL (withR zs ps1 x2 x3 x4).1)) rfl
    replace rg := rg.below hA2 rg.lt
    replace sk := sk.below hA2 sk.1
    replace bW := bW.trans (hA2.mono bW.size)
    have HRZ := hid rz
    have HRG := hid rg
    have HSK := hid sk
    have HBW := hid bW
    clear rd1 hA hA2 sk bW
    go_wp2_with (first | ((with_reducible refine wpList_store_mid rfl 31 _ _ rfl w5.heap.size 0 (phL (withR zs ps1 x2 x3 x4).1).toArray ?_ ?_ ?_ ?_ (all_oneCell_toArray (phL_one _)) ?_); rfl; rfl; (rw [sz16]; exact T1); (rw [sz16]; exact hi)) | ((with_reducible refine wpList_load_row rfl 31 _ rfl w5.heap.size ?_ 31 (phL (withR zs ps1 x2 x3 x4).1).toArray (0, 0) _ ?_ Try.underlying31 ?_ ?_ ?_); rfl; exact HRZ.out; rfl; (rw [sz16]; exact hi)) | ((with_reducible refine wpList_load_row rfl 31 _ rfl g ?_ 31 (phL (withR zs ps1 x2 x3 x4).1).toArray (0, 0) _ ?_ Try.underlying31 ?_ ?_ ?_); rfl; exact HRG.out; rfl; (rw [sz16]; exact hi)))
    with_reducible refine (eqPhoto_same (withR zs ps1 x2 x3 x4).1 _).mono ?_
    rintro e w6 ⟨rfl, hB⟩
    have bW := HBW.out.trans (hB.mono HBW.out.size)
    have sk := HSK.out.below hB HSK.out.1
    clear HRZ HRG HSK HBW rz rg T1 hB
    go_wp2_with fail
    with_reducible refine (toStack_any a len cap zs w6 (hI.out.below bW (Nat.le_refl _)) hlen).mono ?_
    rintro e w7 ⟨rfl, hB, sk2, _⟩
    replace sk := sk.below hB sk.1
    replace bW := bW.trans (hB.mono bW.size)
    clear hB
    go_wp2_with fail
    with_reducible refine (eqStack_same _ _ len len len zs w7 sk sk2 hL.out.symm).mono ?_
    rintro e w8 ⟨rfl, hB⟩
    go_wp2_with fail
    go_ret
    exact ⟨rfl, bW.trans (hB.mono bW.size)⟩
end Go.Proofs.Ytgfdfnlbkljgeaa
