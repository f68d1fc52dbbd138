/- The walk of the law Shows. -/
import Derived.Test.YtgfdfnlbkljgeaaShB
import Derived.Test.YtgfdfnlbkljgeaaPhE
import Derived.Test.YtgfdfnlbkljgeaaPhO
import Derived.Deep.DeepCutAuto
namespace Go.Proofs.Ytgfdfnlbkljgeaa
open Go.RowKit
set_option maxRecDepth 100000 in
set_option maxHeartbeats 2000000 in
theorem law_FnExactShows (a : Option Addr) (len cap : Nat) (zs : List Int) (ps1 : List (Int × Int)) (d0 d1 d2 d3 d4 d5 d6 d7 : Int) (w : World) (h : InB w a len zs) (hp1 : Ph ps1) (ho : Oct d0 d1 d2 d3 d4 d5 d6 d7) :
    Calls Try.prog 9 #[.slice a len cap, .agg (phL ps1).toArray, .agg #[.int .u8 d0, .int .u8 d1, .int .u8 d2, .int .u8 d3, .int .u8 d4, .int .u8 d5, .int .u8 d6, .int .u8 d7]] w fun e w' => e = .returned (.bool true) ∧ Below w.heap.size w w' := by
  have bW : Below w.heap.size w ((w.alloc (.cells (phL ps1).toArray 25)).alloc (.cells #[.int .u8 d0, .int .u8 d1, .int .u8 d2, .int .u8 d3, .int .u8 d4, .int .u8 d5, .int .u8 d6, .int .u8 d7] 35)) := ((Below.refl _ _).alloc (by first | exact Nat.le_refl _ | (simp; done) | (simp; omega)) _).alloc (by first | exact Nat.le_refl _ | (simp; done) | (simp; omega)) _
  by_cases hl : 1048576 < len
  · go_enter Try.func9, Try.ntmps9
    go_wp2
    go_ret
    exact ⟨rfl, bW⟩
  have hlen : len ≤ 1048576 := by omega
  have hI := hid h
  have hL := hid h.1
  have HP1 := hid hp1
  clear hp1
  have HO := hid ho
  clear ho
  have hi := Try.infoPhoto
  have hj := Try.infoPhoto'
  have hb0 : ((showsR zs ps1 [d0, d1, d2, d3, d4, d5, d6, d7]).1 != (showsR zs ps1 [d0, d1, d2, d3, d4, d5, d6, d7]).1) = false := by simp
  have hb1 : ((showsR zs ps1 [d0, d1, d2, d3, d4, d5, d6, d7]).2 != (showsR zs ps1 [d0, d1, d2, d3, d4, d5, d6, d7]).2) = false := by simp
  have rd1 := (Row.new w 25 (phL ps1)).alloc (.cells #[.int .u8 d0, .int .u8 d1, .int .u8 d2, .int .u8 d3, .int .u8 d4, .int .u8 d5, .int .u8 d6, .int .u8 d7] 35)
  have rd2 := Row.new (w.alloc (.cells (phL ps1).toArray 25)) 35 [.int .u8 d0, .int .u8 d1, .int .u8 d2, .int .u8 d3, .int .u8 d4, .int .u8 d5, .int .u8 d6, .int .u8 d7]
  simp only [World.size_alloc] at rd2
  clear h
  go_enter Try.func9, Try.ntmps9
  go_upto_region 3 with fail
  go_cut [7, 8] (fun s7 s8 wx => ∃ (W : World), W = wx ∧ s7 = .bool (showsR zs ps1 [d0, d1, d2, d3, d4, d5, d6, d7]).1 ∧ s8 = .int .i64 (showsR zs ps1 [d0, d1, d2, d3, d4, d5, d6, d7]).2 ∧ Row W (w.heap.size) 25 (phL ps1) ∧ Row W ((w.heap.size + 1)) 35 [.int .u8 d0, .int .u8 d1, .int .u8 d2, .int .u8 d3, .int .u8 d4, .int .u8 d5, .int .u8 d6, .int .u8 d7] ∧ Below w.heap.size w W)
  case first =>
    refine wp_region_held (S := fun W' : World => Row W' w.heap.size 25 (phL ps1) ∧ Row W' (w.heap.size + 1) 35 [.int .u8 d0, .int .u8 d1, .int .u8 d2, .int .u8 d3, .int .u8 d4, .int .u8 d5, .int .u8 d6, .int .u8 d7]) (by kernel_rfl) ?_
    change wpAnyH _ _ _ _ _ _ _ _ (World.drew _)
    obtain ⟨W0, hW0⟩ : ∃ X, X = World.drew (((w.alloc (.cells (phL ps1).toArray 25)).alloc (.cells #[.int .u8 d0, .int .u8 d1, .int .u8 d2, .int .u8 d3, .int .u8 d4, .int .u8 d5, .int .u8 d6, .int .u8 d7] 35))) := ⟨_, rfl⟩
    have hD0 : Below (((w.alloc (.cells (phL ps1).toArray 25)).alloc (.cells #[.int .u8 d0, .int .u8 d1, .int .u8 d2, .int .u8 d3, .int .u8 d4, .int .u8 d5, .int .u8 d6, .int .u8 d7] 35))).heap.size (((w.alloc (.cells (phL ps1).toArray 25)).alloc (.cells #[.int .u8 d0, .int .u8 d1, .int .u8 d2, .int .u8 d3, .int .u8 d4, .int .u8 d5, .int .u8 d6, .int .u8 d7] 35))) W0 := by rw [hW0]; exact (Below.refl _ _).drew
    replace rd1 := rd1.below hD0 rd1.lt
    replace rd2 := rd2.below hD0 rd2.lt
    have bW0 := bW.trans (hD0.mono bW.size)
    have bR : Below W0.heap.size W0 W0 := Below.refl _ _
    rw [← hW0]
    clear hW0 hD0
    have l_rd1 := rd1.lt
    have l_rd2 := rd2.lt
    have hS0 : (fun W' : World => Row W' w.heap.size 25 (phL ps1) ∧ Row W' (w.heap.size + 1) 35 [.int .u8 d0, .int .u8 d1, .int .u8 d2, .int .u8 d3, .int .u8 d4, .int .u8 d5, .int .u8 d6, .int .u8 d7]) W0 := ⟨rd1, rd2⟩
    refine wpAnyH_takeD (some 16) (i := 0) (v := ?_) rfl rfl (by kernel_rfl) (by kernel_rfl) (by kernel_rfl) (fun _ _ _ h => h) (.inl ⟨by kernel_rfl, ?_⟩) hS0 ?_
    rotate_left
    · intro w' hw'; go_simp; try with_reducible rfl
    try simp only [Act.put, List.setIfInBounds_toArray, List.set_cons_zero, List.set_cons_succ]
    refine wpAnyH_takeD (some 18) (i := 2) (v := .agg (phL ps1).toArray) rfl rfl (by kernel_rfl) (by kernel_rfl) (by kernel_rfl) (fun _ _ _ h => h) (yieldsIf_load_mid (by kernel_rfl) 25 _ rfl w.heap.size 0 rfl (phL ps1) _ (fun w' hw' => Row.range hw'.1) Try.underlying25 rfl (by rw [phL_len]; exact hj)) hS0 ?_
    try simp only [Act.put, List.setIfInBounds_toArray, List.set_cons_zero, List.set_cons_succ]
    refine wpAnyH_takeD (some 20) (i := 4) (v := ?_) rfl rfl (by kernel_rfl) (by kernel_rfl) (by kernel_rfl) (fun _ _ _ h => h) (.inl ⟨by kernel_rfl, ?_⟩) hS0 ?_
    rotate_left
    · intro w' hw'; have hrow := hw'.2; have e0 := Row.cell hrow 0; have e1 := Row.cell hrow 1; have e2 := Row.cell hrow 2; have e3 := Row.cell hrow 3; have e4 := Row.cell hrow 4; have e5 := Row.cell hrow 5; have e6 := Row.cell hrow 6; have e7 := Row.cell hrow 7; simp only [List.getElem?_cons_zero, List.getElem?_cons_succ] at e0 e1 e2 e3 e4 e5 e6 e7; clear hrow hw'; go_simp; try with_reducible rfl
    try simp only [Act.put, List.setIfInBounds_toArray, List.set_cons_zero, List.set_cons_succ]
    refine wpAnyH_all (rs := [1]) (by kernel_rfl) (by simp) ?_
    intro i hi; simp only [List.mem_cons, List.not_mem_nil, or_false] at hi
    subst hi
    refine wpOp_step rfl (fun K hK => ?_)
    go_simp
    with_reducible refine (toStack_any a len cap zs W0 (hI.out.below (bW0.trans (bR.mono bW0.size)) (Nat.le_refl _)) hlen).mono ?_
    rintro e v4 ⟨rfl, hB4, sk, _⟩
    replace rd1 := rd1.below hB4 rd1.lt
    replace rd2 := rd2.below hB4 rd2.lt
    replace bR := bR.trans (hB4.mono bR.size)
    have hS4 : (fun W' : World => Row W' w.heap.size 25 (phL ps1) ∧ Row W' (w.heap.size + 1) 35 [.int .u8 d0, .int .u8 d1, .int .u8 d2, .int .u8 d3, .int .u8 d4, .int .u8 d5, .int .u8 d6, .int .u8 d7]) v4 := ⟨rd1, rd2⟩
    refine hK _ _ ⟨hS4, ?_⟩
    try simp only [Act.put, List.setIfInBounds_toArray, List.set_cons_zero, List.set_cons_succ]
    clear hB4 hK K hS0
    refine wpAnyH_all (rs := [3]) (by kernel_rfl) (by simp) ?_
    intro i hi; simp only [List.mem_cons, List.not_mem_nil, or_false] at hi
    subst hi
    refine wpOp_step rfl (fun K hK => ?_)
    go_simp
    with_reducible refine (toPhoto_any ps1 v4).mono ?_
    rintro e v5 ⟨rfl, hB5⟩
    replace rd1 := rd1.below hB5 rd1.lt
    replace rd2 := rd2.below hB5 rd2.lt
    replace sk := sk.below hB5 sk.1
    replace bR := bR.trans (hB5.mono bR.size)
    have hS5 : (fun W' : World => Row W' w.heap.size 25 (phL ps1) ∧ Row W' (w.heap.size + 1) 35 [.int .u8 d0, .int .u8 d1, .int .u8 d2, .int .u8 d3, .int .u8 d4, .int .u8 d5, .int .u8 d6, .int .u8 d7]) v5 := ⟨rd1, rd2⟩
    refine hK _ _ ⟨hS5, ?_⟩
    try simp only [Act.put, List.setIfInBounds_toArray, List.set_cons_zero, List.set_cons_succ]
    clear hB5 hK K hS4
    refine wpAnyH_all (rs := [5]) (by kernel_rfl) (by simp) ?_
    intro i hi; simp only [List.mem_cons, List.not_mem_nil, or_false] at hi
    subst hi
    refine wpOp_step rfl (fun K hK => ?_)
    go_simp
    with_reducible refine (toDigits_any d0 d1 d2 d3 d4 d5 d6 d7 v5).mono ?_
    rintro e v6 ⟨rfl, hB6⟩
    replace rd1 := rd1.below hB6 rd1.lt
    replace rd2 := rd2.below hB6 rd2.lt
    replace sk := sk.below hB6 sk.1
    replace bR := bR.trans (hB6.mono bR.size)
    have hS6 : (fun W' : World => Row W' w.heap.size 25 (phL ps1) ∧ Row W' (w.heap.size + 1) 35 [.int .u8 d0, .int .u8 d1, .int .u8 d2, .int .u8 d3, .int .u8 d4, .int .u8 d5, .int .u8 d6, .int .u8 d7]) v6 := ⟨rd1, rd2⟩
    refine hK _ _ ⟨hS6, ?_⟩
    try simp only [Act.put, List.setIfInBounds_toArray, List.set_cons_zero, List.set_cons_succ]
    clear hB6 hK K hS5
    refine wpAnyH_all (rs := [6]) (by kernel_rfl) (by simp) ?_
    intro i hi; simp only [List.mem_cons, List.not_mem_nil, or_false] at hi
    subst hi
    refine wpOp_step rfl (fun K hK => ?_)
    go_simp
    with_reducible refine (specShows_any _ len len zs ps1 d0 d1 d2 d3 d4 d5 d6 d7 v6 sk hL.out.symm HP1.out HO.out).mono ?_
    rintro e v7 ⟨rfl, hB7⟩
    replace rd1 := rd1.below hB7 rd1.lt
    replace rd2 := rd2.below hB7 rd2.lt
    replace sk := sk.below hB7 sk.1
    replace bR := bR.trans (hB7.mono bR.size)
    have hS7 : (fun W' : World => Row W' w.heap.size 25 (phL ps1) ∧ Row W' (w.heap.size + 1) 35 [.int .u8 d0, .int .u8 d1, .int .u8 d2, .int .u8 d3, .int .u8 d4, .int .u8 d5, .int .u8 d6, .int .u8 d7]) v7 := ⟨rd1, rd2⟩
    refine hK _ _ ⟨hS7, ?_⟩
    try simp only [Act.put, List.setIfInBounds_toArray, List.set_cons_zero, List.set_cons_succ]
    clear hB7 hK K hS6
    refine wpAnyH_takeD (some 15) (i := 7) (v := ?_) rfl rfl (by kernel_rfl) (by kernel_rfl) (by kernel_rfl) (fun _ _ _ h => h) (.inl ⟨by kernel_rfl, ?_⟩) hS7 ?_
    rotate_left
    · intro w' hw'; go_simp; try with_reducible rfl
    try simp only [Act.put, List.setIfInBounds_toArray, List.set_cons_zero, List.set_cons_succ]
    refine wpAnyH_takeD (some 23) (i := 8) (v := ?_) rfl rfl (by kernel_rfl) (by kernel_rfl) (by kernel_rfl) (fun _ _ _ h => h) (.inl ⟨by kernel_rfl, ?_⟩) hS7 ?_
    rotate_left
    · intro w' hw'; go_simp; try with_reducible rfl
    try simp only [Act.put, List.setIfInBounds_toArray, List.set_cons_zero, List.set_cons_succ]
    refine wpAnyH_takeD (some 24) (i := 9) (v := ?_) rfl rfl (by kernel_rfl) (by kernel_rfl) (by kernel_rfl) (fun _ _ _ h => h) (.inl ⟨by kernel_rfl, ?_⟩) hS7 ?_
    rotate_left
    · intro w' hw'; go_simp; try with_reducible rfl
    try simp only [Act.put, List.setIfInBounds_toArray, List.set_cons_zero, List.set_cons_succ]
    refine wpAnyH_takeD (some 7) (i := 10) (v := ?_) rfl rfl (by kernel_rfl) (by kernel_rfl) (by kernel_rfl) (fun _ _ _ h => h) (.inl ⟨by kernel_rfl, ?_⟩) hS7 ?_
    rotate_left
    · intro w' hw'; go_simp; try with_reducible rfl
    try simp only [Act.put, List.setIfInBounds_toArray, List.set_cons_zero, List.set_cons_succ]
    refine wpAnyH_takeD (some 8) (i := 11) (v := ?_) rfl rfl (by kernel_rfl) (by kernel_rfl) (by kernel_rfl) (fun _ _ _ h => h) (.inl ⟨by kernel_rfl, ?_⟩) hS7 ?_
    rotate_left
    · intro w' hw'; go_simp; try with_reducible rfl
    try simp only [Act.put, List.setIfInBounds_toArray, List.set_cons_zero, List.set_cons_succ]
    refine wpAnyH_done (by kernel_rfl) ?_ _
    go_wp2_with fail
    go_meet
    exact ⟨_, rfl, rfl, rfl, rd1, rd2, bW0.trans (bR.mono bW0.size)⟩
  case rest =>
    clear rd1 rd2 bW
    obtain ⟨W, rfl, rfl, rfl, rd1, rd2, bW⟩ := hcut
    go_wp2_with fail
    with_reducible refine (toStack_any a len cap zs W (hI.out.below bW (Nat.le_refl _)) hlen).mono ?_
    rintro e w3 ⟨rfl, hB, sk, _⟩
    replace rd1 := rd1.below hB rd1.lt
    replace rd2 := rd2.below hB rd2.lt
    replace bW := bW.trans (hB.mono bW.size)
    clear hB
    go_upto_region 5 with fail
    go_cut [9, 10, 11] (fun s9 s10 s11 wx => ∃ (B : Nat) (W : World), W = wx ∧ s9 = .slice (some ⟨B, 0, none⟩) len len ∧ s10 = .bool (showsR zs ps1 [d0, d1, d2, d3, d4, d5, d6, d7]).1 ∧ s11 = .int .i64 (showsR zs ps1 [d0, d1, d2, d3, d4, d5, d6, d7]).2 ∧ Stk W B zs ∧ Below w.heap.size w W)
    case first =>
      refine wp_region_held (S := fun W' : World => Row W' w.heap.size 25 (phL ps1) ∧ Row W' (w.heap.size + 1) 35 [.int .u8 d0, .int .u8 d1, .int .u8 d2, .int .u8 d3, .int .u8 d4, .int .u8 d5, .int .u8 d6, .int .u8 d7]) (by kernel_rfl) ?_
      change wpAnyH _ _ _ _ _ _ _ _ (World.drew _)
      obtain ⟨W0, hW0⟩ : ∃ X, X = World.drew (w3) := ⟨_, rfl⟩
      have hD0 : Below (w3).heap.size (w3) W0 := by rw [hW0]; exact (Below.refl _ _).drew
      replace sk := sk.below hD0 sk.1
      replace rd1 := rd1.below hD0 rd1.lt
      replace rd2 := rd2.below hD0 rd2.lt
      have bW0 := bW.trans (hD0.mono bW.size)
      have bR : Below W0.heap.size W0 W0 := Below.refl _ _
      rw [← hW0]
      clear hW0 hD0
      have l_sk := sk.1
      have l_rd1 := rd1.lt
      have l_rd2 := rd2.lt
      have hS0 : (fun W' : World => Row W' w.heap.size 25 (phL ps1) ∧ Row W' (w.heap.size + 1) 35 [.int .u8 d0, .int .u8 d1, .int .u8 d2, .int .u8 d3, .int .u8 d4, .int .u8 d5, .int .u8 d6, .int .u8 d7]) W0 := ⟨rd1, rd2⟩
      refine wpAnyH_takeD (some 28) (i := 0) (v := ?_) rfl rfl (by kernel_rfl) (by kernel_rfl) (by kernel_rfl) (fun _ _ _ h => h) (.inl ⟨by kernel_rfl, ?_⟩) hS0 ?_
      rotate_left
      · intro w' hw'; go_simp; try with_reducible rfl
      try simp only [Act.put, List.setIfInBounds_toArray, List.set_cons_zero, List.set_cons_succ]
      refine wpAnyH_takeD (some 29) (i := 1) (v := .agg (phL ps1).toArray) rfl rfl (by kernel_rfl) (by kernel_rfl) (by kernel_rfl) (fun _ _ _ h => h) (yieldsIf_load_mid (by kernel_rfl) 25 _ rfl w.heap.size 0 rfl (phL ps1) _ (fun w' hw' => Row.range hw'.1) Try.underlying25 rfl (by rw [phL_len]; exact hj)) hS0 ?_
      try simp only [Act.put, List.setIfInBounds_toArray, List.set_cons_zero, List.set_cons_succ]
      refine wpAnyH_takeD (some 31) (i := 3) (v := ?_) rfl rfl (by kernel_rfl) (by kernel_rfl) (by kernel_rfl) (fun _ _ _ h => h) (.inl ⟨by kernel_rfl, ?_⟩) hS0 ?_
      rotate_left
      · intro w' hw'; have hrow := hw'.2; have e0 := Row.cell hrow 0; have e1 := Row.cell hrow 1; have e2 := Row.cell hrow 2; have e3 := Row.cell hrow 3; have e4 := Row.cell hrow 4; have e5 := Row.cell hrow 5; have e6 := Row.cell hrow 6; have e7 := Row.cell hrow 7; simp only [List.getElem?_cons_zero, List.getElem?_cons_succ] at e0 e1 e2 e3 e4 e5 e6 e7; clear hrow hw'; go_simp; try with_reducible rfl
      try simp only [Act.put, List.setIfInBounds_toArray, List.set_cons_zero, List.set_cons_succ]
      refine wpAnyH_all (rs := [2]) (by kernel_rfl) (by simp) ?_
      intro i hi; simp only [List.mem_cons, List.not_mem_nil, or_false] at hi
      subst hi
      refine wpOp_step rfl (fun K hK => ?_)
      go_simp
      with_reducible refine (toPhoto_any ps1 W0).mono ?_
      rintro e v1 ⟨rfl, hB1⟩
      replace sk := sk.below hB1 sk.1
      replace rd1 := rd1.below hB1 rd1.lt
      replace rd2 := rd2.below hB1 rd2.lt
      replace bR := bR.trans (hB1.mono bR.size)
      have hS1 : (fun W' : World => Row W' w.heap.size 25 (phL ps1) ∧ Row W' (w.heap.size + 1) 35 [.int .u8 d0, .int .u8 d1, .int .u8 d2, .int .u8 d3, .int .u8 d4, .int .u8 d5, .int .u8 d6, .int .u8 d7]) v1 := ⟨rd1, rd2⟩
      refine hK _ _ ⟨hS1, ?_⟩
      try simp only [Act.put, List.setIfInBounds_toArray, List.set_cons_zero, List.set_cons_succ]
      clear hB1 hK K hS0
      refine wpAnyH_all (rs := [4]) (by kernel_rfl) (by simp) ?_
      intro i hi; simp only [List.mem_cons, List.not_mem_nil, or_false] at hi
      subst hi
      refine wpOp_step rfl (fun K hK => ?_)
      go_simp
      with_reducible refine (toDigits_any d0 d1 d2 d3 d4 d5 d6 d7 v1).mono ?_
      rintro e v2 ⟨rfl, hB2⟩
      replace sk := sk.below hB2 sk.1
      replace rd1 := rd1.below hB2 rd1.lt
      replace rd2 := rd2.below hB2 rd2.lt
      replace bR := bR.trans (hB2.mono bR.size)
      have hS2 : (fun W' : World => Row W' w.heap.size 25 (phL ps1) ∧ Row W' (w.heap.size + 1) 35 [.int .u8 d0, .int .u8 d1, .int .u8 d2, .int .u8 d3, .int .u8 d4, .int .u8 d5, .int .u8 d6, .int .u8 d7]) v2 := ⟨rd1, rd2⟩
      refine hK _ _ ⟨hS2, ?_⟩
      try simp only [Act.put, List.setIfInBounds_toArray, List.set_cons_zero, List.set_cons_succ]
      clear hB2 hK K hS1
      refine wpAnyH_all (rs := [5]) (by kernel_rfl) (by simp) ?_
      intro i hi; simp only [List.mem_cons, List.not_mem_nil, or_false] at hi
      subst hi
      refine wpOp_step rfl (fun K hK => ?_)
      go_simp
      with_reducible refine (implShows_any _ len len zs ps1 d0 d1 d2 d3 d4 d5 d6 d7 v2 sk hL.out.symm HP1.out HO.out).mono ?_
      rintro e v3 ⟨rfl, hB3⟩
      replace sk := sk.below hB3 sk.1
      replace rd1 := rd1.below hB3 rd1.lt
      replace rd2 := rd2.below hB3 rd2.lt
      replace bR := bR.trans (hB3.mono bR.size)
      have hS3 : (fun W' : World => Row W' w.heap.size 25 (phL ps1) ∧ Row W' (w.heap.size + 1) 35 [.int .u8 d0, .int .u8 d1, .int .u8 d2, .int .u8 d3, .int .u8 d4, .int .u8 d5, .int .u8 d6, .int .u8 d7]) v3 := ⟨rd1, rd2⟩
      refine hK _ _ ⟨hS3, ?_⟩
      try simp only [Act.put, List.setIfInBounds_toArray, List.set_cons_zero, List.set_cons_succ]
      clear hB3 hK K hS2
      refine wpAnyH_takeD (some 27) (i := 6) (v := ?_) rfl rfl (by kernel_rfl) (by kernel_rfl) (by kernel_rfl) (fun _ _ _ h => h) (.inl ⟨by kernel_rfl, ?_⟩) hS3 ?_
      rotate_left
      · intro w' hw'; go_simp; try with_reducible rfl
      try simp only [Act.put, List.setIfInBounds_toArray, List.set_cons_zero, List.set_cons_succ]
      refine wpAnyH_takeD (some 34) (i := 7) (v := ?_) rfl rfl (by kernel_rfl) (by kernel_rfl) (by kernel_rfl) (fun _ _ _ h => h) (.inl ⟨by kernel_rfl, ?_⟩) hS3 ?_
      rotate_left
      · intro w' hw'; go_simp; try with_reducible rfl
      try simp only [Act.put, List.setIfInBounds_toArray, List.set_cons_zero, List.set_cons_succ]
      refine wpAnyH_takeD (some 35) (i := 8) (v := ?_) rfl rfl (by kernel_rfl) (by kernel_rfl) (by kernel_rfl) (fun _ _ _ h => h) (.inl ⟨by kernel_rfl, ?_⟩) hS3 ?_
      rotate_left
      · intro w' hw'; go_simp; try with_reducible rfl
      try simp only [Act.put, List.setIfInBounds_toArray, List.set_cons_zero, List.set_cons_succ]
      refine wpAnyH_takeD (some 10) (i := 9) (v := ?_) rfl rfl (by kernel_rfl) (by kernel_rfl) (by kernel_rfl) (fun _ _ _ h => h) (.inl ⟨by kernel_rfl, ?_⟩) hS3 ?_
      rotate_left
      · intro w' hw'; go_simp; try with_reducible rfl
      try simp only [Act.put, List.setIfInBounds_toArray, List.set_cons_zero, List.set_cons_succ]
      refine wpAnyH_takeD (some 11) (i := 10) (v := ?_) rfl rfl (by kernel_rfl) (by kernel_rfl) (by kernel_rfl) (fun _ _ _ h => h) (.inl ⟨by kernel_rfl, ?_⟩) hS3 ?_
      rotate_left
      · intro w' hw'; go_simp; try with_reducible rfl
      try simp only [Act.put, List.setIfInBounds_toArray, List.set_cons_zero, List.set_cons_succ]
      refine wpAnyH_done (by kernel_rfl) ?_ _
      go_wp2_with fail
      go_meet
      exact ⟨_, _, rfl, rfl, rfl, rfl, sk, bW0.trans (bR.mono bW0.size)⟩
    case rest =>
      obtain ⟨B, W5, rfl, rfl, rfl, rfl, sk, bW⟩ := hcut
      go_wp2_with fail
      with_reducible refine (toStack_any a len cap zs W5 (hI.out.below bW (Nat.le_refl _)) hlen).mono ?_
      rintro e w7 ⟨rfl, hB, sk2, _⟩
      replace sk := sk.below hB sk.1
      replace bW := bW.trans (hB.mono bW.size)
      clear hB
      go_wp2_with fail
      with_reducible refine (eqStack_same _ _ len len len zs w7 sk sk2 hL.out.symm).mono ?_
      rintro e w8 ⟨rfl, hB⟩
      go_wp2_with fail
      go_ret
      exact ⟨rfl, bW.trans (hB.mono bW.size)⟩
end Go.Proofs.Ytgfdfnlbkljgeaa
