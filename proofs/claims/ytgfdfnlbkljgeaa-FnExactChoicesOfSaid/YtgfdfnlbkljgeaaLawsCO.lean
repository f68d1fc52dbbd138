/- The walk of the law ChoicesOf. -/
import Derived.Test.YtgfdfnlbkljgeaaChA
import Derived.Test.YtgfdfnlbkljgeaaPhE
import Derived.Test.YtgfdfnlbkljgeaaPhO
import Derived.Deep.DeepCutAuto
namespace Go.Proofs.Ytgfdfnlbkljgeaa
open Go.RowKit
set_option maxRecDepth 100000 in
set_option maxHeartbeats 2000000 in
theorem law_FnExactChoicesOf (a : Option Addr) (len cap : Nat) (zs : List Int) (ps1 : List (Int × Int)) (w : World) (h : InB w a len zs) (hp1 : Ph ps1) :
    Calls Try.prog 8 #[.slice a len cap, .agg (phL ps1).toArray] w fun e w' => e = .returned (.bool true) ∧ Below w.heap.size w w' := by
  have bW : Below w.heap.size w (w.alloc (.cells (phL ps1).toArray 25)) := (Below.refl _ _).alloc (by first | exact Nat.le_refl _ | (simp; done) | (simp; omega)) _
  by_cases hl : 1048576 < len
  · go_enter Try.func8, Try.ntmps8
    go_wp2
    go_ret
    exact ⟨rfl, bW⟩
  have hlen : len ≤ 1048576 := by omega
  have hI := hid h
  have hL := hid h.1
  have HP1 := hid hp1
  clear hp1
  have hi := Try.infoPhoto
  have hj := Try.infoPhoto'
  have hb0 : ((chR zs ps1).1 != (chR zs ps1).1) = false := by simp
  have hb1 : ((chR zs ps1).2 != (chR zs ps1).2) = false := by simp
  have rd1 := Row.new w 25 (phL ps1)
  clear h
  go_enter Try.func8, Try.ntmps8
  go_upto_region 3 with fail
  go_cut [5, 6] (fun s5 s6 wx => ∃ (W : World), W = wx ∧ s5 = .int .i64 (chR zs ps1).1 ∧ s6 = .int .i64 (chR zs ps1).2 ∧ Row W (w.heap.size) 25 (phL ps1) ∧ Below w.heap.size w W)
  case first =>
    refine wp_region_held (S := fun W' : World => Row W' w.heap.size 25 (phL ps1)) (by kernel_rfl) ?_
    change wpAnyH _ _ _ _ _ _ _ _ (World.drew _)
    obtain ⟨W0, hW0⟩ : ∃ X, X = World.drew ((w.alloc (.cells (phL ps1).toArray 25))) := ⟨_, rfl⟩
    have hD0 : Below ((w.alloc (.cells (phL ps1).toArray 25))).heap.size ((w.alloc (.cells (phL ps1).toArray 25))) W0 := by rw [hW0]; exact (Below.refl _ _).drew
    replace rd1 := rd1.below hD0 rd1.lt
    have bW0 := bW.trans (hD0.mono bW.size)
    have bR : Below W0.heap.size W0 W0 := Below.refl _ _
    rw [← hW0]
    clear hW0 hD0
    have l_rd1 := rd1.lt
    have hS0 : (fun W' : World => Row W' w.heap.size 25 (phL ps1)) W0 := rd1
    refine wpAnyH_takeD (some 14) (i := 0) (v := ?_) rfl rfl (by kernel_rfl) (by kernel_rfl) (by kernel_rfl) (fun _ _ _ h => h) (.inl ⟨by kernel_rfl, ?_⟩) hS0 ?_
    rotate_left
    · intro w' hw'; go_simp; try with_reducible rfl
    try simp only [Act.put, List.setIfInBounds_toArray, List.set_cons_zero, List.set_cons_succ]
    refine wpAnyH_takeD (some 16) (i := 2) (v := .agg (phL ps1).toArray) rfl rfl (by kernel_rfl) (by kernel_rfl) (by kernel_rfl) (fun _ _ _ h => h) (yieldsIf_load_mid (by kernel_rfl) 25 _ rfl w.heap.size 0 rfl (phL ps1) _ (fun w' hw' => Row.range hw') Try.underlying25 rfl (by rw [phL_len]; exact hj)) hS0 ?_
    try simp only [Act.put, List.setIfInBounds_toArray, List.set_cons_zero, List.set_cons_succ]
    refine wpAnyH_all (rs := [1]) (by kernel_rfl) (by simp) ?_
    intro i hi; simp only [List.mem_cons, List.not_mem_nil, or_false] at hi
    subst hi
    refine wpOp_step rfl (fun K hK => ?_)
    go_simp
    with_reducible refine (toStack_any a len cap zs W0 (hI.out.below (bW0.trans (bR.mono bW0.size)) (Nat.le_refl _)) hlen).mono ?_
    rintro e v1 ⟨rfl, hB1, sk, _⟩
    replace rd1 := rd1.below hB1 rd1.lt
    replace bR := bR.trans (hB1.mono bR.size)
    have hS1 : (fun W' : World => Row W' w.heap.size 25 (phL ps1)) v1 := rd1
    refine hK _ _ ⟨hS1, ?_⟩
    try simp only [Act.put, List.setIfInBounds_toArray, List.set_cons_zero, List.set_cons_succ]
    clear hB1 hK K hS0
    refine wpAnyH_all (rs := [3]) (by kernel_rfl) (by simp) ?_
    intro i hi; simp only [List.mem_cons, List.not_mem_nil, or_false] at hi
    subst hi
    refine wpOp_step rfl (fun K hK => ?_)
    go_simp
    with_reducible refine (toPhoto_any ps1 v1).mono ?_
    rintro e v2 ⟨rfl, hB2⟩
    replace rd1 := rd1.below hB2 rd1.lt
    replace sk := sk.below hB2 sk.1
    replace bR := bR.trans (hB2.mono bR.size)
    have hS2 : (fun W' : World => Row W' w.heap.size 25 (phL ps1)) v2 := rd1
    refine hK _ _ ⟨hS2, ?_⟩
    try simp only [Act.put, List.setIfInBounds_toArray, List.set_cons_zero, List.set_cons_succ]
    clear hB2 hK K hS1
    refine wpAnyH_all (rs := [4]) (by kernel_rfl) (by simp) ?_
    intro i hi; simp only [List.mem_cons, List.not_mem_nil, or_false] at hi
    subst hi
    refine wpOp_step rfl (fun K hK => ?_)
    go_simp
    with_reducible refine (specChoicesOf_any _ len len zs ps1 v2 sk hL.out.symm HP1.out).mono ?_
    rintro e v3 ⟨rfl, hB3⟩
    replace rd1 := rd1.below hB3 rd1.lt
    replace sk := sk.below hB3 sk.1
    replace bR := bR.trans (hB3.mono bR.size)
    have hS3 : (fun W' : World => Row W' w.heap.size 25 (phL ps1)) v3 := rd1
    refine hK _ _ ⟨hS3, ?_⟩
    try simp only [Act.put, List.setIfInBounds_toArray, List.set_cons_zero, List.set_cons_succ]
    clear hB3 hK K hS2
    refine wpAnyH_takeD (some 13) (i := 5) (v := ?_) rfl rfl (by kernel_rfl) (by kernel_rfl) (by kernel_rfl) (fun _ _ _ h => h) (.inl ⟨by kernel_rfl, ?_⟩) hS3 ?_
    rotate_left
    · intro w' hw'; go_simp; try with_reducible rfl
    try simp only [Act.put, List.setIfInBounds_toArray, List.set_cons_zero, List.set_cons_succ]
    refine wpAnyH_takeD (some 19) (i := 6) (v := ?_) rfl rfl (by kernel_rfl) (by kernel_rfl) (by kernel_rfl) (fun _ _ _ h => h) (.inl ⟨by kernel_rfl, ?_⟩) hS3 ?_
    rotate_left
    · intro w' hw'; go_simp; try with_reducible rfl
    try simp only [Act.put, List.setIfInBounds_toArray, List.set_cons_zero, List.set_cons_succ]
    refine wpAnyH_takeD (some 20) (i := 7) (v := ?_) rfl rfl (by kernel_rfl) (by kernel_rfl) (by kernel_rfl) (fun _ _ _ h => h) (.inl ⟨by kernel_rfl, ?_⟩) hS3 ?_
    rotate_left
    · intro w' hw'; go_simp; try with_reducible rfl
    try simp only [Act.put, List.setIfInBounds_toArray, List.set_cons_zero, List.set_cons_succ]
    refine wpAnyH_takeD (some 5) (i := 8) (v := ?_) rfl rfl (by kernel_rfl) (by kernel_rfl) (by kernel_rfl) (fun _ _ _ h => h) (.inl ⟨by kernel_rfl, ?_⟩) hS3 ?_
    rotate_left
    · intro w' hw'; go_simp; try with_reducible rfl
    try simp only [Act.put, List.setIfInBounds_toArray, List.set_cons_zero, List.set_cons_succ]
    refine wpAnyH_takeD (some 6) (i := 9) (v := ?_) rfl rfl (by kernel_rfl) (by kernel_rfl) (by kernel_rfl) (fun _ _ _ h => h) (.inl ⟨by kernel_rfl, ?_⟩) hS3 ?_
    rotate_left
    · intro w' hw'; go_simp; try with_reducible rfl
    try simp only [Act.put, List.setIfInBounds_toArray, List.set_cons_zero, List.set_cons_succ]
    refine wpAnyH_done (by kernel_rfl) ?_ _
    go_wp2_with fail
    go_meet
    exact ⟨_, rfl, rfl, rfl, rd1, bW0.trans (bR.mono bW0.size)⟩
  case rest =>
    clear rd1 bW
    obtain ⟨W, rfl, rfl, rfl, rd1, bW⟩ := hcut
    go_wp2_with fail
    with_reducible refine (toStack_any a len cap zs W (hI.out.below bW (Nat.le_refl _)) hlen).mono ?_
    rintro e w3 ⟨rfl, hB, sk, _⟩
    replace rd1 := rd1.below hB rd1.lt
    replace bW := bW.trans (hB.mono bW.size)
    clear hB
    have HR := hid rd1
    go_wp2_with ((with_reducible refine wpList_load_row rfl 25 _ rfl w.heap.size ?_ 25 (phL ps1).toArray (0, 0) _ ?_ Try.underlying25 ?_ ?_ ?_); rfl; exact HR.out; rfl; (rw [sz16]; exact hj))
    clear HR
    with_reducible refine (toPhoto_any ps1 w3).mono ?_
    rintro e w4 ⟨rfl, hB⟩
    replace rd1 := rd1.below hB rd1.lt
    replace sk := sk.below hB sk.1
    replace bW := bW.trans (hB.mono bW.size)
    clear hB
    go_wp2_with fail
    with_reducible refine (implChoicesOf_any _ len len zs ps1 w4 sk hL.out.symm HP1.out).mono ?_
    rintro e w5 ⟨rfl, hB⟩
    replace rd1 := rd1.below hB rd1.lt
    replace sk := sk.below hB sk.1
    replace bW := bW.trans (hB.mono bW.size)
    clear hB
    clear rd1
    go_wp2_with fail
    with_reducible refine (toStack_any a len cap zs w5 (hI.out.below bW (Nat.le_refl _)) hlen).mono ?_
    rintro e w7 ⟨rfl, hB, sk2, _⟩
    replace sk := sk.below hB sk.1
    replace bW := bW.trans (hB.mono bW.size)
    clear hB
    go_wp2_with fail
    with_reducible refine (eqStack_same _ _ len len len zs w7 sk sk2 hL.out.symm).mono ?_
    rintro e w8 ⟨rfl, hB⟩
    go_wp2_with fail
    go_ret
    exact ⟨rfl, bW.trans (hB.mono bW.size)⟩
end Go.Proofs.Ytgfdfnlbkljgeaa
