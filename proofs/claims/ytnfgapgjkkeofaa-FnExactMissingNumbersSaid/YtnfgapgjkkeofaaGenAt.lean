/- Whether a ticket within a list is genuine: the model's. -/
import Derived.Test.YtnfgapgjkkeofaaTick
import Derived.Test.YtnfgapgjkkeofaaTicks
namespace Go.Proofs.Ytnfgapgjkkeofaa
open Go.RowKit
set_option linter.unusedVariables false
set_option maxRecDepth 100000 in
set_option maxHeartbeats 4000000 in
theorem l07GenuineAt_any (g o B m cap : Nat) (zs : List Int) (n : Int) (d0 d1 d2 d3 d4 d5 d6 d7 : Int) (c : Int) (w : World) (hS : Stk w B zs) (hm : m = zs.length) (hn : -9223372036854775808 ≤ n ∧ n ≤ 9223372036854775807) (ho : Oct d0 d1 d2 d3 d4 d5 d6 d7) (hc : ∀ w', Below w.heap.size w w' → w'.cell? ⟨g, o, none⟩ = some (.int .i64 n) ∧ w'.cell? ⟨g, o + 1, none⟩ = some (.int .u8 d0) ∧ w'.cell? ⟨g, o + 2, none⟩ = some (.int .u8 d1) ∧ w'.cell? ⟨g, o + 3, none⟩ = some (.int .u8 d2) ∧ w'.cell? ⟨g, o + 4, none⟩ = some (.int .u8 d3) ∧ w'.cell? ⟨g, o + 5, none⟩ = some (.int .u8 d4) ∧ w'.cell? ⟨g, o + 6, none⟩ = some (.int .u8 d5) ∧ w'.cell? ⟨g, o + 7, none⟩ = some (.int .u8 d6) ∧ w'.cell? ⟨g, o + 8, none⟩ = some (.int .u8 d7) ∧ w'.cell? ⟨g, o + 9, none⟩ = some (.int .u16 c)) :
    Calls Try.prog 20 #[.slice (some ⟨B, 0, none⟩) m cap, .pointer (some ⟨g, o, none⟩)] w fun e w' => e = .returned (.bool (gen zs [d0, d1, d2, d3, d4, d5, d6, d7] n c)) ∧ Below w.heap.size w w' := by
  have HS0 := hid (show (fun w' : World => Below w.heap.size w w' ∧ w'.cell? ⟨g, o, none⟩ = some (.int .i64 n) ∧ w'.cell? ⟨g, o + 1, none⟩ = some (.int .u8 d0) ∧ w'.cell? ⟨g, o + 2, none⟩ = some (.int .u8 d1) ∧ w'.cell? ⟨g, o + 3, none⟩ = some (.int .u8 d2) ∧ w'.cell? ⟨g, o + 4, none⟩ = some (.int .u8 d3) ∧ w'.cell? ⟨g, o + 5, none⟩ = some (.int .u8 d4) ∧ w'.cell? ⟨g, o + 6, none⟩ = some (.int .u8 d5) ∧ w'.cell? ⟨g, o + 7, none⟩ = some (.int .u8 d6) ∧ w'.cell? ⟨g, o + 8, none⟩ = some (.int .u8 d7) ∧ w'.cell? ⟨g, o + 9, none⟩ = some (.int .u16 c)) w.drew from And.intro (Below.refl _ _).drew (hc _ (Below.refl _ _).drew))
  have HN := hid (fun (w' : World) (h : (fun w' : World => Below w.heap.size w w' ∧ w'.cell? ⟨g, o, none⟩ = some (.int .i64 n) ∧ w'.cell? ⟨g, o + 1, none⟩ = some (.int .u8 d0) ∧ w'.cell? ⟨g, o + 2, none⟩ = some (.int .u8 d1) ∧ w'.cell? ⟨g, o + 3, none⟩ = some (.int .u8 d2) ∧ w'.cell? ⟨g, o + 4, none⟩ = some (.int .u8 d3) ∧ w'.cell? ⟨g, o + 5, none⟩ = some (.int .u8 d4) ∧ w'.cell? ⟨g, o + 6, none⟩ = some (.int .u8 d5) ∧ w'.cell? ⟨g, o + 7, none⟩ = some (.int .u8 d6) ∧ w'.cell? ⟨g, o + 8, none⟩ = some (.int .u8 d7) ∧ w'.cell? ⟨g, o + 9, none⟩ = some (.int .u16 c)) w') => (inr_any n 1 1000000 w').mono fun e w'' ⟨he, hB⟩ => And.intro he (hB ▸ h))
  have HV := hid (fun (w' : World) (h : (fun w' : World => Below w.heap.size w w' ∧ w'.cell? ⟨g, o, none⟩ = some (.int .i64 n) ∧ w'.cell? ⟨g, o + 1, none⟩ = some (.int .u8 d0) ∧ w'.cell? ⟨g, o + 2, none⟩ = some (.int .u8 d1) ∧ w'.cell? ⟨g, o + 3, none⟩ = some (.int .u8 d2) ∧ w'.cell? ⟨g, o + 4, none⟩ = some (.int .u8 d3) ∧ w'.cell? ⟨g, o + 5, none⟩ = some (.int .u8 d4) ∧ w'.cell? ⟨g, o + 6, none⟩ = some (.int .u8 d5) ∧ w'.cell? ⟨g, o + 7, none⟩ = some (.int .u8 d6) ∧ w'.cell? ⟨g, o + 8, none⟩ = some (.int .u8 d7) ∧ w'.cell? ⟨g, o + 9, none⟩ = some (.int .u16 c)) w') => (l01Digits_any B m cap zs d0 d1 d2 d3 d4 d5 d6 d7 w' (hS.below h.1 hS.1) hm ho).mono fun e w'' ⟨he, hB⟩ => And.intro he (And.intro (h.1.trans (hB.mono h.1.size)) (hc _ (h.1.trans (hB.mono h.1.size)))))
  have HT := hid (fun (w' : World) (h : (fun w' : World => Below w.heap.size w w' ∧ w'.cell? ⟨g, o, none⟩ = some (.int .i64 n) ∧ w'.cell? ⟨g, o + 1, none⟩ = some (.int .u8 d0) ∧ w'.cell? ⟨g, o + 2, none⟩ = some (.int .u8 d1) ∧ w'.cell? ⟨g, o + 3, none⟩ = some (.int .u8 d2) ∧ w'.cell? ⟨g, o + 4, none⟩ = some (.int .u8 d3) ∧ w'.cell? ⟨g, o + 5, none⟩ = some (.int .u8 d4) ∧ w'.cell? ⟨g, o + 6, none⟩ = some (.int .u8 d5) ∧ w'.cell? ⟨g, o + 7, none⟩ = some (.int .u8 d6) ∧ w'.cell? ⟨g, o + 8, none⟩ = some (.int .u8 d7) ∧ w'.cell? ⟨g, o + 9, none⟩ = some (.int .u16 c)) w') => (l07Check_any n d0 d1 d2 d3 d4 d5 d6 d7 w' hn ho).mono fun e w'' ⟨he, hB⟩ => And.intro he (And.intro (h.1.trans (hB.mono h.1.size)) (hc _ (h.1.trans (hB.mono h.1.size)))))
  clear hS hm hc ho hn
  by_cases hk : 1 ≤ n ∧ n ≤ 1000000
  · have e1 : (decide (1 ≤ n) && decide (n ≤ 1000000)) = true := by simp; omega
    rw [e1] at HN
    cases hd : okD zs [d0, d1, d2, d3, d4, d5, d6, d7] with
    | false =>
      rw [gen_digits hd]
      rw [hd] at HV
      clear hd hk e1
      go_enter Try.func20, Try.ntmps20
      go_wp2_with fail
      refine wp_region_held (S := (fun w' : World => Below w.heap.size w w' ∧ w'.cell? ⟨g, o, none⟩ = some (.int .i64 n) ∧ w'.cell? ⟨g, o + 1, none⟩ = some (.int .u8 d0) ∧ w'.cell? ⟨g, o + 2, none⟩ = some (.int .u8 d1) ∧ w'.cell? ⟨g, o + 3, none⟩ = some (.int .u8 d2) ∧ w'.cell? ⟨g, o + 4, none⟩ = some (.int .u8 d3) ∧ w'.cell? ⟨g, o + 5, none⟩ = some (.int .u8 d4) ∧ w'.cell? ⟨g, o + 6, none⟩ = some (.int .u8 d5) ∧ w'.cell? ⟨g, o + 7, none⟩ = some (.int .u8 d6) ∧ w'.cell? ⟨g, o + 8, none⟩ = some (.int .u8 d7) ∧ w'.cell? ⟨g, o + 9, none⟩ = some (.int .u16 c))) (by kernel_rfl) ?_
      change wpAnyH _ _ _ _ _ _ _ _ (World.drew _)
      have t0 : ((fun w' : World => Below w.heap.size w w' ∧ w'.cell? ⟨g, o, none⟩ = some (.int .i64 n) ∧ w'.cell? ⟨g, o + 1, none⟩ = some (.int .u8 d0) ∧ w'.cell? ⟨g, o + 2, none⟩ = some (.int .u8 d1) ∧ w'.cell? ⟨g, o + 3, none⟩ = some (.int .u8 d2) ∧ w'.cell? ⟨g, o + 4, none⟩ = some (.int .u8 d3) ∧ w'.cell? ⟨g, o + 5, none⟩ = some (.int .u8 d4) ∧ w'.cell? ⟨g, o + 6, none⟩ = some (.int .u8 d5) ∧ w'.cell? ⟨g, o + 7, none⟩ = some (.int .u8 d6) ∧ w'.cell? ⟨g, o + 8, none⟩ = some (.int .u8 d7) ∧ w'.cell? ⟨g, o + 9, none⟩ = some (.int .u16 c))) _ := HS0.out
      refine wpAnyH_takeD (some 5) (i := 0) (v := ?_) rfl rfl (by kernel_rfl) (by kernel_rfl) (by kernel_rfl) (fun _ _ _ h => h) (.inl ⟨by kernel_rfl, ?_⟩) t0 ?_
      rotate_left
      · intro w' hw'; obtain ⟨hw1, hw2, hw3, hw4, hw5, hw6, hw7, hw8, hw9, hw10, hw11⟩ := hw'; go_simp; try with_reducible rfl
      try simp only [Act.put, List.setIfInBounds_toArray, List.set_cons_zero, List.set_cons_succ]
      refine wpAnyH_takeD (some 6) (i := 1) (v := ?_) rfl rfl (by kernel_rfl) (by kernel_rfl) (by kernel_rfl) (fun _ _ _ h => h) (.inl ⟨by kernel_rfl, ?_⟩) t0 ?_
      rotate_left
      · intro w' hw'; obtain ⟨hw1, hw2, hw3, hw4, hw5, hw6, hw7, hw8, hw9, hw10, hw11⟩ := hw'; go_simp; try with_reducible rfl
      try simp only [Act.put, List.setIfInBounds_toArray, List.set_cons_zero, List.set_cons_succ]
      refine wpAnyH_takeD (some 7) (i := 2) (v := ?_) rfl rfl (by kernel_rfl) (by kernel_rfl) (by kernel_rfl) (fun _ _ _ h => h) (.inl ⟨by kernel_rfl, ?_⟩) t0 ?_
      rotate_left
      · intro w' hw'; obtain ⟨hw1, hw2, hw3, hw4, hw5, hw6, hw7, hw8, hw9, hw10, hw11⟩ := hw'; go_simp; try with_reducible rfl
      try simp only [Act.put, List.setIfInBounds_toArray, List.set_cons_zero, List.set_cons_succ]
      refine wpAnyH_takeD (some 8) (i := 3) (v := ?_) rfl rfl (by kernel_rfl) (by kernel_rfl) (by kernel_rfl) (fun _ _ _ h => h) (.inl ⟨by kernel_rfl, ?_⟩) t0 ?_
      rotate_left
      · intro w' hw'; obtain ⟨hw1, hw2, hw3, hw4, hw5, hw6, hw7, hw8, hw9, hw10, hw11⟩ := hw'; go_simp; try with_reducible rfl
      try simp only [Act.put, List.setIfInBounds_toArray, List.set_cons_zero, List.set_cons_succ]
      refine wpAnyH_all (rs := [4]) (by kernel_rfl) (by simp) ?_
      intro i hi; simp only [List.mem_singleton] at hi; subst hi
      refine wpOp_step rfl (fun K hK => ?_)
      go_simp
      with_reducible refine (HN.out _ t0).mono ?_
      rintro e vt1 ⟨rfl, hvt1⟩
      have t1 := hvt1
      refine hK _ _ ⟨t1, ?_⟩
      try simp only [Act.put, List.setIfInBounds_toArray, List.set_cons_zero, List.set_cons_succ]
      refine wpAnyH_takeD (some 10) (i := 5) (v := ?_) rfl rfl (by kernel_rfl) (by kernel_rfl) (by kernel_rfl) (fun _ _ _ h => h) (.inl ⟨by kernel_rfl, ?_⟩) t1 ?_
      rotate_left
      · intro w' hw'; obtain ⟨hw1, hw2, hw3, hw4, hw5, hw6, hw7, hw8, hw9, hw10, hw11⟩ := hw'; go_simp; try with_reducible rfl
      try simp only [Act.put, List.setIfInBounds_toArray, List.set_cons_zero, List.set_cons_succ]
      refine wpAnyH_takeD (some 11) (i := 6) (v := ?_) rfl rfl (by kernel_rfl) (by kernel_rfl) (by kernel_rfl) (fun _ _ _ h => h) (.inl ⟨by kernel_rfl, ?_⟩) t1 ?_
      rotate_left
      · intro w' hw'; obtain ⟨hw1, hw2, hw3, hw4, hw5, hw6, hw7, hw8, hw9, hw10, hw11⟩ := hw'; go_simp; try with_reducible rfl
      try simp only [Act.put, List.setIfInBounds_toArray, List.set_cons_zero, List.set_cons_succ]
      refine wpAnyH_takeD (some 12) (i := 7) (v := ?_) rfl rfl (by kernel_rfl) (by kernel_rfl) (by kernel_rfl) (fun _ _ _ h => h) (.inl ⟨by kernel_rfl, ?_⟩) t1 ?_
      rotate_left
      · intro w' hw'; obtain ⟨hw1, hw2, hw3, hw4, hw5, hw6, hw7, hw8, hw9, hw10, hw11⟩ := hw'; go_simp; try with_reducible rfl
      try simp only [Act.put, List.setIfInBounds_toArray, List.set_cons_zero, List.set_cons_succ]
      refine wpAnyH_takeD (some 13) (i := 8) (v := ?_) rfl rfl (by kernel_rfl) (by kernel_rfl) (by kernel_rfl) (fun _ _ _ h => h) (.inl ⟨by kernel_rfl, ?_⟩) t1 ?_
      rotate_left
      · intro w' hw'; obtain ⟨hw1, hw2, hw3, hw4, hw5, hw6, hw7, hw8, hw9, hw10, hw11⟩ := hw'; go_simp; try with_reducible rfl
      try simp only [Act.put, List.setIfInBounds_toArray, List.set_cons_zero, List.set_cons_succ]
      refine wpAnyH_takeD (some 14) (i := 9) (v := ?_) rfl rfl (by kernel_rfl) (by kernel_rfl) (by kernel_rfl) (fun _ _ _ h => h) (.inl ⟨by kernel_rfl, ?_⟩) t1 ?_
      rotate_left
      · intro w' hw'; obtain ⟨hw1, hw2, hw3, hw4, hw5, hw6, hw7, hw8, hw9, hw10, hw11⟩ := hw'; go_simp; try with_reducible rfl
      try simp only [Act.put, List.setIfInBounds_toArray, List.set_cons_zero, List.set_cons_succ]
      refine wpAnyH_takeD (some 15) (i := 10) (v := ?_) rfl rfl (by kernel_rfl) (by kernel_rfl) (by kernel_rfl) (fun _ _ _ h => h) (.inl ⟨by kernel_rfl, ?_⟩) t1 ?_
      rotate_left
      · intro w' hw'; obtain ⟨hw1, hw2, hw3, hw4, hw5, hw6, hw7, hw8, hw9, hw10, hw11⟩ := hw'; go_simp; try with_reducible rfl
      try simp only [Act.put, List.setIfInBounds_toArray, List.set_cons_zero, List.set_cons_succ]
      refine wpAnyH_all (rs := [11]) (by kernel_rfl) (by simp) ?_
      intro i hi; simp only [List.mem_singleton] at hi; subst hi
      refine wpOp_step rfl (fun K hK => ?_)
      go_simp
      with_reducible refine (HV.out _ t1).mono ?_
      rintro e vt2 ⟨rfl, hvt2⟩
      have t2 := hvt2
      refine hK _ _ ⟨t2, ?_⟩
      try simp only [Act.put, List.setIfInBounds_toArray, List.set_cons_zero, List.set_cons_succ]
      refine wpAnyH_takeD (some 17) (i := 12) (v := ?_) rfl rfl (by kernel_rfl) (by kernel_rfl) (by kernel_rfl) (fun _ _ _ h => h) (.inl ⟨by kernel_rfl, ?_⟩) t2 ?_
      rotate_left
      · intro w' hw'; obtain ⟨hw1, hw2, hw3, hw4, hw5, hw6, hw7, hw8, hw9, hw10, hw11⟩ := hw'; go_simp; try with_reducible rfl
      try simp only [Act.put, List.setIfInBounds_toArray, List.set_cons_zero, List.set_cons_succ]
      refine wpAnyH_takeD (some 18) (i := 13) (v := ?_) rfl rfl (by kernel_rfl) (by kernel_rfl) (by kernel_rfl) (fun _ _ _ h => h) (.inl ⟨by kernel_rfl, ?_⟩) t2 ?_
      rotate_left
      · intro w' hw'; obtain ⟨hw1, hw2, hw3, hw4, hw5, hw6, hw7, hw8, hw9, hw10, hw11⟩ := hw'; go_simp; try with_reducible rfl
      try simp only [Act.put, List.setIfInBounds_toArray, List.set_cons_zero, List.set_cons_succ]
      refine wpAnyH_takeD (some 19) (i := 14) (v := undef) rfl rfl (by kernel_rfl) (by kernel_rfl) (by kernel_rfl) (fun _ _ _ h => h) (.inr ⟨by kernel_rfl, rfl⟩) t2 ?_
      try simp only [Act.put, List.setIfInBounds_toArray, List.set_cons_zero, List.set_cons_succ]
      refine wpAnyH_takeD (some 20) (i := 15) (v := undef) rfl rfl (by kernel_rfl) (by kernel_rfl) (by kernel_rfl) (fun _ _ _ h => h) (.inr ⟨by kernel_rfl, rfl⟩) t2 ?_
      try simp only [Act.put, List.setIfInBounds_toArray, List.set_cons_zero, List.set_cons_succ]
      refine wpAnyH_takeD (some 21) (i := 16) (v := undef) rfl rfl (by kernel_rfl) (by kernel_rfl) (by kernel_rfl) (fun _ _ _ h => h) (.inr ⟨by kernel_rfl, rfl⟩) t2 ?_
      try simp only [Act.put, List.setIfInBounds_toArray, List.set_cons_zero, List.set_cons_succ]
      refine wpAnyH_takeD (some 22) (i := 17) (v := undef) rfl rfl (by kernel_rfl) (by kernel_rfl) (by kernel_rfl) (fun _ _ _ h => h) (.inr ⟨by kernel_rfl, rfl⟩) t2 ?_
      try simp only [Act.put, List.setIfInBounds_toArray, List.set_cons_zero, List.set_cons_succ]
      refine wpAnyH_takeD (some 23) (i := 18) (v := undef) rfl rfl (by kernel_rfl) (by kernel_rfl) (by kernel_rfl) (fun _ _ _ h => h) (.inr ⟨by kernel_rfl, rfl⟩) t2 ?_
      try simp only [Act.put, List.setIfInBounds_toArray, List.set_cons_zero, List.set_cons_succ]
      refine wpAnyH_takeD (some 24) (i := 19) (v := undef) rfl rfl (by kernel_rfl) (by kernel_rfl) (by kernel_rfl) (fun _ _ _ h => h) (.inr ⟨by kernel_rfl, rfl⟩) t2 ?_
      try simp only [Act.put, List.setIfInBounds_toArray, List.set_cons_zero, List.set_cons_succ]
      refine wpAnyH_takeD (some 25) (i := 20) (v := undef) rfl rfl (by kernel_rfl) (by kernel_rfl) (by kernel_rfl) (fun _ _ _ h => h) (.inr ⟨by kernel_rfl, rfl⟩) t2 ?_
      try simp only [Act.put, List.setIfInBounds_toArray, List.set_cons_zero, List.set_cons_succ]
      refine wpAnyH_takeD (some 26) (i := 21) (v := undef) rfl rfl (by kernel_rfl) (by kernel_rfl) (by kernel_rfl) (fun _ _ _ h => h) (.inr ⟨by kernel_rfl, rfl⟩) t2 ?_
      try simp only [Act.put, List.setIfInBounds_toArray, List.set_cons_zero, List.set_cons_succ]
      refine wpAnyH_takeD (some 27) (i := 22) (v := undef) rfl rfl (by kernel_rfl) (by kernel_rfl) (by kernel_rfl) (fun _ _ _ h => h) (.inr ⟨by kernel_rfl, rfl⟩) t2 ?_
      try simp only [Act.put, List.setIfInBounds_toArray, List.set_cons_zero, List.set_cons_succ]
      refine wpAnyH_takeD (some 28) (i := 23) (v := undef) rfl rfl (by kernel_rfl) (by kernel_rfl) (by kernel_rfl) (fun _ _ _ h => h) (.inr ⟨by kernel_rfl, rfl⟩) t2 ?_
      try simp only [Act.put, List.setIfInBounds_toArray, List.set_cons_zero, List.set_cons_succ]
      refine wpAnyH_takeD (some 29) (i := 24) (v := undef) rfl rfl (by kernel_rfl) (by kernel_rfl) (by kernel_rfl) (fun _ _ _ h => h) (.inr ⟨by kernel_rfl, rfl⟩) t2 ?_
      try simp only [Act.put, List.setIfInBounds_toArray, List.set_cons_zero, List.set_cons_succ]
      refine wpAnyH_takeD (some 30) (i := 25) (v := undef) rfl rfl (by kernel_rfl) (by kernel_rfl) (by kernel_rfl) (fun _ _ _ h => h) (.inr ⟨by kernel_rfl, rfl⟩) t2 ?_
      try simp only [Act.put, List.setIfInBounds_toArray, List.set_cons_zero, List.set_cons_succ]
      refine wpAnyH_takeD (some 31) (i := 26) (v := undef) rfl rfl (by kernel_rfl) (by kernel_rfl) (by kernel_rfl) (fun _ _ _ h => h) (.inr ⟨by kernel_rfl, rfl⟩) t2 ?_
      try simp only [Act.put, List.setIfInBounds_toArray, List.set_cons_zero, List.set_cons_succ]
      refine wpAnyH_takeD (some 32) (i := 27) (v := undef) rfl rfl (by kernel_rfl) (by kernel_rfl) (by kernel_rfl) (fun _ _ _ h => h) (.inr ⟨by kernel_rfl, rfl⟩) t2 ?_
      try simp only [Act.put, List.setIfInBounds_toArray, List.set_cons_zero, List.set_cons_succ]
      refine wpAnyH_takeD (some 33) (i := 28) (v := ?_) rfl rfl (by kernel_rfl) (by kernel_rfl) (by kernel_rfl) (fun _ _ _ h => h) (.inl ⟨by kernel_rfl, ?_⟩) t2 ?_
      rotate_left
      · intro w' hw'; obtain ⟨hw1, hw2, hw3, hw4, hw5, hw6, hw7, hw8, hw9, hw10, hw11⟩ := hw'; go_simp; try with_reducible rfl
      try simp only [Act.put, List.setIfInBounds_toArray, List.set_cons_zero, List.set_cons_succ]
      refine wpAnyH_takeD (some 4) (i := 29) (v := ?_) rfl rfl (by kernel_rfl) (by kernel_rfl) (by kernel_rfl) (fun _ _ _ h => h) (.inl ⟨by kernel_rfl, ?_⟩) t2 ?_
      rotate_left
      · intro w' hw'; obtain ⟨hw1, hw2, hw3, hw4, hw5, hw6, hw7, hw8, hw9, hw10, hw11⟩ := hw'; go_simp; try with_reducible rfl
      try simp only [Act.put, List.setIfInBounds_toArray, List.set_cons_zero, List.set_cons_succ]
      refine wpAnyH_done (by kernel_rfl) ?_ _
      go_wp2_with fail
      go_ret
      exact ⟨rfl, t2.1⟩
    | true =>
      rw [gen_rest hk hd]
      rw [hd] at HV
      clear hd hk e1
      obtain ⟨k, hk⟩ : ∃ k, chk n [d0, d1, d2, d3, d4, d5, d6, d7] = k := ⟨_, rfl⟩
      rw [hk] at HT ⊢
      clear hk
      go_enter Try.func20, Try.ntmps20
      go_wp2_with fail
      refine wp_region_held (S := (fun w' : World => Below w.heap.size w w' ∧ w'.cell? ⟨g, o, none⟩ = some (.int .i64 n) ∧ w'.cell? ⟨g, o + 1, none⟩ = some (.int .u8 d0) ∧ w'.cell? ⟨g, o + 2, none⟩ = some (.int .u8 d1) ∧ w'.cell? ⟨g, o + 3, none⟩ = some (.int .u8 d2) ∧ w'.cell? ⟨g, o + 4, none⟩ = some (.int .u8 d3) ∧ w'.cell? ⟨g, o + 5, none⟩ = some (.int .u8 d4) ∧ w'.cell? ⟨g, o + 6, none⟩ = some (.int .u8 d5) ∧ w'.cell? ⟨g, o + 7, none⟩ = some (.int .u8 d6) ∧ w'.cell? ⟨g, o + 8, none⟩ = some (.int .u8 d7) ∧ w'.cell? ⟨g, o + 9, none⟩ = some (.int .u16 c))) (by kernel_rfl) ?_
      change wpAnyH _ _ _ _ _ _ _ _ (World.drew _)
      have t0 : ((fun w' : World => Below w.heap.size w w' ∧ w'.cell? ⟨g, o, none⟩ = some (.int .i64 n) ∧ w'.cell? ⟨g, o + 1, none⟩ = some (.int .u8 d0) ∧ w'.cell? ⟨g, o + 2, none⟩ = some (.int .u8 d1) ∧ w'.cell? ⟨g, o + 3, none⟩ = some (.int .u8 d2) ∧ w'.cell? ⟨g, o + 4, none⟩ = some (.int .u8 d3) ∧ w'.cell? ⟨g, o + 5, none⟩ = some (.int .u8 d4) ∧ w'.cell? ⟨g, o + 6, none⟩ = some (.int .u8 d5) ∧ w'.cell? ⟨g, o + 7, none⟩ = some (.int .u8 d6) ∧ w'.cell? ⟨g, o + 8, none⟩ = some (.int .u8 d7) ∧ w'.cell? ⟨g, o + 9, none⟩ = some (.int .u16 c))) _ := HS0.out
      refine wpAnyH_takeD (some 5) (i := 0) (v := ?_) rfl rfl (by kernel_rfl) (by kernel_rfl) (by kernel_rfl) (fun _ _ _ h => h) (.inl ⟨by kernel_rfl, ?_⟩) t0 ?_
      rotate_left
      · intro w' hw'; obtain ⟨hw1, hw2, hw3, hw4, hw5, hw6, hw7, hw8, hw9, hw10, hw11⟩ := hw'; go_simp; try with_reducible rfl
      try simp only [Act.put, List.setIfInBounds_toArray, List.set_cons_zero, List.set_cons_succ]
      refine wpAnyH_takeD (some 6) (i := 1) (v := ?_) rfl rfl (by kernel_rfl) (by kernel_rfl) (by kernel_rfl) (fun _ _ _ h => h) (.inl ⟨by kernel_rfl, ?_⟩) t0 ?_
      rotate_left
      · intro w' hw'; obtain ⟨hw1, hw2, hw3, hw4, hw5, hw6, hw7, hw8, hw9, hw10, hw11⟩ := hw'; go_simp; try with_reducible rfl
      try simp only [Act.put, List.setIfInBounds_toArray, List.set_cons_zero, List.set_cons_succ]
      refine wpAnyH_takeD (some 7) (i := 2) (v := ?_) rfl rfl (by kernel_rfl) (by kernel_rfl) (by kernel_rfl) (fun _ _ _ h => h) (.inl ⟨by kernel_rfl, ?_⟩) t0 ?_
      rotate_left
      · intro w' hw'; obtain ⟨hw1, hw2, hw3, hw4, hw5, hw6, hw7, hw8, hw9, hw10, hw11⟩ := hw'; go_simp; try with_reducible rfl
      try simp only [Act.put, List.setIfInBounds_toArray, List.set_cons_zero, List.set_cons_succ]
      refine wpAnyH_takeD (some 8) (i := 3) (v := ?_) rfl rfl (by kernel_rfl) (by kernel_rfl) (by kernel_rfl) (fun _ _ _ h => h) (.inl ⟨by kernel_rfl, ?_⟩) t0 ?_
      rotate_left
      · intro w' hw'; obtain ⟨hw1, hw2, hw3, hw4, hw5, hw6, hw7, hw8, hw9, hw10, hw11⟩ := hw'; go_simp; try with_reducible rfl
      try simp only [Act.put, List.setIfInBounds_toArray, List.set_cons_zero, List.set_cons_succ]
      refine wpAnyH_all (rs := [4]) (by kernel_rfl) (by simp) ?_
      intro i hi; simp only [List.mem_singleton] at hi; subst hi
      refine wpOp_step rfl (fun K hK => ?_)
      go_simp
      with_reducible refine (HN.out _ t0).mono ?_
      rintro e vt1 ⟨rfl, hvt1⟩
      have t1 := hvt1
      refine hK _ _ ⟨t1, ?_⟩
      try simp only [Act.put, List.setIfInBounds_toArray, List.set_cons_zero, List.set_cons_succ]
      refine wpAnyH_takeD (some 10) (i := 5) (v := ?_) rfl rfl (by kernel_rfl) (by kernel_rfl) (by kernel_rfl) (fun _ _ _ h => h) (.inl ⟨by kernel_rfl, ?_⟩) t1 ?_
      rotate_left
      · intro w' hw'; obtain ⟨hw1, hw2, hw3, hw4, hw5, hw6, hw7, hw8, hw9, hw10, hw11⟩ := hw'; go_simp; try with_reducible rfl
      try simp only [Act.put, List.setIfInBounds_toArray, List.set_cons_zero, List.set_cons_succ]
      refine wpAnyH_takeD (some 11) (i := 6) (v := ?_) rfl rfl (by kernel_rfl) (by kernel_rfl) (by kernel_rfl) (fun _ _ _ h => h) (.inl ⟨by kernel_rfl, ?_⟩) t1 ?_
      rotate_left
      · intro w' hw'; obtain ⟨hw1, hw2, hw3, hw4, hw5, hw6, hw7, hw8, hw9, hw10, hw11⟩ := hw'; go_simp; try with_reducible rfl
      try simp only [Act.put, List.setIfInBounds_toArray, List.set_cons_zero, List.set_cons_succ]
      refine wpAnyH_takeD (some 12) (i := 7) (v := ?_) rfl rfl (by kernel_rfl) (by kernel_rfl) (by kernel_rfl) (fun _ _ _ h => h) (.inl ⟨by kernel_rfl, ?_⟩) t1 ?_
      rotate_left
      · intro w' hw'; obtain ⟨hw1, hw2, hw3, hw4, hw5, hw6, hw7, hw8, hw9, hw10, hw11⟩ := hw'; go_simp; try with_reducible rfl
      try simp only [Act.put, List.setIfInBounds_toArray, List.set_cons_zero, List.set_cons_succ]
      refine wpAnyH_takeD (some 13) (i := 8) (v := ?_) rfl rfl (by kernel_rfl) (by kernel_rfl) (by kernel_rfl) (fun _ _ _ h => h) (.inl ⟨by kernel_rfl, ?_⟩) t1 ?_
      rotate_left
      · intro w' hw'; obtain ⟨hw1, hw2, hw3, hw4, hw5, hw6, hw7, hw8, hw9, hw10, hw11⟩ := hw'; go_simp; try with_reducible rfl
      try simp only [Act.put, List.setIfInBounds_toArray, List.set_cons_zero, List.set_cons_succ]
      refine wpAnyH_takeD (some 14) (i := 9) (v := ?_) rfl rfl (by kernel_rfl) (by kernel_rfl) (by kernel_rfl) (fun _ _ _ h => h) (.inl ⟨by kernel_rfl, ?_⟩) t1 ?_
      rotate_left
      · intro w' hw'; obtain ⟨hw1, hw2, hw3, hw4, hw5, hw6, hw7, hw8, hw9, hw10, hw11⟩ := hw'; go_simp; try with_reducible rfl
      try simp only [Act.put, List.setIfInBounds_toArray, List.set_cons_zero, List.set_cons_succ]
      refine wpAnyH_takeD (some 15) (i := 10) (v := ?_) rfl rfl (by kernel_rfl) (by kernel_rfl) (by kernel_rfl) (fun _ _ _ h => h) (.inl ⟨by kernel_rfl, ?_⟩) t1 ?_
      rotate_left
      · intro w' hw'; obtain ⟨hw1, hw2, hw3, hw4, hw5, hw6, hw7, hw8, hw9, hw10, hw11⟩ := hw'; go_simp; try with_reducible rfl
      try simp only [Act.put, List.setIfInBounds_toArray, List.set_cons_zero, List.set_cons_succ]
      refine wpAnyH_all (rs := [11]) (by kernel_rfl) (by simp) ?_
      intro i hi; simp only [List.mem_singleton] at hi; subst hi
      refine wpOp_step rfl (fun K hK => ?_)
      go_simp
      with_reducible refine (HV.out _ t1).mono ?_
      rintro e vt2 ⟨rfl, hvt2⟩
      have t2 := hvt2
      refine hK _ _ ⟨t2, ?_⟩
      try simp only [Act.put, List.setIfInBounds_toArray, List.set_cons_zero, List.set_cons_succ]
      refine wpAnyH_takeD (some 17) (i := 12) (v := ?_) rfl rfl (by kernel_rfl) (by kernel_rfl) (by kernel_rfl) (fun _ _ _ h => h) (.inl ⟨by kernel_rfl, ?_⟩) t2 ?_
      rotate_left
      · intro w' hw'; obtain ⟨hw1, hw2, hw3, hw4, hw5, hw6, hw7, hw8, hw9, hw10, hw11⟩ := hw'; go_simp; try with_reducible rfl
      try simp only [Act.put, List.setIfInBounds_toArray, List.set_cons_zero, List.set_cons_succ]
      refine wpAnyH_takeD (some 18) (i := 13) (v := ?_) rfl rfl (by kernel_rfl) (by kernel_rfl) (by kernel_rfl) (fun _ _ _ h => h) (.inl ⟨by kernel_rfl, ?_⟩) t2 ?_
      rotate_left
      · intro w' hw'; obtain ⟨hw1, hw2, hw3, hw4, hw5, hw6, hw7, hw8, hw9, hw10, hw11⟩ := hw'; go_simp; try with_reducible rfl
      try simp only [Act.put, List.setIfInBounds_toArray, List.set_cons_zero, List.set_cons_succ]
      refine wpAnyH_takeD (some 19) (i := 14) (v := ?_) rfl rfl (by kernel_rfl) (by kernel_rfl) (by kernel_rfl) (fun _ _ _ h => h) (.inl ⟨by kernel_rfl, ?_⟩) t2 ?_
      rotate_left
      · intro w' hw'; obtain ⟨hw1, hw2, hw3, hw4, hw5, hw6, hw7, hw8, hw9, hw10, hw11⟩ := hw'; go_simp; try with_reducible rfl
      try simp only [Act.put, List.setIfInBounds_toArray, List.set_cons_zero, List.set_cons_succ]
      refine wpAnyH_takeD (some 20) (i := 15) (v := ?_) rfl rfl (by kernel_rfl) (by kernel_rfl) (by kernel_rfl) (fun _ _ _ h => h) (.inl ⟨by kernel_rfl, ?_⟩) t2 ?_
      rotate_left
      · intro w' hw'; obtain ⟨hw1, hw2, hw3, hw4, hw5, hw6, hw7, hw8, hw9, hw10, hw11⟩ := hw'; go_simp; try with_reducible rfl
      try simp only [Act.put, List.setIfInBounds_toArray, List.set_cons_zero, List.set_cons_succ]
      refine wpAnyH_takeD (some 21) (i := 16) (v := ?_) rfl rfl (by kernel_rfl) (by kernel_rfl) (by kernel_rfl) (fun _ _ _ h => h) (.inl ⟨by kernel_rfl, ?_⟩) t2 ?_
      rotate_left
      · intro w' hw'; obtain ⟨hw1, hw2, hw3, hw4, hw5, hw6, hw7, hw8, hw9, hw10, hw11⟩ := hw'; go_simp; try with_reducible rfl
      try simp only [Act.put, List.setIfInBounds_toArray, List.set_cons_zero, List.set_cons_succ]
      refine wpAnyH_takeD (some 22) (i := 17) (v := ?_) rfl rfl (by kernel_rfl) (by kernel_rfl) (by kernel_rfl) (fun _ _ _ h => h) (.inl ⟨by kernel_rfl, ?_⟩) t2 ?_
      rotate_left
      · intro w' hw'; obtain ⟨hw1, hw2, hw3, hw4, hw5, hw6, hw7, hw8, hw9, hw10, hw11⟩ := hw'; go_simp; try with_reducible rfl
      try simp only [Act.put, List.setIfInBounds_toArray, List.set_cons_zero, List.set_cons_succ]
      refine wpAnyH_takeD (some 23) (i := 18) (v := ?_) rfl rfl (by kernel_rfl) (by kernel_rfl) (by kernel_rfl) (fun _ _ _ h => h) (.inl ⟨by kernel_rfl, ?_⟩) t2 ?_
      rotate_left
      · intro w' hw'; obtain ⟨hw1, hw2, hw3, hw4, hw5, hw6, hw7, hw8, hw9, hw10, hw11⟩ := hw'; go_simp; try with_reducible rfl
      try simp only [Act.put, List.setIfInBounds_toArray, List.set_cons_zero, List.set_cons_succ]
      refine wpAnyH_takeD (some 24) (i := 19) (v := ?_) rfl rfl (by kernel_rfl) (by kernel_rfl) (by kernel_rfl) (fun _ _ _ h => h) (.inl ⟨by kernel_rfl, ?_⟩) t2 ?_
      rotate_left
      · intro w' hw'; obtain ⟨hw1, hw2, hw3, hw4, hw5, hw6, hw7, hw8, hw9, hw10, hw11⟩ := hw'; go_simp; try with_reducible rfl
      try simp only [Act.put, List.setIfInBounds_toArray, List.set_cons_zero, List.set_cons_succ]
      refine wpAnyH_takeD (some 25) (i := 20) (v := ?_) rfl rfl (by kernel_rfl) (by kernel_rfl) (by kernel_rfl) (fun _ _ _ h => h) (.inl ⟨by kernel_rfl, ?_⟩) t2 ?_
      rotate_left
      · intro w' hw'; obtain ⟨hw1, hw2, hw3, hw4, hw5, hw6, hw7, hw8, hw9, hw10, hw11⟩ := hw'; go_simp; try with_reducible rfl
      try simp only [Act.put, List.setIfInBounds_toArray, List.set_cons_zero, List.set_cons_succ]
      refine wpAnyH_takeD (some 26) (i := 21) (v := ?_) rfl rfl (by kernel_rfl) (by kernel_rfl) (by kernel_rfl) (fun _ _ _ h => h) (.inl ⟨by kernel_rfl, ?_⟩) t2 ?_
      rotate_left
      · intro w' hw'; obtain ⟨hw1, hw2, hw3, hw4, hw5, hw6, hw7, hw8, hw9, hw10, hw11⟩ := hw'; go_simp; try with_reducible rfl
      try simp only [Act.put, List.setIfInBounds_toArray, List.set_cons_zero, List.set_cons_succ]
      refine wpAnyH_takeD (some 27) (i := 22) (v := ?_) rfl rfl (by kernel_rfl) (by kernel_rfl) (by kernel_rfl) (fun _ _ _ h => h) (.inl ⟨by kernel_rfl, ?_⟩) t2 ?_
      rotate_left
      · intro w' hw'; obtain ⟨hw1, hw2, hw3, hw4, hw5, hw6, hw7, hw8, hw9, hw10, hw11⟩ := hw'; go_simp; try with_reducible rfl
      try simp only [Act.put, List.setIfInBounds_toArray, List.set_cons_zero, List.set_cons_succ]
      refine wpAnyH_takeD (some 28) (i := 23) (v := ?_) rfl rfl (by kernel_rfl) (by kernel_rfl) (by kernel_rfl) (fun _ _ _ h => h) (.inl ⟨by kernel_rfl, ?_⟩) t2 ?_
      rotate_left
      · intro w' hw'; obtain ⟨hw1, hw2, hw3, hw4, hw5, hw6, hw7, hw8, hw9, hw10, hw11⟩ := hw'; go_simp; try with_reducible rfl
      try simp only [Act.put, List.setIfInBounds_toArray, List.set_cons_zero, List.set_cons_succ]
      refine wpAnyH_takeD (some 29) (i := 24) (v := ?_) rfl rfl (by kernel_rfl) (by kernel_rfl) (by kernel_rfl) (fun _ _ _ h => h) (.inl ⟨by kernel_rfl, ?_⟩) t2 ?_
      rotate_left
      · intro w' hw'; obtain ⟨hw1, hw2, hw3, hw4, hw5, hw6, hw7, hw8, hw9, hw10, hw11⟩ := hw'; go_simp; try with_reducible rfl
      try simp only [Act.put, List.setIfInBounds_toArray, List.set_cons_zero, List.set_cons_succ]
      refine wpAnyH_takeD (some 30) (i := 25) (v := ?_) rfl rfl (by kernel_rfl) (by kernel_rfl) (by kernel_rfl) (fun _ _ _ h => h) (.inl ⟨by kernel_rfl, ?_⟩) t2 ?_
      rotate_left
      · intro w' hw'; obtain ⟨hw1, hw2, hw3, hw4, hw5, hw6, hw7, hw8, hw9, hw10, hw11⟩ := hw'; go_simp; try with_reducible rfl
      try simp only [Act.put, List.setIfInBounds_toArray, List.set_cons_zero, List.set_cons_succ]
      refine wpAnyH_all (rs := [26]) (by kernel_rfl) (by simp) ?_
      intro i hi; simp only [List.mem_singleton] at hi; subst hi
      refine wpOp_step rfl (fun K hK => ?_)
      go_simp
      with_reducible refine (HT.out _ t2).mono ?_
      rintro e vt3 ⟨rfl, hvt3⟩
      have t3 := hvt3
      refine hK _ _ ⟨t3, ?_⟩
      try simp only [Act.put, List.setIfInBounds_toArray, List.set_cons_zero, List.set_cons_succ]
      refine wpAnyH_takeD (some 32) (i := 27) (v := ?_) rfl rfl (by kernel_rfl) (by kernel_rfl) (by kernel_rfl) (fun _ _ _ h => h) (.inl ⟨by kernel_rfl, ?_⟩) t3 ?_
      rotate_left
      · intro w' hw'; obtain ⟨hw1, hw2, hw3, hw4, hw5, hw6, hw7, hw8, hw9, hw10, hw11⟩ := hw'; go_simp; try with_reducible rfl
      try simp only [Act.put, List.setIfInBounds_toArray, List.set_cons_zero, List.set_cons_succ]
      refine wpAnyH_takeD (some 33) (i := 28) (v := ?_) rfl rfl (by kernel_rfl) (by kernel_rfl) (by kernel_rfl) (fun _ _ _ h => h) (.inl ⟨by kernel_rfl, ?_⟩) t3 ?_
      rotate_left
      · intro w' hw'; obtain ⟨hw1, hw2, hw3, hw4, hw5, hw6, hw7, hw8, hw9, hw10, hw11⟩ := hw'; go_simp; try with_reducible rfl
      try simp only [Act.put, List.setIfInBounds_toArray, List.set_cons_zero, List.set_cons_succ]
      refine wpAnyH_takeD (some 4) (i := 29) (v := ?_) rfl rfl (by kernel_rfl) (by kernel_rfl) (by kernel_rfl) (fun _ _ _ h => h) (.inl ⟨by kernel_rfl, ?_⟩) t3 ?_
      rotate_left
      · intro w' hw'; obtain ⟨hw1, hw2, hw3, hw4, hw5, hw6, hw7, hw8, hw9, hw10, hw11⟩ := hw'; go_simp; try with_reducible rfl
      try simp only [Act.put, List.setIfInBounds_toArray, List.set_cons_zero, List.set_cons_succ]
      refine wpAnyH_done (by kernel_rfl) ?_ _
      go_wp2_with fail
      go_ret
      exact ⟨rfl, t3.1⟩
  · have e1 : (decide (1 ≤ n) && decide (n ≤ 1000000)) = false := by simpa using fun a => by omega
    rw [e1] at HN
    rw [gen_number hk]
    clear hk e1
    go_enter Try.func20, Try.ntmps20
    go_wp2_with fail
    refine wp_region_held (S := (fun w' : World => Below w.heap.size w w' ∧ w'.cell? ⟨g, o, none⟩ = some (.int .i64 n) ∧ w'.cell? ⟨g, o + 1, none⟩ = some (.int .u8 d0) ∧ w'.cell? ⟨g, o + 2, none⟩ = some (.int .u8 d1) ∧ w'.cell? ⟨g, o + 3, none⟩ = some (.int .u8 d2) ∧ w'.cell? ⟨g, o + 4, none⟩ = some (.int .u8 d3) ∧ w'.cell? ⟨g, o + 5, none⟩ = some (.int .u8 d4) ∧ w'.cell? ⟨g, o + 6, none⟩ = some (.int .u8 d5) ∧ w'.cell? ⟨g, o + 7, none⟩ = some (.int .u8 d6) ∧ w'.cell? ⟨g, o + 8, none⟩ = some (.int .u8 d7) ∧ w'.cell? ⟨g, o + 9, none⟩ = some (.int .u16 c))) (by kernel_rfl) ?_
    change wpAnyH _ _ _ _ _ _ _ _ (World.drew _)
    have t0 : ((fun w' : World => Below w.heap.size w w' ∧ w'.cell? ⟨g, o, none⟩ = some (.int .i64 n) ∧ w'.cell? ⟨g, o + 1, none⟩ = some (.int .u8 d0) ∧ w'.cell? ⟨g, o + 2, none⟩ = some (.int .u8 d1) ∧ w'.cell? ⟨g, o + 3, none⟩ = some (.int .u8 d2) ∧ w'.cell? ⟨g, o + 4, none⟩ = some (.int .u8 d3) ∧ w'.cell? ⟨g, o + 5, none⟩ = some (.int .u8 d4) ∧ w'.cell? ⟨g, o + 6, none⟩ = some (.int .u8 d5) ∧ w'.cell? ⟨g, o + 7, none⟩ = some (.int .u8 d6) ∧ w'.cell? ⟨g, o + 8, none⟩ = some (.int .u8 d7) ∧ w'.cell? ⟨g, o + 9, none⟩ = some (.int .u16 c))) _ := HS0.out
    refine wpAnyH_takeD (some 5) (i := 0) (v := ?_) rfl rfl (by kernel_rfl) (by kernel_rfl) (by kernel_rfl) (fun _ _ _ h => h) (.inl ⟨by kernel_rfl, ?_⟩) t0 ?_
    rotate_left
    · intro w' hw'; obtain ⟨hw1, hw2, hw3, hw4, hw5, hw6, hw7, hw8, hw9, hw10, hw11⟩ := hw'; go_simp; try with_reducible rfl
    try simp only [Act.put, List.setIfInBounds_toArray, List.set_cons_zero, List.set_cons_succ]
    refine wpAnyH_takeD (some 6) (i := 1) (v := ?_) rfl rfl (by kernel_rfl) (by kernel_rfl) (by kernel_rfl) (fun _ _ _ h => h) (.inl ⟨by kernel_rfl, ?_⟩) t0 ?_
    rotate_left
    · intro w' hw'; obtain ⟨hw1, hw2, hw3, hw4, hw5, hw6, hw7, hw8, hw9, hw10, hw11⟩ := hw'; go_simp; try with_reducible rfl
    try simp only [Act.put, List.setIfInBounds_toArray, List.set_cons_zero, List.set_cons_succ]
    refine wpAnyH_takeD (some 7) (i := 2) (v := ?_) rfl rfl (by kernel_rfl) (by kernel_rfl) (by kernel_rfl) (fun _ _ _ h => h) (.inl ⟨by kernel_rfl, ?_⟩) t0 ?_
    rotate_left
    · intro w' hw'; obtain ⟨hw1, hw2, hw3, hw4, hw5, hw6, hw7, hw8, hw9, hw10, hw11⟩ := hw'; go_simp; try with_reducible rfl
    try simp only [Act.put, List.setIfInBounds_toArray, List.set_cons_zero, List.set_cons_succ]
    refine wpAnyH_takeD (some 8) (i := 3) (v := ?_) rfl rfl (by kernel_rfl) (by kernel_rfl) (by kernel_rfl) (fun _ _ _ h => h) (.inl ⟨by kernel_rfl, ?_⟩) t0 ?_
    rotate_left
    · intro w' hw'; obtain ⟨hw1, hw2, hw3, hw4, hw5, hw6, hw7, hw8, hw9, hw10, hw11⟩ := hw'; go_simp; try with_reducible rfl
    try simp only [Act.put, List.setIfInBounds_toArray, List.set_cons_zero, List.set_cons_succ]
    refine wpAnyH_all (rs := [4]) (by kernel_rfl) (by simp) ?_
    intro i hi; simp only [List.mem_singleton] at hi; subst hi
    refine wpOp_step rfl (fun K hK => ?_)
    go_simp
    with_reducible refine (HN.out _ t0).mono ?_
    rintro e vt1 ⟨rfl, hvt1⟩
    have t1 := hvt1
    refine hK _ _ ⟨t1, ?_⟩
    try simp only [Act.put, List.setIfInBounds_toArray, List.set_cons_zero, List.set_cons_succ]
    refine wpAnyH_takeD (some 10) (i := 5) (v := ?_) rfl rfl (by kernel_rfl) (by kernel_rfl) (by kernel_rfl) (fun _ _ _ h => h) (.inl ⟨by kernel_rfl, ?_⟩) t1 ?_
    rotate_left
    · intro w' hw'; obtain ⟨hw1, hw2, hw3, hw4, hw5, hw6, hw7, hw8, hw9, hw10, hw11⟩ := hw'; go_simp; try with_reducible rfl
    try simp only [Act.put, List.setIfInBounds_toArray, List.set_cons_zero, List.set_cons_succ]
    refine wpAnyH_takeD (some 11) (i := 6) (v := undef) rfl rfl (by kernel_rfl) (by kernel_rfl) (by kernel_rfl) (fun _ _ _ h => h) (.inr ⟨by kernel_rfl, rfl⟩) t1 ?_
    try simp only [Act.put, List.setIfInBounds_toArray, List.set_cons_zero, List.set_cons_succ]
    refine wpAnyH_takeD (some 12) (i := 7) (v := undef) rfl rfl (by kernel_rfl) (by kernel_rfl) (by kernel_rfl) (fun _ _ _ h => h) (.inr ⟨by kernel_rfl, rfl⟩) t1 ?_
    try simp only [Act.put, List.setIfInBounds_toArray, List.set_cons_zero, List.set_cons_succ]
    refine wpAnyH_takeD (some 13) (i := 8) (v := undef) rfl rfl (by kernel_rfl) (by kernel_rfl) (by kernel_rfl) (fun _ _ _ h => h) (.inr ⟨by kernel_rfl, rfl⟩) t1 ?_
    try simp only [Act.put, List.setIfInBounds_toArray, List.set_cons_zero, List.set_cons_succ]
    refine wpAnyH_takeD (some 14) (i := 9) (v := undef) rfl rfl (by kernel_rfl) (by kernel_rfl) (by kernel_rfl) (fun _ _ _ h => h) (.inr ⟨by kernel_rfl, rfl⟩) t1 ?_
    try simp only [Act.put, List.setIfInBounds_toArray, List.set_cons_zero, List.set_cons_succ]
    refine wpAnyH_takeD (some 15) (i := 10) (v := undef) rfl rfl (by kernel_rfl) (by kernel_rfl) (by kernel_rfl) (fun _ _ _ h => h) (.inr ⟨by kernel_rfl, rfl⟩) t1 ?_
    try simp only [Act.put, List.setIfInBounds_toArray, List.set_cons_zero, List.set_cons_succ]
    refine wpAnyH_takeD (some 16) (i := 11) (v := undef) rfl rfl (by kernel_rfl) (by kernel_rfl) (by kernel_rfl) (fun _ _ _ h => h) (.inr ⟨by kernel_rfl, rfl⟩) t1 ?_
    try simp only [Act.put, List.setIfInBounds_toArray, List.set_cons_zero, List.set_cons_succ]
    refine wpAnyH_takeD (some 17) (i := 12) (v := ?_) rfl rfl (by kernel_rfl) (by kernel_rfl) (by kernel_rfl) (fun _ _ _ h => h) (.inl ⟨by kernel_rfl, ?_⟩) t1 ?_
    rotate_left
    · intro w' hw'; obtain ⟨hw1, hw2, hw3, hw4, hw5, hw6, hw7, hw8, hw9, hw10, hw11⟩ := hw'; go_simp; try with_reducible rfl
    try simp only [Act.put, List.setIfInBounds_toArray, List.set_cons_zero, List.set_cons_succ]
    refine wpAnyH_takeD (some 18) (i := 13) (v := ?_) rfl rfl (by kernel_rfl) (by kernel_rfl) (by kernel_rfl) (fun _ _ _ h => h) (.inl ⟨by kernel_rfl, ?_⟩) t1 ?_
    rotate_left
    · intro w' hw'; obtain ⟨hw1, hw2, hw3, hw4, hw5, hw6, hw7, hw8, hw9, hw10, hw11⟩ := hw'; go_simp; try with_reducible rfl
    try simp only [Act.put, List.setIfInBounds_toArray, List.set_cons_zero, List.set_cons_succ]
    refine wpAnyH_takeD (some 19) (i := 14) (v := undef) rfl rfl (by kernel_rfl) (by kernel_rfl) (by kernel_rfl) (fun _ _ _ h => h) (.inr ⟨by kernel_rfl, rfl⟩) t1 ?_
    try simp only [Act.put, List.setIfInBounds_toArray, List.set_cons_zero, List.set_cons_succ]
    refine wpAnyH_takeD (some 20) (i := 15) (v := undef) rfl rfl (by kernel_rfl) (by kernel_rfl) (by kernel_rfl) (fun _ _ _ h => h) (.inr ⟨by kernel_rfl, rfl⟩) t1 ?_
    try simp only [Act.put, List.setIfInBounds_toArray, List.set_cons_zero, List.set_cons_succ]
    refine wpAnyH_takeD (some 21) (i := 16) (v := undef) rfl rfl (by kernel_rfl) (by kernel_rfl) (by kernel_rfl) (fun _ _ _ h => h) (.inr ⟨by kernel_rfl, rfl⟩) t1 ?_
    try simp only [Act.put, List.setIfInBounds_toArray, List.set_cons_zero, List.set_cons_succ]
    refine wpAnyH_takeD (some 22) (i := 17) (v := undef) rfl rfl (by kernel_rfl) (by kernel_rfl) (by kernel_rfl) (fun _ _ _ h => h) (.inr ⟨by kernel_rfl, rfl⟩) t1 ?_
    try simp only [Act.put, List.setIfInBounds_toArray, List.set_cons_zero, List.set_cons_succ]
    refine wpAnyH_takeD (some 23) (i := 18) (v := undef) rfl rfl (by kernel_rfl) (by kernel_rfl) (by kernel_rfl) (fun _ _ _ h => h) (.inr ⟨by kernel_rfl, rfl⟩) t1 ?_
    try simp only [Act.put, List.setIfInBounds_toArray, List.set_cons_zero, List.set_cons_succ]
    refine wpAnyH_takeD (some 24) (i := 19) (v := undef) rfl rfl (by kernel_rfl) (by kernel_rfl) (by kernel_rfl) (fun _ _ _ h => h) (.inr ⟨by kernel_rfl, rfl⟩) t1 ?_
    try simp only [Act.put, List.setIfInBounds_toArray, List.set_cons_zero, List.set_cons_succ]
    refine wpAnyH_takeD (some 25) (i := 20) (v := undef) rfl rfl (by kernel_rfl) (by kernel_rfl) (by kernel_rfl) (fun _ _ _ h => h) (.inr ⟨by kernel_rfl, rfl⟩) t1 ?_
    try simp only [Act.put, List.setIfInBounds_toArray, List.set_cons_zero, List.set_cons_succ]
    refine wpAnyH_takeD (some 26) (i := 21) (v := undef) rfl rfl (by kernel_rfl) (by kernel_rfl) (by kernel_rfl) (fun _ _ _ h => h) (.inr ⟨by kernel_rfl, rfl⟩) t1 ?_
    try simp only [Act.put, List.setIfInBounds_toArray, List.set_cons_zero, List.set_cons_succ]
    refine wpAnyH_takeD (some 27) (i := 22) (v := undef) rfl rfl (by kernel_rfl) (by kernel_rfl) (by kernel_rfl) (fun _ _ _ h => h) (.inr ⟨by kernel_rfl, rfl⟩) t1 ?_
    try simp only [Act.put, List.setIfInBounds_toArray, List.set_cons_zero, List.set_cons_succ]
    refine wpAnyH_takeD (some 28) (i := 23) (v := undef) rfl rfl (by kernel_rfl) (by kernel_rfl) (by kernel_rfl) (fun _ _ _ h => h) (.inr ⟨by kernel_rfl, rfl⟩) t1 ?_
    try simp only [Act.put, List.setIfInBounds_toArray, List.set_cons_zero, List.set_cons_succ]
    refine wpAnyH_takeD (some 29) (i := 24) (v := undef) rfl rfl (by kernel_rfl) (by kernel_rfl) (by kernel_rfl) (fun _ _ _ h => h) (.inr ⟨by kernel_rfl, rfl⟩) t1 ?_
    try simp only [Act.put, List.setIfInBounds_toArray, List.set_cons_zero, List.set_cons_succ]
    refine wpAnyH_takeD (some 30) (i := 25) (v := undef) rfl rfl (by kernel_rfl) (by kernel_rfl) (by kernel_rfl) (fun _ _ _ h => h) (.inr ⟨by kernel_rfl, rfl⟩) t1 ?_
    try simp only [Act.put, List.setIfInBounds_toArray, List.set_cons_zero, List.set_cons_succ]
    refine wpAnyH_takeD (some 31) (i := 26) (v := undef) rfl rfl (by kernel_rfl) (by kernel_rfl) (by kernel_rfl) (fun _ _ _ h => h) (.inr ⟨by kernel_rfl, rfl⟩) t1 ?_
    try simp only [Act.put, List.setIfInBounds_toArray, List.set_cons_zero, List.set_cons_succ]
    refine wpAnyH_takeD (some 32) (i := 27) (v := undef) rfl rfl (by kernel_rfl) (by kernel_rfl) (by kernel_rfl) (fun _ _ _ h => h) (.inr ⟨by kernel_rfl, rfl⟩) t1 ?_
    try simp only [Act.put, List.setIfInBounds_toArray, List.set_cons_zero, List.set_cons_succ]
    refine wpAnyH_takeD (some 33) (i := 28) (v := ?_) rfl rfl (by kernel_rfl) (by kernel_rfl) (by kernel_rfl) (fun _ _ _ h => h) (.inl ⟨by kernel_rfl, ?_⟩) t1 ?_
    rotate_left
    · intro w' hw'; obtain ⟨hw1, hw2, hw3, hw4, hw5, hw6, hw7, hw8, hw9, hw10, hw11⟩ := hw'; go_simp; try with_reducible rfl
    try simp only [Act.put, List.setIfInBounds_toArray, List.set_cons_zero, List.set_cons_succ]
    refine wpAnyH_takeD (some 4) (i := 29) (v := ?_) rfl rfl (by kernel_rfl) (by kernel_rfl) (by kernel_rfl) (fun _ _ _ h => h) (.inl ⟨by kernel_rfl, ?_⟩) t1 ?_
    rotate_left
    · intro w' hw'; obtain ⟨hw1, hw2, hw3, hw4, hw5, hw6, hw7, hw8, hw9, hw10, hw11⟩ := hw'; go_simp; try with_reducible rfl
    try simp only [Act.put, List.setIfInBounds_toArray, List.set_cons_zero, List.set_cons_succ]
    refine wpAnyH_done (by kernel_rfl) ?_ _
    go_wp2_with fail
    go_ret
    exact ⟨rfl, t1.1⟩
end Go.Proofs.Ytnfgapgjkkeofaa
