/- How many digits are among marks: the program's and the model's. -/
import Derived.Test.YtgfdfnlbkljgeaaPop
import Derived.Test.YtgfdfnlbkljgeaaHeld
namespace Go.Proofs.Ytgfdfnlbkljgeaa
open Go.RowKit
set_option maxRecDepth 100000 in
set_option maxHeartbeats 1000000 in
theorem count_any (x y : Int) (w : World) (hx : 0 ≤ x ∧ x ≤ 18446744073709551615) (hy : 0 ≤ y ∧ y ≤ 18446744073709551615) :
    Calls Try.prog 76 #[.agg #[.int .u64 x, .int .u64 y]] w fun e w' => e = .returned (.int .i64 (cntM x y)) ∧ Below w.heap.size w w' := by
  have r1 := Row.new w 29 [.int .u64 x, .int .u64 y]
  have c0 := r1.cell 0; have c1 := r1.cell 1
  simp only [List.getElem?_cons_zero, List.getElem?_cons_succ] at c0 c1
  have HX := hid (fun w => ones_pop x w hx)
  have HY := hid (fun w => ones_pop y w hy)
  have b1 := popB_le x.toNat (by omega)
  have b2 := popB_le y.toNat (by omega)
  have hB : Below w.heap.size w (w.alloc (.cells #[.int .u64 x, .int .u64 y] 29)) := (Below.refl _ _).alloc (Nat.le_refl _) _
  unfold cntM
  obtain ⟨p, hp⟩ : ∃ p, p = popB x.toNat := ⟨_, rfl⟩
  obtain ⟨q, hq⟩ : ∃ q, q = popB y.toNat := ⟨_, rfl⟩
  rw [← hp] at b1 HX ⊢
  rw [← hq] at b2 HY ⊢
  have hwr : IntKind.i64.wrap ((p : Int) + (q : Int)) = (p : Int) + (q : Int) := IntWalk.i64_in _ (by omega)
  clear hp hq hx hy r1
  go_enter Try.func76, Try.ntmps76
  go_wp2_with fail
  refine wp_region_held (S := fun W' : World => W'.cell? ⟨w.heap.size, 0, none⟩ = some (.int .u64 x) ∧ W'.cell? ⟨w.heap.size, 1, none⟩ = some (.int .u64 y)) (by kernel_rfl) ?_
  change wpAnyH _ _ _ _ _ _ _ _ (World.drew _)
  have hS0 : (fun W' : World => W'.cell? ⟨w.heap.size, 0, none⟩ = some (.int .u64 x) ∧ W'.cell? ⟨w.heap.size, 1, none⟩ = some (.int .u64 y)) (w.alloc (.cells #[.int .u64 x, .int .u64 y] 29)).drew := ⟨c0, c1⟩
  refine wpAnyH_takeD (some 3) (i := 0) (v := ?_) rfl rfl (by kernel_rfl) (by kernel_rfl) (by kernel_rfl) (fun _ _ _ h => h) (.inl ⟨by kernel_rfl, ?_⟩) hS0 ?_
  rotate_left
  · intro w' hw'; obtain ⟨hw1, hw2⟩ := hw'; go_simp; try with_reducible rfl
  try simp only [Act.put, List.setIfInBounds_toArray, List.set_cons_zero, List.set_cons_succ]
  refine wpAnyH_takeD (some 4) (i := 1) (v := ?_) rfl rfl (by kernel_rfl) (by kernel_rfl) (by kernel_rfl) (fun _ _ _ h => h) (.inl ⟨by kernel_rfl, ?_⟩) hS0 ?_
  rotate_left
  · intro w' hw'; obtain ⟨hw1, hw2⟩ := hw'; go_simp; try with_reducible rfl
  try simp only [Act.put, List.setIfInBounds_toArray, List.set_cons_zero, List.set_cons_succ]
  refine wpAnyH_takeD (some 6) (i := 3) (v := ?_) rfl rfl (by kernel_rfl) (by kernel_rfl) (by kernel_rfl) (fun _ _ _ h => h) (.inl ⟨by kernel_rfl, ?_⟩) hS0 ?_
  rotate_left
  · intro w' hw'; obtain ⟨hw1, hw2⟩ := hw'; go_simp; try with_reducible rfl
  try simp only [Act.put, List.setIfInBounds_toArray, List.set_cons_zero, List.set_cons_succ]
  refine wpAnyH_takeD (some 7) (i := 4) (v := ?_) rfl rfl (by kernel_rfl) (by kernel_rfl) (by kernel_rfl) (fun _ _ _ h => h) (.inl ⟨by kernel_rfl, ?_⟩) hS0 ?_
  rotate_left
  · intro w' hw'; obtain ⟨hw1, hw2⟩ := hw'; go_simp; try with_reducible rfl
  try simp only [Act.put, List.setIfInBounds_toArray, List.set_cons_zero, List.set_cons_succ]
  refine wpAnyH_all (rs := [2]) (by kernel_rfl) (by simp) ?_
  intro i hi; simp only [List.mem_singleton] at hi; subst hi
  refine wpOp_step rfl (fun K hK => ?_)
  go_simp
  with_reducible refine (HX.out _).mono ?_
  rintro e W' ⟨rfl, rfl⟩
  refine hK _ _ ⟨hS0, ?_⟩
  try simp only [Act.put, List.setIfInBounds_toArray, List.set_cons_zero, List.set_cons_succ]
  refine wpAnyH_all (rs := [5]) (by kernel_rfl) (by simp) ?_
  intro i hi; simp only [List.mem_singleton] at hi; subst hi
  refine wpOp_step rfl (fun K hK => ?_)
  go_simp
  with_reducible refine (HY.out _).mono ?_
  rintro e W' ⟨rfl, rfl⟩
  refine hK _ _ ⟨hS0, ?_⟩
  try simp only [Act.put, List.setIfInBounds_toArray, List.set_cons_zero, List.set_cons_succ]
  refine wpAnyH_takeD (some 9) (i := 6) (v := ?_) rfl rfl (by kernel_rfl) (by kernel_rfl) (by kernel_rfl) (fun _ _ _ h => h) (.inl ⟨by kernel_rfl, ?_⟩) hS0 ?_
  rotate_left
  · intro w' hw'; obtain ⟨hw1, hw2⟩ := hw'; go_simp; try with_reducible rfl
  try simp only [Act.put, List.setIfInBounds_toArray, List.set_cons_zero, List.set_cons_succ]
  refine wpAnyH_takeD (some 2) (i := 7) (v := ?_) rfl rfl (by kernel_rfl) (by kernel_rfl) (by kernel_rfl) (fun _ _ _ h => h) (.inl ⟨by kernel_rfl, ?_⟩) hS0 ?_
  rotate_left
  · intro w' hw'; go_simp; try with_reducible rfl
  try simp only [Act.put, List.setIfInBounds_toArray, List.set_cons_zero, List.set_cons_succ]
  refine wpAnyH_done (by kernel_rfl) ?_ _
  go_wp2_with fail
  go_ret
  exact ⟨rfl, hB.drew⟩
/-- what k words have -/
def cnTo (x y : Int) (k : Nat) : Nat := if k = 0 then 0 else if k = 1 then popB x.toNat else popB x.toNat + popB y.toNat
set_option maxRecDepth 100000 in
set_option maxHeartbeats 1000000 in
theorem l05Count_any (x y : Int) (w : World) (hx : 0 ≤ x ∧ x ≤ 18446744073709551615) (hy : 0 ≤ y ∧ y ≤ 18446744073709551615) :
    Calls Try.prog 75 #[.agg #[.int .u64 x, .int .u64 y]] w fun e w' => e = .returned (.int .i64 (cntM x y)) ∧ Below w.heap.size w w' := by
  have r1 := Row.new w 29 [.int .u64 x, .int .u64 y]
  have c0 := r1.cell 0; have c1 := r1.cell 1
  simp only [List.getElem?_cons_zero, List.getElem?_cons_succ] at c0 c1
  have hB : Below w.heap.size w (w.alloc (.cells #[.int .u64 x, .int .u64 y] 29)) := (Below.refl _ _).alloc (Nat.le_refl _) _
  have b1 := popB_le x.toNat (by omega)
  have b2 := popB_le y.toNat (by omega)
  have HC0 := hid c0; have HC1 := hid c1
  have HX := hid hx; have HY := hid hy
  have HB1 := hid b1; have HB2 := hid b2
  clear r1 c0 c1 hx hy b1 b2
  go_enter Try.func75, Try.ntmps75
  go_wp2_with fail
  go_loop [3, 4, 5] (fun n i _ => ∃ k : Nat, k ≤ 2 ∧ i = .int .i64 k ∧ n = .int .i64 (cnTo x y k : Nat)) (fun _ i _ => 2 - (intOf i).toNat)
  case atStart => exact ⟨0, by omega, rfl, rfl⟩
  case round =>
    obtain ⟨k, hk, rfl, rfl⟩ := hrel
    by_cases hlt : k < 2
    · obtain ⟨v, hv⟩ : ∃ v : Nat, (v : Int) = (if k = 0 then x else y) := by
        by_cases h0 : k = 0
        · obtain ⟨X, hX⟩ := Int.eq_ofNat_of_zero_le HX.out.1; exact ⟨X, by rw [if_pos h0]; exact hX.symm⟩
        · obtain ⟨Y, hY⟩ := Int.eq_ofNat_of_zero_le HY.out.1; exact ⟨Y, by rw [if_neg h0]; exact hY.symm⟩
      have hcell : (w.alloc (.cells #[.int .u64 x, .int .u64 y] 29)).cell? ⟨w.heap.size, k, none⟩ = some (.int .u64 (v : Int)) := by
        rw [hv]
        have : k = 0 ∨ k = 1 := by omega
        rcases this with rfl | rfl
        · exact HC0.out
        · exact HC1.out
      have hvb : v ≤ 18446744073709551615 := by
        have a := HX.out; have c := HY.out
        by_cases h0 : k = 0
        · rw [if_pos h0] at hv; omega
        · rw [if_neg h0] at hv; omega
      have hsum : cnTo x y (k + 1) = cnTo x y k + popB v := by
        have : k = 0 ∨ k = 1 := by omega
        rcases this with rfl | rfl
        · have e : v = x.toNat := by rw [if_pos rfl] at hv; omega
          subst e; simp [cnTo]
        · have e : v = y.toNat := by rw [if_neg (by omega)] at hv; omega
          subst e; simp [cnTo]
      have hle : cnTo x y (k + 1) ≤ 128 := by
        have a := HB1.out; have c := HB2.out
        unfold cnTo; split <;> (try split) <;> omega
      have HSUM := hid hsum
      have HLE := hid hle
      clear hv hsum hle
      go_wp2_with fail
      go_loop [3, 5] (fun n b => ∃ (c u : Nat), n = .int .i64 c ∧ b = .int .u64 u ∧ u ≤ v ∧ c + popB u = cnTo x y (k + 1)) (fun _ b => (intOf b).toNat)
      case atStart => exact ⟨_, v, rfl, rfl, Nat.le_refl _, HSUM.out.symm⟩
      case round =>
        obtain ⟨c, u, rfl, rfl, hu, hcu⟩ := hrel
        have hL := HLE.out
        by_cases h0 : u = 0
        · subst h0
          rw [popB_zero, Nat.add_zero] at hcu
          subst hcu
          have hne : (((0 : Nat) : Int) != 0) = false := by simp
          have HLO : k + 1 ≤ 2 := by omega
          go_wp2_with fail
          go_round
          case rel => exact ⟨k + 1, HLO, by go_num, rfl⟩
          case measure => simp [intOf]; omega
        · have hst := popB_step u
          have hne : ((u : Int) != 0) = true := by simp; omega
          have ha : bits .and .u64 (u : Int) 1 = ((u % 2 : Nat) : Int) := by
            rw [and_one_u64 (u : Int) (by omega) (by omega)]; omega
          have hcw : c + u % 2 ≤ 128 := by omega
          have hu0 : (0 : Int) ≤ (u : Int) := by omega
          have hu1 : (u : Int) ≤ 18446744073709551615 := by omega
          have HST := hid (show c + u % 2 + popB (u / 2) = cnTo x y (k + 1) by omega)
          have HU := hid (show u / 2 ≤ v by omega)
          have HU0 := hid h0
          clear hst hcu h0 hu
          go_wp2_with fail
          go_round
          case rel => exact ⟨c + u % 2, u / 2, by go_num, by go_num, HU.out, HST.out⟩
          case measure => have := HU0.out; simp [intOf]; omega
    · obtain rfl : k = 2 := by omega
      go_wp2_with fail
      go_ret
      exact ⟨by simp [cnTo, cntM], hB⟩
end Go.Proofs.Ytgfdfnlbkljgeaa
