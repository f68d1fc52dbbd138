/- What is in both of two photos, and in one of both: the program's. -/
import Derived.Test.YtgfdfnlbkljgeaaPhA
import Derived.Test.YtgfdfnlbkljgeaaHeld
namespace Go.Proofs.Ytgfdfnlbkljgeaa
open Go.RowKit
def andP (ps qs : List (Int × Int)) : List (Int × Int) := (List.range 8).map fun j => (bits BinOp.and IntKind.u64 (pa ps j) (pa qs j), bits BinOp.and IntKind.u64 (pb ps j) (pb qs j))
def orP (ps qs : List (Int × Int)) : List (Int × Int) := (List.range 8).map fun j => (bits BinOp.or IntKind.u64 (pa ps j) (pa qs j), bits BinOp.or IntKind.u64 (pb ps j) (pb qs j))
theorem meet_at (ps qs : List (Int × Int)) (k : Nat) (h : k < 8) : pa (andP ps qs) k = bits BinOp.and IntKind.u64 (pa ps k) (pa qs k) ∧ pb (andP ps qs) k = bits BinOp.and IntKind.u64 (pb ps k) (pb qs k) := by
  constructor <;> simp [andP, h, pa, pb]
theorem join_at (ps qs : List (Int × Int)) (k : Nat) (h : k < 8) : pa (orP ps qs) k = bits BinOp.or IntKind.u64 (pa ps k) (pa qs k) ∧ pb (orP ps qs) k = bits BinOp.or IntKind.u64 (pb ps k) (pb qs k) := by
  constructor <;> simp [orP, h, pa, pb]
set_option maxHeartbeats 400000 in
theorem meetMarks_any (x y u v : Int) (w : World) :
    Calls Try.prog 70 #[.agg #[.int .u64 x, .int .u64 y], .agg #[.int .u64 u, .int .u64 v]] w fun e w' => e = .returned (.agg #[.int .u64 (bits BinOp.and IntKind.u64 x u), .int .u64 (bits BinOp.and IntKind.u64 y v)]) ∧ Below w.heap.size w w' := by
  go_enter Try.func70, Try.ntmps70
  go_wp2_with fail
  exact bodyPost_ret (v := .agg #[.int .u64 (bits BinOp.and IntKind.u64 x u), .int .u64 (bits BinOp.and IntKind.u64 y v)]) (by simp [results, Try.results70, go_sem]) rfl ⟨rfl, (((Below.refl _ _).alloc (Nat.le_refl _) _).alloc (by simp) _).alloc (by simp; omega) _⟩
set_option maxHeartbeats 400000 in
theorem joinMarks_any (x y u v : Int) (w : World) :
    Calls Try.prog 81 #[.agg #[.int .u64 x, .int .u64 y], .agg #[.int .u64 u, .int .u64 v]] w fun e w' => e = .returned (.agg #[.int .u64 (bits BinOp.or IntKind.u64 x u), .int .u64 (bits BinOp.or IntKind.u64 y v)]) ∧ Below w.heap.size w w' := by
  go_enter Try.func81, Try.ntmps81
  go_wp2_with fail
  exact bodyPost_ret (v := .agg #[.int .u64 (bits BinOp.or IntKind.u64 x u), .int .u64 (bits BinOp.or IntKind.u64 y v)]) (by simp [results, Try.results81, go_sem]) rfl ⟨rfl, (((Below.refl _ _).alloc (Nat.le_refl _) _).alloc (by simp) _).alloc (by simp; omega) _⟩
set_option maxRecDepth 100000 in
set_option maxHeartbeats 2000000 in
theorem meet_any (ps qs : List (Int × Int)) (w : World) :
    Calls Try.prog 42 #[.agg (phL ps).toArray, .agg (phL qs).toArray] w fun e w' => e = .returned (.agg (phL (andP ps qs)).toArray) ∧ Below w.heap.size w w' := by
  have r0 := ((Row.new w 31 (phL ps)).alloc (.cells (phL qs).toArray 31)).alloc (.cells #[.int .u64 0, .int .u64 0, .int .u64 0, .int .u64 0, .int .u64 0, .int .u64 0, .int .u64 0, .int .u64 0, .int .u64 0, .int .u64 0, .int .u64 0, .int .u64 0, .int .u64 0, .int .u64 0, .int .u64 0, .int .u64 0] 31)
  have r1 := (Row.new (w.alloc (.cells (phL ps).toArray 31)) 31 (phL qs)).alloc (.cells #[.int .u64 0, .int .u64 0, .int .u64 0, .int .u64 0, .int .u64 0, .int .u64 0, .int .u64 0, .int .u64 0, .int .u64 0, .int .u64 0, .int .u64 0, .int .u64 0, .int .u64 0, .int .u64 0, .int .u64 0, .int .u64 0] 31)
  have r2 := (Row.new ((w.alloc (.cells (phL ps).toArray 31)).alloc (.cells (phL qs).toArray 31)) 31 [.int .u64 0, .int .u64 0, .int .u64 0, .int .u64 0, .int .u64 0, .int .u64 0, .int .u64 0, .int .u64 0, .int .u64 0, .int .u64 0, .int .u64 0, .int .u64 0, .int .u64 0, .int .u64 0, .int .u64 0, .int .u64 0]).zeros
  have hB : Below w.heap.size w (((w.alloc (.cells (phL ps).toArray 31)).alloc (.cells (phL qs).toArray 31)).alloc (.cells #[.int .u64 0, .int .u64 0, .int .u64 0, .int .u64 0, .int .u64 0, .int .u64 0, .int .u64 0, .int .u64 0, .int .u64 0, .int .u64 0, .int .u64 0, .int .u64 0, .int .u64 0, .int .u64 0, .int .u64 0, .int .u64 0] 31)) := (((Below.refl _ _).alloc (Nat.le_refl _) _).alloc (by simp) _).alloc (by simp; omega) _
  simp only [World.size_alloc] at r1 r2
  have hi := Try.infoPhoto
  go_enter Try.func42, Try.ntmps42
  go_wp2_with fail
  go_loopw [6] (fun i wr => ∃ k : Nat, k ≤ 8 ∧ i = .int .i64 k ∧ Row wr w.heap.size 31 (mix (andP ps qs) ps k) ∧ Row wr (w.heap.size + 1) 31 (phL qs) ∧ Row wr (w.heap.size + 1 + 1) 31 (phL []) ∧ Below w.heap.size w wr) (fun i _ => 8 - (intOf i).toNat)
  case atStart => exact ⟨0, Nat.zero_le _, rfl, by rw [mix_zero]; exact r0, r1, r2, hB⟩
  case round =>
    clear r0 r1 r2 hB
    obtain ⟨k, hk, rfl, r0, r1, r2, hB⟩ := hrel
    by_cases hlt : k < 8
    · obtain ⟨x, hx⟩ : ∃ x, x = pa ps k := ⟨_, rfl⟩
      obtain ⟨y, hy⟩ : ∃ y, y = pb ps k := ⟨_, rfl⟩
      obtain ⟨u, hu⟩ : ∃ u, u = pa qs k := ⟨_, rfl⟩
      obtain ⟨v, hv⟩ : ∃ v, v = pb qs k := ⟨_, rfl⟩
      obtain ⟨q1, q2⟩ := mix_at (andP ps qs) ps k k hlt (Nat.le_refl _)
      obtain ⟨q3, q4⟩ := phL_at qs k hlt
      have HC := hid (fun w => meetMarks_any x y u v w)
      have hP := meet_at ps qs k hlt
      rw [← hx, ← hy, ← hu, ← hv] at hP
      rw [← hP.1, ← hP.2] at HC
      have HQ := hid (And.intro q1 q2)
      rw [← hx] at q1
      rw [← hy] at q2
      rw [← hu] at q3
      rw [← hv] at q4
      have c1 := (r0.cell (k * 2)).trans q1
      have c2 := (r0.cell (k * 2 + 1)).trans q2
      have y1 := (r1.cell (k * 2)).trans q3
      have y2 := (r1.cell (k * 2 + 1)).trans q4
      have HR0 := hid r0; have HR1 := hid r1; have HR2 := hid r2
      have lq := r1.lt
      have hk0 : (0 : Int) ≤ (k : Int) := by omega
      have hlt0 : (k : Int) < 8 := by omega
      have hzr := hB.size
      clear hx hy hu hv hP r0 r1 r2 q1 q2 q3 q4
      go_wp2_with fail
      refine wp_region_held (S := fun W' : World => W'.cell? ⟨w.heap.size + 1, k * 2, none⟩ = some (.int .u64 u) ∧ W'.cell? ⟨w.heap.size + 1, k * 2 + 1, none⟩ = some (.int .u64 v)) (by kernel_rfl) ?_
      change wpAnyH _ _ _ _ _ _ _ _ (World.drew _)
      have hS0 : (fun W' : World => W'.cell? ⟨w.heap.size + 1, k * 2, none⟩ = some (.int .u64 u) ∧ W'.cell? ⟨w.heap.size + 1, k * 2 + 1, none⟩ = some (.int .u64 v)) wr.drew := ⟨y1, y2⟩
      refine wpAnyH_takeD (some 9) (i := 0) (v := ?_) rfl rfl (by kernel_rfl) (by kernel_rfl) (by kernel_rfl) (fun _ _ _ h => h) (.inl ⟨by kernel_rfl, ?_⟩) hS0 ?_
      rotate_left
      · intro w' hw'; obtain ⟨hw1, hw2⟩ := hw'; go_simp; try with_reducible rfl
      try simp only [Act.put, List.setIfInBounds_toArray, List.set_cons_zero, List.set_cons_succ]
      refine wpAnyH_takeD (some 10) (i := 1) (v := ?_) rfl rfl (by kernel_rfl) (by kernel_rfl) (by kernel_rfl) (fun _ _ _ h => h) (.inl ⟨by kernel_rfl, ?_⟩) hS0 ?_
      rotate_left
      · intro w' hw'; obtain ⟨hw1, hw2⟩ := hw'; go_simp; try with_reducible rfl
      try simp only [Act.put, List.setIfInBounds_toArray, List.set_cons_zero, List.set_cons_succ]
      refine wpAnyH_takeD (some 11) (i := 2) (v := ?_) rfl rfl (by kernel_rfl) (by kernel_rfl) (by kernel_rfl) (fun _ _ _ h => h) (.inl ⟨by kernel_rfl, ?_⟩) hS0 ?_
      rotate_left
      · intro w' hw'; obtain ⟨hw1, hw2⟩ := hw'; go_simp; try with_reducible rfl
      try simp only [Act.put, List.setIfInBounds_toArray, List.set_cons_zero, List.set_cons_succ]
      refine wpAnyH_takeD (some 13) (i := 4) (v := ?_) rfl rfl (by kernel_rfl) (by kernel_rfl) (by kernel_rfl) (fun _ _ _ h => h) (.inl ⟨by kernel_rfl, ?_⟩) hS0 ?_
      rotate_left
      · intro w' hw'; obtain ⟨hw1, hw2⟩ := hw'; go_simp; try with_reducible rfl
      try simp only [Act.put, List.setIfInBounds_toArray, List.set_cons_zero, List.set_cons_succ]
      refine wpAnyH_takeD (some 14) (i := 5) (v := ?_) rfl rfl (by kernel_rfl) (by kernel_rfl) (by kernel_rfl) (fun _ _ _ h => h) (.inl ⟨by kernel_rfl, ?_⟩) hS0 ?_
      rotate_left
      · intro w' hw'; obtain ⟨hw1, hw2⟩ := hw'; go_simp; try with_reducible rfl
      try simp only [Act.put, List.setIfInBounds_toArray, List.set_cons_zero, List.set_cons_succ]
      refine wpAnyH_takeD (some 15) (i := 6) (v := ?_) rfl rfl (by kernel_rfl) (by kernel_rfl) (by kernel_rfl) (fun _ _ _ h => h) (.inl ⟨by kernel_rfl, ?_⟩) hS0 ?_
      rotate_left
      · intro w' hw'; obtain ⟨hw1, hw2⟩ := hw'; go_simp; try with_reducible rfl
      try simp only [Act.put, List.setIfInBounds_toArray, List.set_cons_zero, List.set_cons_succ]
      refine wpAnyH_all (rs := [3]) (by kernel_rfl) (by simp) ?_
      intro i hi; simp only [List.mem_singleton] at hi; subst hi
      refine wpOp_step rfl (fun K hK => ?_)
      go_simp
      refine hK _ _ ⟨hS0, ?_⟩
      try simp only [Act.put, List.setIfInBounds_toArray, List.set_cons_zero, List.set_cons_succ]
      refine wpAnyH_all (rs := [7]) (by kernel_rfl) (by simp) ?_
      intro i hi; simp only [List.mem_singleton] at hi; subst hi
      refine wpOp_step rfl (fun K hK => ?_)
      go_simp
      with_reducible refine (HC.out _).mono ?_
      rintro e v1 ⟨rfl, hB1⟩
      have hS1 := And.intro ((hB1.cell (p := ⟨w.heap.size + 1, k * 2, none⟩) lq).trans y1) ((hB1.cell (p := ⟨w.heap.size + 1, k * 2 + 1, none⟩) lq).trans y2)
      refine hK _ _ ⟨hS1, ?_⟩
      try simp only [Act.put, List.setIfInBounds_toArray, List.set_cons_zero, List.set_cons_succ]
      refine wpAnyH_takeD (some 17) (i := 8) (v := ?_) rfl rfl (by kernel_rfl) (by kernel_rfl) (by kernel_rfl) (fun _ _ _ h => h) (.inl ⟨by kernel_rfl, ?_⟩) hS1 ?_
      rotate_left
      · intro w' hw'; obtain ⟨hw1, hw2⟩ := hw'; go_simp; try with_reducible rfl
      try simp only [Act.put, List.setIfInBounds_toArray, List.set_cons_zero, List.set_cons_succ]
      have HB1 : Hid (Below wr.heap.size wr v1) := hid ((Below.refl wr.heap.size wr).drew.trans hB1)
      clear c1 c2 hB1
      have s0 := HR0.out.below HB1.out HR0.out.lt
      have s1 := HR1.out.below HB1.out HR1.out.lt
      have s2 := HR2.out.below HB1.out HR2.out.lt
      have hB2 := hB.trans (HB1.out.mono hzr)
      have o1 := (s0.cell (k * 2)).trans HQ.out.1
      have o2 := (s0.cell (k * 2 + 1)).trans HQ.out.2
      have f1 := s0.frozen (k * 2)
      have f2 := s0.frozen (k * 2 + 1)
      have S0 := (s0.set (k * 2) (.int .u64 (pa (andP ps qs) k))).set (k * 2 + 1) (.int .u64 (pb (andP ps qs) k))
      rw [mix_set (andP ps qs) ps k hlt] at S0
      have S1 := (s1.other (a := ⟨w.heap.size, k * 2, none⟩) (by simp) (.int .u64 (pa (andP ps qs) k))).other (a := ⟨w.heap.size, k * 2 + 1, none⟩) (by simp) (.int .u64 (pb (andP ps qs) k))
      have S2 := (s2.other (a := ⟨w.heap.size, k * 2, none⟩) (by simp; omega) (.int .u64 (pa (andP ps qs) k))).other (a := ⟨w.heap.size, k * 2 + 1, none⟩) (by simp; omega) (.int .u64 (pb (andP ps qs) k))
      have SB := (hB2.setCell (p := ⟨w.heap.size, k * 2, none⟩) (by simp) (.int .u64 (pa (andP ps qs) k))).setCell (p := ⟨w.heap.size, k * 2 + 1, none⟩) (by simp) (.int .u64 (pb (andP ps qs) k))
      obtain ⟨q3, q4⟩ := phL_at qs k hlt
      have hS2 := And.intro (hS1.1) (hS1.2)
      have hS2 := And.intro ((Below.heap_setCell v1 ⟨w.heap.size, k * 2, none⟩ (.int .u64 (pa (andP ps qs) k)) (w.heap.size + 1) (by simp))) (Below.heap_setCell (v1.setCell ⟨w.heap.size, k * 2, none⟩ (.int .u64 (pa (andP ps qs) k))) ⟨w.heap.size, k * 2 + 1, none⟩ (.int .u64 (pb (andP ps qs) k)) (w.heap.size + 1) (by simp))
      have hS2 := And.intro ((World.cell?_of_block (a := ⟨w.heap.size + 1, k * 2, none⟩) (hS2.2.trans hS2.1)).trans hS1.1) ((World.cell?_of_block (a := ⟨w.heap.size + 1, k * 2 + 1, none⟩) (hS2.2.trans hS2.1)).trans hS1.2)
      clear s0 s1 s2 hB2 q3 q4
      refine wpAnyH_all (rs := [9]) (by kernel_rfl) (by simp) ?_
      intro i hi; simp only [List.mem_singleton] at hi; subst hi
      refine wpOp_step rfl (fun K hK => ?_)
      go_simp
      refine hK _ _ ⟨hS2, ?_⟩
      try simp only [Act.put, List.setIfInBounds_toArray, List.set_cons_zero, List.set_cons_succ]
      refine wpAnyH_done (by kernel_rfl) ?_ _
      go_wp2_with fail
      go_roundw
      case rel => exact ⟨k + 1, by omega, by go_num, S0, S1, S2, SB⟩
      case measure => simp [intOf]; omega
    · obtain rfl : k = 8 := by omega
      rw [mix_all _ _ 8 (Nat.le_refl _)] at r0
      have R1 := hid (r2.setCells (ys := (phL (andP ps qs))) rfl)
      have T1 := r2.there 16 rfl
      have SB := hid (below_setCells (phL (andP ps qs)) 0 wr hB (g := w.heap.size + 1 + 1) (by omega))
      clear r2 hB r1
      go_wp2_with (first | ((with_reducible refine wpList_load_row rfl 31 _ rfl w.heap.size ?_ 31 (phL (andP ps qs)).toArray (0, 0) _ ?_ Try.underlying31 ?_ ?_ ?_); rfl; exact r0; rfl; (rw [sz16]; exact hi)) | ((with_reducible refine wpList_store_mid rfl 31 _ _ rfl (w.heap.size + 1 + 1) 0 (phL (andP ps qs)).toArray ?_ ?_ ?_ ?_ (all_oneCell_toArray (phL_one _)) ?_); rfl; rfl; (rw [sz16]; exact T1); (rw [sz16]; exact hi)))
      exact bodyPost_ret (v := .agg (phL (andP ps qs)).toArray) (results_cell_row (fn := Try.f42) rfl _ _ _ _ _ (0, 0) _ rfl R1.out Try.underlying31 rfl (by rw [sz16]; exact hi)) rfl ⟨rfl, SB.out⟩
set_option maxRecDepth 100000 in
set_option maxHeartbeats 2000000 in
theorem join_any (ps qs : List (Int × Int)) (w : World) :
    Calls Try.prog 68 #[.agg (phL ps).toArray, .agg (phL qs).toArray] w fun e w' => e = .returned (.agg (phL (orP ps qs)).toArray) ∧ Below w.heap.size w w' := by
  have r0 := ((Row.new w 31 (phL ps)).alloc (.cells (phL qs).toArray 31)).alloc (.cells #[.int .u64 0, .int .u64 0, .int .u64 0, .int .u64 0, .int .u64 0, .int .u64 0, .int .u64 0, .int .u64 0, .int .u64 0, .int .u64 0, .int .u64 0, .int .u64 0, .int .u64 0, .int .u64 0, .int .u64 0, .int .u64 0] 31)
  have r1 := (Row.new (w.alloc (.cells (phL ps).toArray 31)) 31 (phL qs)).alloc (.cells #[.int .u64 0, .int .u64 0, .int .u64 0, .int .u64 0, .int .u64 0, .int .u64 0, .int .u64 0, .int .u64 0, .int .u64 0, .int .u64 0, .int .u64 0, .int .u64 0, .int .u64 0, .int .u64 0, .int .u64 0, .int .u64 0] 31)
  have r2 := (Row.new ((w.alloc (.cells (phL ps).toArray 31)).alloc (.cells (phL qs).toArray 31)) 31 [.int .u64 0, .int .u64 0, .int .u64 0, .int .u64 0, .int .u64 0, .int .u64 0, .int .u64 0, .int .u64 0, .int .u64 0, .int .u64 0, .int .u64 0, .int .u64 0, .int .u64 0, .int .u64 0, .int .u64 0, .int .u64 0]).zeros
  have hB : Below w.heap.size w (((w.alloc (.cells (phL ps).toArray 31)).alloc (.cells (phL qs).toArray 31)).alloc (.cells #[.int .u64 0, .int .u64 0, .int .u64 0, .int .u64 0, .int .u64 0, .int .u64 0, .int .u64 0, .int .u64 0, .int .u64 0, .int .u64 0, .int .u64 0, .int .u64 0, .int .u64 0, .int .u64 0, .int .u64 0, .int .u64 0] 31)) := (((Below.refl _ _).alloc (Nat.le_refl _) _).alloc (by simp) _).alloc (by simp; omega) _
  simp only [World.size_alloc] at r1 r2
  have hi := Try.infoPhoto
  go_enter Try.func68, Try.ntmps68
  go_wp2_with fail
  go_loopw [6] (fun i wr => ∃ k : Nat, k ≤ 8 ∧ i = .int .i64 k ∧ Row wr w.heap.size 31 (mix (orP ps qs) ps k) ∧ Row wr (w.heap.size + 1) 31 (phL qs) ∧ Row wr (w.heap.size + 1 + 1) 31 (phL []) ∧ Below w.heap.size w wr) (fun i _ => 8 - (intOf i).toNat)
  case atStart => exact ⟨0, Nat.zero_le _, rfl, by rw [mix_zero]; exact r0, r1, r2, hB⟩
  case round =>
    clear r0 r1 r2 hB
    obtain ⟨k, hk, rfl, r0, r1, r2, hB⟩ := hrel
    by_cases hlt : k < 8
    · obtain ⟨x, hx⟩ : ∃ x, x = pa ps k := ⟨_, rfl⟩
      obtain ⟨y, hy⟩ : ∃ y, y = pb ps k := ⟨_, rfl⟩
      obtain ⟨u, hu⟩ : ∃ u, u = pa qs k := ⟨_, rfl⟩
      obtain ⟨v, hv⟩ : ∃ v, v = pb qs k := ⟨_, rfl⟩
      obtain ⟨q1, q2⟩ := mix_at (orP ps qs) ps k k hlt (Nat.le_refl _)
      obtain ⟨q3, q4⟩ := phL_at qs k hlt
      have HC := hid (fun w => joinMarks_any x y u v w)
      have hP := join_at ps qs k hlt
      rw [← hx, ← hy, ← hu, ← hv] at hP
      rw [← hP.1, ← hP.2] at HC
      have HQ := hid (And.intro q1 q2)
      rw [← hx] at q1
      rw [← hy] at q2
      rw [← hu] at q3
      rw [← hv] at q4
      have c1 := (r0.cell (k * 2)).trans q1
      have c2 := (r0.cell (k * 2 + 1)).trans q2
      have y1 := (r1.cell (k * 2)).trans q3
      have y2 := (r1.cell (k * 2 + 1)).trans q4
      have HR0 := hid r0; have HR1 := hid r1; have HR2 := hid r2
      have lq := r1.lt
      have hk0 : (0 : Int) ≤ (k : Int) := by omega
      have hlt0 : (k : Int) < 8 := by omega
      have hzr := hB.size
      clear hx hy hu hv hP r0 r1 r2 q1 q2 q3 q4
      go_wp2_with fail
      refine wp_region_held (S := fun W' : World => W'.cell? ⟨w.heap.size + 1, k * 2, none⟩ = some (.int .u64 u) ∧ W'.cell? ⟨w.heap.size + 1, k * 2 + 1, none⟩ = some (.int .u64 v)) (by kernel_rfl) ?_
      change wpAnyH _ _ _ _ _ _ _ _ (World.drew _)
      have hS0 : (fun W' : World => W'.cell? ⟨w.heap.size + 1, k * 2, none⟩ = some (.int .u64 u) ∧ W'.cell? ⟨w.heap.size + 1, k * 2 + 1, none⟩ = some (.int .u64 v)) wr.drew := ⟨y1, y2⟩
      refine wpAnyH_takeD (some 9) (i := 0) (v := ?_) rfl rfl (by kernel_rfl) (by kernel_rfl) (by kernel_rfl) (fun _ _ _ h => h) (.inl ⟨by kernel_rfl, ?_⟩) hS0 ?_
      rotate_left
      · intro w' hw'; obtain ⟨hw1, hw2⟩ := hw'; go_simp; try with_reducible rfl
      try simp only [Act.put, List.setIfInBounds_toArray, List.set_cons_zero, List.set_cons_succ]
      refine wpAnyH_takeD (some 10) (i := 1) (v := ?_) rfl rfl (by kernel_rfl) (by kernel_rfl) (by kernel_rfl) (fun _ _ _ h => h) (.inl ⟨by kernel_rfl, ?_⟩) hS0 ?_
      rotate_left
      · intro w' hw'; obtain ⟨hw1, hw2⟩ := hw'; go_simp; try with_reducible rfl
      try simp only [Act.put, List.setIfInBounds_toArray, List.set_cons_zero, List.set_cons_succ]
      refine wpAnyH_takeD (some 11) (i := 2) (v := ?_) rfl rfl (by kernel_rfl) (by kernel_rfl) (by kernel_rfl) (fun _ _ _ h => h) (.inl ⟨by kernel_rfl, ?_⟩) hS0 ?_
      rotate_left
      · intro w' hw'; obtain ⟨hw1, hw2⟩ := hw'; go_simp; try with_reducible rfl
      try simp only [Act.put, List.setIfInBounds_toArray, List.set_cons_zero, List.set_cons_succ]
      refine wpAnyH_takeD (some 13) (i := 4) (v := ?_) rfl rfl (by kernel_rfl) (by kernel_rfl) (by kernel_rfl) (fun _ _ _ h => h) (.inl ⟨by kernel_rfl, ?_⟩) hS0 ?_
      rotate_left
      · intro w' hw'; obtain ⟨hw1, hw2⟩ := hw'; go_simp; try with_reducible rfl
      try simp only [Act.put, List.setIfInBounds_toArray, List.set_cons_zero, List.set_cons_succ]
      refine wpAnyH_takeD (some 14) (i := 5) (v := ?_) rfl rfl (by kernel_rfl) (by kernel_rfl) (by kernel_rfl) (fun _ _ _ h => h) (.inl ⟨by kernel_rfl, ?_⟩) hS0 ?_
      rotate_left
      · intro w' hw'; obtain ⟨hw1, hw2⟩ := hw'; go_simp; try with_reducible rfl
      try simp only [Act.put, List.setIfInBounds_toArray, List.set_cons_zero, List.set_cons_succ]
      refine wpAnyH_takeD (some 15) (i := 6) (v := ?_) rfl rfl (by kernel_rfl) (by kernel_rfl) (by kernel_rfl) (fun _ _ _ h => h) (.inl ⟨by kernel_rfl, ?_⟩) hS0 ?_
      rotate_left
      · intro w' hw'; obtain ⟨hw1, hw2⟩ := hw'; go_simp; try with_reducible rfl
      try simp only [Act.put, List.setIfInBounds_toArray, List.set_cons_zero, List.set_cons_succ]
      refine wpAnyH_all (rs := [3]) (by kernel_rfl) (by simp) ?_
      intro i hi; simp only [List.mem_singleton] at hi; subst hi
      refine wpOp_step rfl (fun K hK => ?_)
      go_simp
      refine hK _ _ ⟨hS0, ?_⟩
      try simp only [Act.put, List.setIfInBounds_toArray, List.set_cons_zero, List.set_cons_succ]
      refine wpAnyH_all (rs := [7]) (by kernel_rfl) (by simp) ?_
      intro i hi; simp only [List.mem_singleton] at hi; subst hi
      refine wpOp_step rfl (fun K hK => ?_)
      go_simp
      with_reducible refine (HC.out _).mono ?_
      rintro e v1 ⟨rfl, hB1⟩
      have hS1 := And.intro ((hB1.cell (p := ⟨w.heap.size + 1, k * 2, none⟩) lq).trans y1) ((hB1.cell (p := ⟨w.heap.size + 1, k * 2 + 1, none⟩) lq).trans y2)
      refine hK _ _ ⟨hS1, ?_⟩
      try simp only [Act.put, List.setIfInBounds_toArray, List.set_cons_zero, List.set_cons_succ]
      refine wpAnyH_takeD (some 17) (i := 8) (v := ?_) rfl rfl (by kernel_rfl) (by kernel_rfl) (by kernel_rfl) (fun _ _ _ h => h) (.inl ⟨by kernel_rfl, ?_⟩) hS1 ?_
      rotate_left
      · intro w' hw'; obtain ⟨hw1, hw2⟩ := hw'; go_simp; try with_reducible rfl
      try simp only [Act.put, List.setIfInBounds_toArray, List.set_cons_zero, List.set_cons_succ]
      have HB1 : Hid (Below wr.heap.size wr v1) := hid ((Below.refl wr.heap.size wr).drew.trans hB1)
      clear c1 c2 hB1
      have s0 := HR0.out.below HB1.out HR0.out.lt
      have s1 := HR1.out.below HB1.out HR1.out.lt
      have s2 := HR2.out.below HB1.out HR2.out.lt
      have hB2 := hB.trans (HB1.out.mono hzr)
      have o1 := (s0.cell (k * 2)).trans HQ.out.1
      have o2 := (s0.cell (k * 2 + 1)).trans HQ.out.2
      have f1 := s0.frozen (k * 2)
      have f2 := s0.frozen (k * 2 + 1)
      have S0 := (s0.set (k * 2) (.int .u64 (pa (orP ps qs) k))).set (k * 2 + 1) (.int .u64 (pb (orP ps qs) k))
      rw [mix_set (orP ps qs) ps k hlt] at S0
      have S1 := (s1.other (a := ⟨w.heap.size, k * 2, none⟩) (by simp) (.int .u64 (pa (orP ps qs) k))).other (a := ⟨w.heap.size, k * 2 + 1, none⟩) (by simp) (.int .u64 (pb (orP ps qs) k))
      have S2 := (s2.other (a := ⟨w.heap.size, k * 2, none⟩) (by simp; omega) (.int .u64 (pa (orP ps qs) k))).other (a := ⟨w.heap.size, k * 2 + 1, none⟩) (by simp; omega) (.int .u64 (pb (orP ps qs) k))
      have SB := (hB2.setCell (p := ⟨w.heap.size, k * 2, none⟩) (by simp) (.int .u64 (pa (orP ps qs) k))).setCell (p := ⟨w.heap.size, k * 2 + 1, none⟩) (by simp) (.int .u64 (pb (orP ps qs) k))
      obtain ⟨q3, q4⟩ := phL_at qs k hlt
      have hS2 := And.intro (hS1.1) (hS1.2)
      have hS2 := And.intro ((Below.heap_setCell v1 ⟨w.heap.size, k * 2, none⟩ (.int .u64 (pa (orP ps qs) k)) (w.heap.size + 1) (by simp))) (Below.heap_setCell (v1.setCell ⟨w.heap.size, k * 2, none⟩ (.int .u64 (pa (orP ps qs) k))) ⟨w.heap.size, k * 2 + 1, none⟩ (.int .u64 (pb (orP ps qs) k)) (w.heap.size + 1) (by simp))
      have hS2 := And.intro ((World.cell?_of_block (a := ⟨w.heap.size + 1, k * 2, none⟩) (hS2.2.trans hS2.1)).trans hS1.1) ((World.cell?_of_block (a := ⟨w.heap.size + 1, k * 2 + 1, none⟩) (hS2.2.trans hS2.1)).trans hS1.2)
      clear s0 s1 s2 hB2 q3 q4
      refine wpAnyH_all (rs := [9]) (by kernel_rfl) (by simp) ?_
      intro i hi; simp only [List.mem_singleton] at hi; subst hi
      refine wpOp_step rfl (fun K hK => ?_)
      go_simp
      refine hK _ _ ⟨hS2, ?_⟩
      try simp only [Act.put, List.setIfInBounds_toArray, List.set_cons_zero, List.set_cons_succ]
      refine wpAnyH_done (by kernel_rfl) ?_ _
      go_wp2_with fail
      go_roundw
      case rel => exact ⟨k + 1, by omega, by go_num, S0, S1, S2, SB⟩
      case measure => simp [intOf]; omega
    · obtain rfl : k = 8 := by omega
      rw [mix_all _ _ 8 (Nat.le_refl _)] at r0
      have R1 := hid (r2.setCells (ys := (phL (orP ps qs))) rfl)
      have T1 := r2.there 16 rfl
      have SB := hid (below_setCells (phL (orP ps qs)) 0 wr hB (g := w.heap.size + 1 + 1) (by omega))
      clear r2 hB r1
      go_wp2_with (first | ((with_reducible refine wpList_load_row rfl 31 _ rfl w.heap.size ?_ 31 (phL (orP ps qs)).toArray (0, 0) _ ?_ Try.underlying31 ?_ ?_ ?_); rfl; exact r0; rfl; (rw [sz16]; exact hi)) | ((with_reducible refine wpList_store_mid rfl 31 _ _ rfl (w.heap.size + 1 + 1) 0 (phL (orP ps qs)).toArray ?_ ?_ ?_ ?_ (all_oneCell_toArray (phL_one _)) ?_); rfl; rfl; (rw [sz16]; exact T1); (rw [sz16]; exact hi)))
      exact bodyPost_ret (v := .agg (phL (orP ps qs)).toArray) (results_cell_row (fn := Try.f68) rfl _ _ _ _ _ (0, 0) _ rfl R1.out Try.underlying31 rfl (by rw [sz16]; exact hi)) rfl ⟨rfl, SB.out⟩
end Go.Proofs.Ytgfdfnlbkljgeaa
