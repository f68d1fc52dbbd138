/- Valid photos: the model's. -/
import Derived.Test.YtgfdfnlbkljgeaaVpA
import Derived.Test.YtgfdfnlbkljgeaaHeld
namespace Go.Proofs.Ytgfdfnlbkljgeaa
open Go.RowKit
def allW (zs : List Int) (ps : List (Int × Int)) : Bool := (List.range 8).all (okW zs ps)
theorem okPh_all {zs : List Int} {ps : List (Int × Int)} (h : okL zs = true) : okPh zs ps = allW zs ps := okPh_yes h
theorem all_no {zs : List Int} {ps : List (Int × Int)} {j : Nat} (hj : j < 8) (h : okW zs ps j = false) : allW zs ps = false := by
  unfold allW
  rw [List.all_eq_false]
  exact ⟨j, List.mem_range.2 hj, by rw [h]; simp⟩
theorem all_yes {zs : List Int} {ps : List (Int × Int)} (h : ∀ j, j < 8 → okW zs ps j = true) : allW zs ps = true := by
  simp only [allW, List.all_eq_true, List.mem_range]
  exact h
set_option maxHeartbeats 400000 in
theorem l05Within_any (x y u v : Int) (w : World) :
    Calls Try.prog 69 #[.agg #[.int .u64 x, .int .u64 y], .agg #[.int .u64 u, .int .u64 v]] w fun e w' => e = .returned (.bool (withinM x y u v)) ∧ Below w.heap.size w w' := by
  have hB : Below w.heap.size w ((w.alloc (.cells #[.int .u64 x, .int .u64 y] 29)).alloc (.cells #[.int .u64 u, .int .u64 v] 29)) := ((Below.refl _ _).alloc (Nat.le_refl _) _).alloc (by simp) _
  unfold withinM
  cases h1 : (bits .andNot .u64 x u == 0) with
  | true =>
    go_enter Try.func69, Try.ntmps69
    go_wp2_with fail
    go_ret
    exact ⟨rfl, hB⟩
  | false =>
    go_enter Try.func69, Try.ntmps69
    go_wp2_with fail
    go_ret
    exact ⟨rfl, hB⟩
set_option maxRecDepth 100000 in
set_option maxHeartbeats 2000000 in
theorem l05Ok_any (b n cap g : Nat) (zs : List Int) (ps : List (Int × Int)) (w : World) (h : Stk w b zs) (hn : n = zs.length) (hr : Row w g 31 (phL ps)) (hv : okL zs = true) :
    Calls Try.prog 39 #[.slice (some ⟨b, 0, none⟩) n cap, .pointer (some ⟨g, 0, none⟩)] w fun e w' => e = .returned (.bool (allW zs ps)) ∧ Below w.heap.size w w' := by
  obtain ⟨hl8, hbd⟩ := okL_in hv
  rw [← hn] at hl8
  have HZ := hid hbd
  have HN := hid hn
  clear hn hv hbd
  go_enter Try.func39, Try.ntmps39
  go_wp2_with fail
  go_loopw [5] (fun i wr => ∃ k : Nat, k ≤ 8 ∧ i = .int .i64 k ∧ Row wr g 31 (phL ps) ∧ Stk wr b zs ∧ Below w.heap.size w wr ∧ ∀ j, j < k → okW zs ps j = true) (fun i _ => 8 - (intOf i).toNat)
  case atStart => exact ⟨0, Nat.zero_le _, rfl, hr, h, Below.refl _ _, fun j hj => absurd hj (Nat.not_lt_zero _)⟩
  case round =>
    clear hr h
    obtain ⟨k, hk, rfl, hr, hs, hB, ha⟩ := hrel
    by_cases hlt : k < 8
    · have HA := hid ha
      obtain ⟨x, hx⟩ : ∃ x, x = pa ps k := ⟨_, rfl⟩
      obtain ⟨y, hy⟩ : ∃ y, y = pb ps k := ⟨_, rfl⟩
      obtain ⟨q1, q2⟩ := phL_at ps k hlt
      rw [← hx] at q1
      rw [← hy] at q2
      have c1 := (hr.cell (k * 2)).trans q1
      have c2 := (hr.cell (k * 2 + 1)).trans q2
      have he : ∀ w', Sem.run Try.prog (Op.equalIn 10000 29 (.agg #[.int .u64 x, .int .u64 y]) (.agg #[.int .u64 0, .int .u64 0])) w' = .ok (sameM x y 0 0) w' := fun w' => by rw [show (10000 : Nat) = 9998 + 2 from rfl, equalIn_marks]
      have hW0 : okW zs ps k = if k < zs.length then !(sameM x y 0 0) && withinM x y (mbel (zs[k]?.getD 0).toNat).1 (mbel (zs[k]?.getD 0).toNat).2 else sameM x y 0 0 := by rw [okW, ← hx, ← hy]
      have HR0 := hid hr; have HS0 := hid hs
      have lg := hr.lt; have lb := hs.1
      have hzr := hB.size
      have hk0 : (0 : Int) ≤ (k : Int) := by omega
      have hlt0 : (k : Int) < 8 := by omega
      clear ha hx hy q1 q2
      by_cases hkn : k < n
      · have hkz : k < zs.length := by rw [← HN.out]; exact hkn
        have c3 := hs.2.1 k hkz
        have hzb := HZ.out k hkz
        rw [if_pos hkz] at hW0
        obtain ⟨m, hm⟩ := Int.eq_ofNat_of_zero_le (show 0 ≤ zs[k]?.getD 0 by omega)
        rw [hm] at c3 hzb
        rw [hm, Int.toNat_natCast] at hW0
        have HW := hid hW0
        have hm100 : m ≤ 100 := by omega
        have hkn0 : (k : Int) < (n : Int) := by omega
        have HD := hid ((Below.refl wr.heap.size wr).drew)
        have hm0 : (0 : Int) ≤ (m : Int) := by omega
        clear hm hW0 hr hs hkz hzb
        go_wp2_with fail
        refine wp_region_held (S := fun W' : World => W'.cell? ⟨g, k * 2, none⟩ = some (.int .u64 x) ∧ W'.cell? ⟨g, k * 2 + 1, none⟩ = some (.int .u64 y) ∧ W'.cell? ⟨b, k, none⟩ = some (.int .u8 (m : Int))) (by kernel_rfl) ?_
        change wpAnyH _ _ _ _ _ _ _ _ (World.drew _)
        have hS0 : (fun W' : World => W'.cell? ⟨g, k * 2, none⟩ = some (.int .u64 x) ∧ W'.cell? ⟨g, k * 2 + 1, none⟩ = some (.int .u64 y) ∧ W'.cell? ⟨b, k, none⟩ = some (.int .u8 (m : Int))) wr.drew := ⟨c1, c2, c3⟩
        refine wpAnyH_takeD (some 21) (i := 0) (v := ?_) rfl rfl (by kernel_rfl) (by kernel_rfl) (by kernel_rfl) (fun _ _ _ h => h) (.inl ⟨by kernel_rfl, ?_⟩) hS0 ?_
        rotate_left
        · intro w' hw'; obtain ⟨hw1, hw2, hw3⟩ := hw'; go_simp; try with_reducible rfl
        try simp only [Act.put, List.setIfInBounds_toArray, List.set_cons_zero, List.set_cons_succ]
        refine wpAnyH_takeD (some 22) (i := 1) (v := ?_) rfl rfl (by kernel_rfl) (by kernel_rfl) (by kernel_rfl) (fun _ _ _ h => h) (.inl ⟨by kernel_rfl, ?_⟩) hS0 ?_
        rotate_left
        · intro w' hw'; obtain ⟨hw1, hw2, hw3⟩ := hw'; go_simp; try with_reducible rfl
        try simp only [Act.put, List.setIfInBounds_toArray, List.set_cons_zero, List.set_cons_succ]
        refine wpAnyH_takeD (some 23) (i := 2) (v := ?_) rfl rfl (by kernel_rfl) (by kernel_rfl) (by kernel_rfl) (fun _ _ _ h => h) (.inl ⟨by kernel_rfl, ?_⟩) hS0 ?_
        rotate_left
        · intro w' hw'; obtain ⟨hw1, hw2, hw3⟩ := hw'; go_simp; try with_reducible rfl
        try simp only [Act.put, List.setIfInBounds_toArray, List.set_cons_zero, List.set_cons_succ]
        refine wpAnyH_takeD (some 24) (i := 3) (v := ?_) rfl rfl (by kernel_rfl) (by kernel_rfl) (by kernel_rfl) (fun _ _ _ h => h) (.inl ⟨by kernel_rfl, ?_⟩) hS0 ?_
        rotate_left
        · intro w' hw'; obtain ⟨hw1, hw2, hw3⟩ := hw'; go_simp; try with_reducible rfl
        try simp only [Act.put, List.setIfInBounds_toArray, List.set_cons_zero, List.set_cons_succ]
        refine wpAnyH_takeD (some 25) (i := 4) (v := ?_) rfl rfl (by kernel_rfl) (by kernel_rfl) (by kernel_rfl) (fun _ _ _ h => h) (.inl ⟨by kernel_rfl, ?_⟩) hS0 ?_
        rotate_left
        · intro w' hw'; obtain ⟨hw1, hw2, hw3⟩ := hw'; go_simp; try with_reducible rfl
        try simp only [Act.put, List.setIfInBounds_toArray, List.set_cons_zero, List.set_cons_succ]
        refine wpAnyH_takeD (some 26) (i := 5) (v := ?_) rfl rfl (by kernel_rfl) (by kernel_rfl) (by kernel_rfl) (fun _ _ _ h => h) (.inl ⟨by kernel_rfl, ?_⟩) hS0 ?_
        rotate_left
        · intro w' hw'; obtain ⟨hw1, hw2, hw3⟩ := hw'; go_simp; try with_reducible rfl
        try simp only [Act.put, List.setIfInBounds_toArray, List.set_cons_zero, List.set_cons_succ]
        cases hz : sameM x y 0 0 with
        | true =>
          rw [hz] at he HW
          clear hz
          refine wpAnyH_takeD (some 27) (i := 6) (v := ?_) rfl rfl (by kernel_rfl) (by kernel_rfl) (by kernel_rfl) (fun _ _ _ h => h) (.inl ⟨by kernel_rfl, ?_⟩) hS0 ?_
          rotate_left
          · intro w' hw'; obtain ⟨hw1, hw2, hw3⟩ := hw'; go_simp; try with_reducible rfl
          try simp only [Act.put, List.setIfInBounds_toArray, List.set_cons_zero, List.set_cons_succ]
          clear he
          refine wpAnyH_takeD (some 28) (i := 7) (v := ?_) rfl rfl (by kernel_rfl) (by kernel_rfl) (by kernel_rfl) (fun _ _ _ h => h) (.inl ⟨by kernel_rfl, ?_⟩) hS0 ?_
          rotate_left
          · intro w' hw'; obtain ⟨hw1, hw2, hw3⟩ := hw'; go_simp; try with_reducible rfl
          try simp only [Act.put, List.setIfInBounds_toArray, List.set_cons_zero, List.set_cons_succ]
          refine wpAnyH_takeD (some 29) (i := 8) (v := undef) rfl rfl (by kernel_rfl) (by kernel_rfl) (by kernel_rfl) (fun _ _ _ h => h) (.inr ⟨by kernel_rfl, rfl⟩) hS0 ?_
          try simp only [Act.put, List.setIfInBounds_toArray, List.set_cons_zero, List.set_cons_succ]
          refine wpAnyH_takeD (some 30) (i := 9) (v := undef) rfl rfl (by kernel_rfl) (by kernel_rfl) (by kernel_rfl) (fun _ _ _ h => h) (.inr ⟨by kernel_rfl, rfl⟩) hS0 ?_
          try simp only [Act.put, List.setIfInBounds_toArray, List.set_cons_zero, List.set_cons_succ]
          refine wpAnyH_takeD (some 31) (i := 10) (v := undef) rfl rfl (by kernel_rfl) (by kernel_rfl) (by kernel_rfl) (fun _ _ _ h => h) (.inr ⟨by kernel_rfl, rfl⟩) hS0 ?_
          try simp only [Act.put, List.setIfInBounds_toArray, List.set_cons_zero, List.set_cons_succ]
          refine wpAnyH_takeD (some 32) (i := 11) (v := undef) rfl rfl (by kernel_rfl) (by kernel_rfl) (by kernel_rfl) (fun _ _ _ h => h) (.inr ⟨by kernel_rfl, rfl⟩) hS0 ?_
          try simp only [Act.put, List.setIfInBounds_toArray, List.set_cons_zero, List.set_cons_succ]
          refine wpAnyH_takeD (some 33) (i := 12) (v := undef) rfl rfl (by kernel_rfl) (by kernel_rfl) (by kernel_rfl) (fun _ _ _ h => h) (.inr ⟨by kernel_rfl, rfl⟩) hS0 ?_
          try simp only [Act.put, List.setIfInBounds_toArray, List.set_cons_zero, List.set_cons_succ]
          refine wpAnyH_takeD (some 34) (i := 13) (v := undef) rfl rfl (by kernel_rfl) (by kernel_rfl) (by kernel_rfl) (fun _ _ _ h => h) (.inr ⟨by kernel_rfl, rfl⟩) hS0 ?_
          try simp only [Act.put, List.setIfInBounds_toArray, List.set_cons_zero, List.set_cons_succ]
          refine wpAnyH_takeD (some 35) (i := 14) (v := undef) rfl rfl (by kernel_rfl) (by kernel_rfl) (by kernel_rfl) (fun _ _ _ h => h) (.inr ⟨by kernel_rfl, rfl⟩) hS0 ?_
          try simp only [Act.put, List.setIfInBounds_toArray, List.set_cons_zero, List.set_cons_succ]
          refine wpAnyH_takeD (some 36) (i := 15) (v := undef) rfl rfl (by kernel_rfl) (by kernel_rfl) (by kernel_rfl) (fun _ _ _ h => h) (.inr ⟨by kernel_rfl, rfl⟩) hS0 ?_
          try simp only [Act.put, List.setIfInBounds_toArray, List.set_cons_zero, List.set_cons_succ]
          refine wpAnyH_takeD (some 37) (i := 16) (v := undef) rfl rfl (by kernel_rfl) (by kernel_rfl) (by kernel_rfl) (fun _ _ _ h => h) (.inr ⟨by kernel_rfl, rfl⟩) hS0 ?_
          try simp only [Act.put, List.setIfInBounds_toArray, List.set_cons_zero, List.set_cons_succ]
          refine wpAnyH_takeD (some 38) (i := 17) (v := undef) rfl rfl (by kernel_rfl) (by kernel_rfl) (by kernel_rfl) (fun _ _ _ h => h) (.inr ⟨by kernel_rfl, rfl⟩) hS0 ?_
          try simp only [Act.put, List.setIfInBounds_toArray, List.set_cons_zero, List.set_cons_succ]
          refine wpAnyH_takeD (some 39) (i := 18) (v := undef) rfl rfl (by kernel_rfl) (by kernel_rfl) (by kernel_rfl) (fun _ _ _ h => h) (.inr ⟨by kernel_rfl, rfl⟩) hS0 ?_
          try simp only [Act.put, List.setIfInBounds_toArray, List.set_cons_zero, List.set_cons_succ]
          refine wpAnyH_takeD (some 40) (i := 19) (v := undef) rfl rfl (by kernel_rfl) (by kernel_rfl) (by kernel_rfl) (fun _ _ _ h => h) (.inr ⟨by kernel_rfl, rfl⟩) hS0 ?_
          try simp only [Act.put, List.setIfInBounds_toArray, List.set_cons_zero, List.set_cons_succ]
          refine wpAnyH_takeD (some 41) (i := 20) (v := ?_) rfl rfl (by kernel_rfl) (by kernel_rfl) (by kernel_rfl) (fun _ _ _ h => h) (.inl ⟨by kernel_rfl, ?_⟩) hS0 ?_
          rotate_left
          · intro w' hw'; obtain ⟨hw1, hw2, hw3⟩ := hw'; go_simp; try with_reducible rfl
          try simp only [Act.put, List.setIfInBounds_toArray, List.set_cons_zero, List.set_cons_succ]
          refine wpAnyH_done (by kernel_rfl) ?_ _
          go_wp2_with fail
          go_ret
          exact ⟨by rw [all_no (j := k) (by omega) (by rw [HW.out]; rfl)]; rfl, hB.trans (HD.out.mono hzr)⟩
        | false =>
          rw [hz] at he HW
          clear hz
          refine wpAnyH_takeD (some 27) (i := 6) (v := ?_) rfl rfl (by kernel_rfl) (by kernel_rfl) (by kernel_rfl) (fun _ _ _ h => h) (.inl ⟨by kernel_rfl, ?_⟩) hS0 ?_
          rotate_left
          · intro w' hw'; obtain ⟨hw1, hw2, hw3⟩ := hw'; go_simp; try with_reducible rfl
          try simp only [Act.put, List.setIfInBounds_toArray, List.set_cons_zero, List.set_cons_succ]
          clear he
          refine wpAnyH_takeD (some 28) (i := 7) (v := ?_) rfl rfl (by kernel_rfl) (by kernel_rfl) (by kernel_rfl) (fun _ _ _ h => h) (.inl ⟨by kernel_rfl, ?_⟩) hS0 ?_
          rotate_left
          · intro w' hw'; obtain ⟨hw1, hw2, hw3⟩ := hw'; go_simp; try with_reducible rfl
          try simp only [Act.put, List.setIfInBounds_toArray, List.set_cons_zero, List.set_cons_succ]
          refine wpAnyH_takeD (some 29) (i := 8) (v := ?_) rfl rfl (by kernel_rfl) (by kernel_rfl) (by kernel_rfl) (fun _ _ _ h => h) (.inl ⟨by kernel_rfl, ?_⟩) hS0 ?_
          rotate_left
          · intro w' hw'; obtain ⟨hw1, hw2, hw3⟩ := hw'; go_simp; try with_reducible rfl
          try simp only [Act.put, List.setIfInBounds_toArray, List.set_cons_zero, List.set_cons_succ]
          refine wpAnyH_takeD (some 30) (i := 9) (v := ?_) rfl rfl (by kernel_rfl) (by kernel_rfl) (by kernel_rfl) (fun _ _ _ h => h) (.inl ⟨by kernel_rfl, ?_⟩) hS0 ?_
          rotate_left
          · intro w' hw'; obtain ⟨hw1, hw2, hw3⟩ := hw'; go_simp; try with_reducible rfl
          try simp only [Act.put, List.setIfInBounds_toArray, List.set_cons_zero, List.set_cons_succ]
          refine wpAnyH_takeD (some 31) (i := 10) (v := ?_) rfl rfl (by kernel_rfl) (by kernel_rfl) (by kernel_rfl) (fun _ _ _ h => h) (.inl ⟨by kernel_rfl, ?_⟩) hS0 ?_
          rotate_left
          · intro w' hw'; obtain ⟨hw1, hw2, hw3⟩ := hw'; go_simp; try with_reducible rfl
          try simp only [Act.put, List.setIfInBounds_toArray, List.set_cons_zero, List.set_cons_succ]
          refine wpAnyH_takeD (some 32) (i := 11) (v := ?_) rfl rfl (by kernel_rfl) (by kernel_rfl) (by kernel_rfl) (fun _ _ _ h => h) (.inl ⟨by kernel_rfl, ?_⟩) hS0 ?_
          rotate_left
          · intro w' hw'; obtain ⟨hw1, hw2, hw3⟩ := hw'; go_simp; try with_reducible rfl
          try simp only [Act.put, List.setIfInBounds_toArray, List.set_cons_zero, List.set_cons_succ]
          refine wpAnyH_takeD (some 33) (i := 12) (v := ?_) rfl rfl (by kernel_rfl) (by kernel_rfl) (by kernel_rfl) (fun _ _ _ h => h) (.inl ⟨by kernel_rfl, ?_⟩) hS0 ?_
          rotate_left
          · intro w' hw'; obtain ⟨hw1, hw2, hw3⟩ := hw'; go_simp; try with_reducible rfl
          try simp only [Act.put, List.setIfInBounds_toArray, List.set_cons_zero, List.set_cons_succ]
          refine wpAnyH_takeD (some 34) (i := 13) (v := ?_) rfl rfl (by kernel_rfl) (by kernel_rfl) (by kernel_rfl) (fun _ _ _ h => h) (.inl ⟨by kernel_rfl, ?_⟩) hS0 ?_
          rotate_left
          · intro w' hw'; obtain ⟨hw1, hw2, hw3⟩ := hw'; go_simp; try with_reducible rfl
          try simp only [Act.put, List.setIfInBounds_toArray, List.set_cons_zero, List.set_cons_succ]
          refine wpAnyH_takeD (some 35) (i := 14) (v := ?_) rfl rfl (by kernel_rfl) (by kernel_rfl) (by kernel_rfl) (fun _ _ _ h => h) (.inl ⟨by kernel_rfl, ?_⟩) hS0 ?_
          rotate_left
          · intro w' hw'; obtain ⟨hw1, hw2, hw3⟩ := hw'; go_simp; try with_reducible rfl
          try simp only [Act.put, List.setIfInBounds_toArray, List.set_cons_zero, List.set_cons_succ]
          refine wpAnyH_takeD (some 36) (i := 15) (v := ?_) rfl rfl (by kernel_rfl) (by kernel_rfl) (by kernel_rfl) (fun _ _ _ h => h) (.inl ⟨by kernel_rfl, ?_⟩) hS0 ?_
          rotate_left
          · intro w' hw'; obtain ⟨hw1, hw2, hw3⟩ := hw'; go_simp; try with_reducible rfl
          try simp only [Act.put, List.setIfInBounds_toArray, List.set_cons_zero, List.set_cons_succ]
          refine wpAnyH_takeD (some 37) (i := 16) (v := ?_) rfl rfl (by kernel_rfl) (by kernel_rfl) (by kernel_rfl) (fun _ _ _ h => h) (.inl ⟨by kernel_rfl, ?_⟩) hS0 ?_
          rotate_left
          · intro w' hw'; obtain ⟨hw1, hw2, hw3⟩ := hw'; go_simp; try with_reducible rfl
          try simp only [Act.put, List.setIfInBounds_toArray, List.set_cons_zero, List.set_cons_succ]
          refine wpAnyH_all (rs := [17]) (by kernel_rfl) (by simp) ?_
          intro i hi; simp only [List.mem_singleton] at hi; subst hi
          refine wpOp_step rfl (fun K hK => ?_)
          go_simp
          with_reducible refine (l05Full_any m wr.drew hm100).mono ?_
          rintro e v1 ⟨rfl, hB1⟩
          have hS1 := And.intro ((hB1.cell (p := ⟨g, k * 2, none⟩) lg).trans c1) (And.intro ((hB1.cell (p := ⟨g, k * 2 + 1, none⟩) lg).trans c2) ((hB1.cell (p := ⟨b, k, none⟩) lb).trans c3))
          refine hK _ _ ⟨hS1, ?_⟩
          try simp only [Act.put, List.setIfInBounds_toArray, List.set_cons_zero, List.set_cons_succ]
          refine wpAnyH_all (rs := [18]) (by kernel_rfl) (by simp) ?_
          intro i hi; simp only [List.mem_singleton] at hi; subst hi
          refine wpOp_step rfl (fun K hK => ?_)
          go_simp
          with_reducible refine (l05Within_any x y (mbel m).1 (mbel m).2 v1).mono ?_
          rintro e v2 ⟨rfl, hB2⟩
          have hS2 := And.intro ((hB2.cell (p := ⟨g, k * 2, none⟩) (Nat.lt_of_lt_of_le lg hB1.size)).trans hS1.1) (And.intro ((hB2.cell (p := ⟨g, k * 2 + 1, none⟩) (Nat.lt_of_lt_of_le lg hB1.size)).trans hS1.2.1) ((hB2.cell (p := ⟨b, k, none⟩) (Nat.lt_of_lt_of_le lb hB1.size)).trans hS1.2.2))
          refine hK _ _ ⟨hS2, ?_⟩
          try simp only [Act.put, List.setIfInBounds_toArray, List.set_cons_zero, List.set_cons_succ]
          have HE : Hid (Below wr.heap.size wr v2) := hid (HD.out.trans (hB1.trans (hB2.mono hB1.size)))
          cases hq : withinM x y (mbel m).1 (mbel m).2 with
          | false =>
            rw [hq] at HW
            refine wpAnyH_takeD (some 40) (i := 19) (v := ?_) rfl rfl (by kernel_rfl) (by kernel_rfl) (by kernel_rfl) (fun _ _ _ h => h) (.inl ⟨by kernel_rfl, ?_⟩) hS2 ?_
            rotate_left
            · intro w' hw'; obtain ⟨hw1, hw2, hw3⟩ := hw'; go_simp; try with_reducible rfl
            try simp only [Act.put, List.setIfInBounds_toArray, List.set_cons_zero, List.set_cons_succ]
            refine wpAnyH_takeD (some 41) (i := 20) (v := ?_) rfl rfl (by kernel_rfl) (by kernel_rfl) (by kernel_rfl) (fun _ _ _ h => h) (.inl ⟨by kernel_rfl, ?_⟩) hS2 ?_
            rotate_left
            · intro w' hw'; obtain ⟨hw1, hw2, hw3⟩ := hw'; go_simp; try with_reducible rfl
            try simp only [Act.put, List.setIfInBounds_toArray, List.set_cons_zero, List.set_cons_succ]
            refine wpAnyH_done (by kernel_rfl) ?_ _
            go_wp2_with fail
            go_ret
            exact ⟨by rw [all_no (j := k) (by omega) (by rw [HW.out]; rfl)]; rfl, hB.trans (HE.out.mono hzr)⟩
          | true =>
            rw [hq] at HW
            refine wpAnyH_takeD (some 40) (i := 19) (v := ?_) rfl rfl (by kernel_rfl) (by kernel_rfl) (by kernel_rfl) (fun _ _ _ h => h) (.inl ⟨by kernel_rfl, ?_⟩) hS2 ?_
            rotate_left
            · intro w' hw'; obtain ⟨hw1, hw2, hw3⟩ := hw'; go_simp; try with_reducible rfl
            try simp only [Act.put, List.setIfInBounds_toArray, List.set_cons_zero, List.set_cons_succ]
            refine wpAnyH_takeD (some 41) (i := 20) (v := ?_) rfl rfl (by kernel_rfl) (by kernel_rfl) (by kernel_rfl) (fun _ _ _ h => h) (.inl ⟨by kernel_rfl, ?_⟩) hS2 ?_
            rotate_left
            · intro w' hw'; obtain ⟨hw1, hw2, hw3⟩ := hw'; go_simp; try with_reducible rfl
            try simp only [Act.put, List.setIfInBounds_toArray, List.set_cons_zero, List.set_cons_succ]
            refine wpAnyH_done (by kernel_rfl) ?_ _
            go_wp2_with fail
            go_roundw
            case rel => exact ⟨k + 1, by omega, by go_num, HR0.out.below HE.out lg, HS0.out.below HE.out lb, hB.trans (HE.out.mono hzr), fun j hj => by
              by_cases e : j = k
              · subst e; exact HW.out
              · exact HA.out j (by omega)⟩
            case measure => simp [intOf]; omega
      · rw [if_neg (by rw [← HN.out]; exact hkn)] at hW0
        have HW := hid hW0
        have hkn0 : ¬ (k : Int) < (n : Int) := by omega
        clear hW0 hr hs
        cases hz : sameM x y 0 0 with
        | true =>
          rw [hz] at he HW
          clear hz
          go_wp2_with fail
          go_roundw
          case rel => exact ⟨k + 1, by omega, by go_num, HR0.out, HS0.out, hB, fun j hj => by
            by_cases e : j = k
            · subst e; exact HW.out
            · exact HA.out j (by omega)⟩
          case measure => simp [intOf]; omega
        | false =>
          rw [hz] at he HW
          clear hz
          go_wp2_with fail
          go_ret
          exact ⟨by rw [all_no (j := k) hlt HW.out]; rfl, hB⟩
    · obtain rfl : k = 8 := by omega
      have HA := hid (all_yes ha)
      clear ha hr hs
      go_wp2_with fail
      go_ret
      exact ⟨by rw [HA.out]; rfl, hB⟩
set_option maxHeartbeats 1000000 in
theorem specValidPhoto_any (b n cap : Nat) (zs : List Int) (ps : List (Int × Int)) (w : World) (h : Stk w b zs) (hn : n = zs.length) :
    Calls Try.prog 13 #[.slice (some ⟨b, 0, none⟩) n cap, .agg (phL ps).toArray] w fun e w' => e = .returned (.bool (okPh zs ps)) ∧ Below w.heap.size w w' := by
  have r1 := Row.new w 31 (phL ps)
  have hB : Below w.heap.size w (w.alloc (.cells (phL ps).toArray 31)) := (Below.refl _ _).alloc (Nat.le_refl _) _
  have hS := h.below hB h.1
  have HV := hid (l01Ok_any b n cap zs _ hS hn)
  cases hv : okL zs with
  | false =>
    rw [hv] at HV
    rw [okPh_no hv]
    clear h hn hS hv r1
    go_enter Try.func13, Try.ntmps13
    go_wp2_with fail
    with_reducible refine HV.out.mono ?_
    rintro e w1 ⟨rfl, rfl⟩
    go_wp2_with fail
    go_ret
    exact ⟨rfl, hB⟩
  | true =>
    rw [hv] at HV
    rw [okPh_all hv]
    have HK := hid (l05Ok_any b n cap w.heap.size zs ps _ hS hn r1 hv)
    clear h hn hS hv r1
    go_enter Try.func13, Try.ntmps13
    go_wp2_with fail
    with_reducible refine HV.out.mono ?_
    rintro e w1 ⟨rfl, rfl⟩
    go_wp2_with fail
    with_reducible refine HK.out.mono ?_
    rintro e w1 ⟨rfl, hB1⟩
    go_wp2_with fail
    go_ret
    exact ⟨rfl, hB.trans (hB1.mono (by simp))⟩
end Go.Proofs.Ytgfdfnlbkljgeaa
