/- The photo of digits: the program's and the model's. -/
import Derived.Test.YtgfdfnlbkljgeaaPhF
import Derived.Test.YtgfdfnlbkljgeaaPhG
import Derived.Test.YtgfdfnlbkljgeaaHeld
import Derived.Test.YtgfdfnlbkljgeaaDigits
namespace Go.Proofs.Ytgfdfnlbkljgeaa
open Go.RowKit
/-- the photo of the digits of the first n wheels -/
def digP (n : Nat) (ds : List Int) : List (Int × Int) := (List.range n).map fun j => putM 0 0 (ds[j]?.getD 0)
theorem pa_dig (n : Nat) (ds : List Int) (k : Nat) (h : k < n) : pa (digP n ds) k = (putM 0 0 (ds[k]?.getD 0)).1 := by simp [pa, digP, h]
theorem pb_dig (n : Nat) (ds : List Int) (k : Nat) (h : k < n) : pb (digP n ds) k = (putM 0 0 (ds[k]?.getD 0)).2 := by simp [pb, digP, h]
theorem dig_out (n : Nat) (ds : List Int) (k : Nat) (h : n ≤ k) : pa (digP n ds) k = 0 ∧ pb (digP n ds) k = 0 := by
  have : (digP n ds)[k]? = none := List.getElem?_eq_none (by simp [digP]; omega)
  simp [pa, pb, this]
theorem map_at (ds : List Int) (k : Nat) (h : k < ds.length) : (ds.map (Value.int .u8))[k]? = some (.int .u8 (ds[k]?.getD 0)) := by simp [h]

set_option maxRecDepth 100000 in
set_option maxHeartbeats 2000000 in
theorem photo_any (a : Option Addr) (n cap : Nat) (d0 d1 d2 d3 d4 d5 d6 d7 : Int) (w : World) (hn : n ≤ 8) (hd : ∀ k, k < n → 0 ≤ [d0, d1, d2, d3, d4, d5, d6, d7][k]?.getD 0 ∧ [d0, d1, d2, d3, d4, d5, d6, d7][k]?.getD 0 ≤ 127) :
    Calls Try.prog 48 #[.slice a n cap, .agg #[.int .u8 d0, .int .u8 d1, .int .u8 d2, .int .u8 d3, .int .u8 d4, .int .u8 d5, .int .u8 d6, .int .u8 d7]] w fun e w' => e = .returned (.agg (phL (digP n [d0, d1, d2, d3, d4, d5, d6, d7])).toArray) ∧ Below w.heap.size w w' := by
  have r0 : Row (((w.alloc (.cells #[.int .u8 d0, .int .u8 d1, .int .u8 d2, .int .u8 d3, .int .u8 d4, .int .u8 d5, .int .u8 d6, .int .u8 d7] 38)).alloc (.cells #[.int .u64 0, .int .u64 0, .int .u64 0, .int .u64 0, .int .u64 0, .int .u64 0, .int .u64 0, .int .u64 0, .int .u64 0, .int .u64 0, .int .u64 0, .int .u64 0, .int .u64 0, .int .u64 0, .int .u64 0, .int .u64 0] 31)).alloc (.cells #[.int .u64 0, .int .u64 0, .int .u64 0, .int .u64 0, .int .u64 0, .int .u64 0, .int .u64 0, .int .u64 0, .int .u64 0, .int .u64 0, .int .u64 0, .int .u64 0, .int .u64 0, .int .u64 0, .int .u64 0, .int .u64 0] 31)) w.heap.size 38 ([d0, d1, d2, d3, d4, d5, d6, d7].map (Value.int .u8)) := ((Row.new w 38 [.int .u8 d0, .int .u8 d1, .int .u8 d2, .int .u8 d3, .int .u8 d4, .int .u8 d5, .int .u8 d6, .int .u8 d7]).alloc _).alloc _
  have r1 := ((Row.new (w.alloc (.cells #[.int .u8 d0, .int .u8 d1, .int .u8 d2, .int .u8 d3, .int .u8 d4, .int .u8 d5, .int .u8 d6, .int .u8 d7] 38)) 31 [.int .u64 0, .int .u64 0, .int .u64 0, .int .u64 0, .int .u64 0, .int .u64 0, .int .u64 0, .int .u64 0, .int .u64 0, .int .u64 0, .int .u64 0, .int .u64 0, .int .u64 0, .int .u64 0, .int .u64 0, .int .u64 0]).alloc (.cells #[.int .u64 0, .int .u64 0, .int .u64 0, .int .u64 0, .int .u64 0, .int .u64 0, .int .u64 0, .int .u64 0, .int .u64 0, .int .u64 0, .int .u64 0, .int .u64 0, .int .u64 0, .int .u64 0, .int .u64 0, .int .u64 0] 31)).zeros
  have r2 := (Row.new ((w.alloc (.cells #[.int .u8 d0, .int .u8 d1, .int .u8 d2, .int .u8 d3, .int .u8 d4, .int .u8 d5, .int .u8 d6, .int .u8 d7] 38)).alloc (.cells #[.int .u64 0, .int .u64 0, .int .u64 0, .int .u64 0, .int .u64 0, .int .u64 0, .int .u64 0, .int .u64 0, .int .u64 0, .int .u64 0, .int .u64 0, .int .u64 0, .int .u64 0, .int .u64 0, .int .u64 0, .int .u64 0] 31)) 31 [.int .u64 0, .int .u64 0, .int .u64 0, .int .u64 0, .int .u64 0, .int .u64 0, .int .u64 0, .int .u64 0, .int .u64 0, .int .u64 0, .int .u64 0, .int .u64 0, .int .u64 0, .int .u64 0, .int .u64 0, .int .u64 0]).zeros
  have hB : Below w.heap.size w (((w.alloc (.cells #[.int .u8 d0, .int .u8 d1, .int .u8 d2, .int .u8 d3, .int .u8 d4, .int .u8 d5, .int .u8 d6, .int .u8 d7] 38)).alloc (.cells #[.int .u64 0, .int .u64 0, .int .u64 0, .int .u64 0, .int .u64 0, .int .u64 0, .int .u64 0, .int .u64 0, .int .u64 0, .int .u64 0, .int .u64 0, .int .u64 0, .int .u64 0, .int .u64 0, .int .u64 0, .int .u64 0] 31)).alloc (.cells #[.int .u64 0, .int .u64 0, .int .u64 0, .int .u64 0, .int .u64 0, .int .u64 0, .int .u64 0, .int .u64 0, .int .u64 0, .int .u64 0, .int .u64 0, .int .u64 0, .int .u64 0, .int .u64 0, .int .u64 0, .int .u64 0] 31)) := (((Below.refl _ _).alloc (Nat.le_refl _) _).alloc (by simp) _).alloc (by simp; omega) _
  simp only [World.size_alloc] at r1 r2
  have HD := hid hd
  have hi := Try.infoPhoto
  clear hd
  go_enter Try.func48, Try.ntmps48
  go_wp2_with fail
  go_loopw [9] (fun i wr => ∃ k : Nat, k ≤ n ∧ i = .int .i64 k ∧ Row wr w.heap.size 38 ([d0, d1, d2, d3, d4, d5, d6, d7].map (Value.int .u8)) ∧ Row wr (w.heap.size + 1) 31 (phL []) ∧ Row wr (w.heap.size + 1 + 1) 31 (mix (digP n [d0, d1, d2, d3, d4, d5, d6, d7]) [] k) ∧ Below w.heap.size w wr) (fun i _ => n - (intOf i).toNat)
  case atStart => exact ⟨0, Nat.zero_le _, rfl, r0, r1, by rw [mix_zero]; exact r2, hB⟩
  case round =>
    clear r0 r1 r2 hB
    obtain ⟨k, hk, rfl, r0, r1, r2, hB⟩ := hrel
    by_cases hlt : k < n
    · have hdb := HD.out k hlt
      have hpa := pa_dig n [d0, d1, d2, d3, d4, d5, d6, d7] k hlt
      have hpb := pb_dig n [d0, d1, d2, d3, d4, d5, d6, d7] k hlt
      have xd := (r0.cell k).trans (map_at [d0, d1, d2, d3, d4, d5, d6, d7] k (by simp; omega))
      have HR := hid r0; have HR1 := hid r1; have HR2 := hid r2
      have ld := r0.lt
      obtain ⟨d, hdd⟩ : ∃ d, d = [d0, d1, d2, d3, d4, d5, d6, d7][k]?.getD 0 := ⟨_, rfl⟩
      rw [← hdd] at hdb xd hpa hpb
      obtain ⟨q1, q2⟩ := mix_at (digP n [d0, d1, d2, d3, d4, d5, d6, d7]) [] k k (by omega) (Nat.le_refl _)
      rw [(nil_at k).1] at q1
      rw [(nil_at k).2] at q2
      have c1 := (r2.cell (k * 2)).trans q1
      have c2 := (r2.cell (k * 2 + 1)).trans q2
      have HC := hid (fun w => with_put 0 0 d w ⟨hdb.1, hdb.2⟩)
      rw [← hpa, ← hpb] at HC
      have hk8 : (k : Int) < 8 := by omega
      have hk0 : (0 : Int) ≤ (k : Int) := by omega
      have hlt0 : (k : Int) < (n : Int) := by omega
      have hd0 : 0 ≤ d := hdb.1
      have hd1 : d ≤ 127 := hdb.2
      have HQ := hid (And.intro q1 q2)
      have hwr : IntKind.i64.wrap d = d := IntWalk.i64_in _ (by omega)
      have hzr := hB.size
      have HDD := hid hdd
      clear hdd hpa hpb r0 r1 r2 q1 q2 hdb
      go_wp2_with fail
      refine wp_region_held (S := fun W' : World => W'.cell? ⟨w.heap.size, k, none⟩ = some (.int .u8 d)) (by kernel_rfl) ?_
      change wpAnyH _ _ _ _ _ _ _ _ (World.drew _)
      have hS0 : (fun W' : World => W'.cell? ⟨w.heap.size, k, none⟩ = some (.int .u8 d)) wr.drew := xd
      refine wpAnyH_takeD (some 12) (i := 0) (v := ?_) rfl rfl (by kernel_rfl) (by kernel_rfl) (by kernel_rfl) (fun _ _ _ h => h) (.inl ⟨by kernel_rfl, ?_⟩) hS0 ?_
      rotate_left
      · intro w' hw'; have hw1 := hw'; go_simp; try with_reducible rfl
      try simp only [Act.put, List.setIfInBounds_toArray, List.set_cons_zero, List.set_cons_succ]
      refine wpAnyH_takeD (some 13) (i := 1) (v := ?_) rfl rfl (by kernel_rfl) (by kernel_rfl) (by kernel_rfl) (fun _ _ _ h => h) (.inl ⟨by kernel_rfl, ?_⟩) hS0 ?_
      rotate_left
      · intro w' hw'; have hw1 := hw'; go_simp; try with_reducible rfl
      try simp only [Act.put, List.setIfInBounds_toArray, List.set_cons_zero, List.set_cons_succ]
      refine wpAnyH_takeD (some 14) (i := 2) (v := ?_) rfl rfl (by kernel_rfl) (by kernel_rfl) (by kernel_rfl) (fun _ _ _ h => h) (.inl ⟨by kernel_rfl, ?_⟩) hS0 ?_
      rotate_left
      · intro w' hw'; have hw1 := hw'; go_simp; try with_reducible rfl
      try simp only [Act.put, List.setIfInBounds_toArray, List.set_cons_zero, List.set_cons_succ]
      refine wpAnyH_takeD (some 16) (i := 4) (v := ?_) rfl rfl (by kernel_rfl) (by kernel_rfl) (by kernel_rfl) (fun _ _ _ h => h) (.inl ⟨by kernel_rfl, ?_⟩) hS0 ?_
      rotate_left
      · intro w' hw'; have hw1 := hw'; go_simp; try with_reducible rfl
      try simp only [Act.put, List.setIfInBounds_toArray, List.set_cons_zero, List.set_cons_succ]
      refine wpAnyH_takeD (some 17) (i := 5) (v := ?_) rfl rfl (by kernel_rfl) (by kernel_rfl) (by kernel_rfl) (fun _ _ _ h => h) (.inl ⟨by kernel_rfl, ?_⟩) hS0 ?_
      rotate_left
      · intro w' hw'; have hw1 := hw'; go_simp; try with_reducible rfl
      try simp only [Act.put, List.setIfInBounds_toArray, List.set_cons_zero, List.set_cons_succ]
      refine wpAnyH_takeD (some 18) (i := 6) (v := ?_) rfl rfl (by kernel_rfl) (by kernel_rfl) (by kernel_rfl) (fun _ _ _ h => h) (.inl ⟨by kernel_rfl, ?_⟩) hS0 ?_
      rotate_left
      · intro w' hw'; have hw1 := hw'; go_simp; try with_reducible rfl
      try simp only [Act.put, List.setIfInBounds_toArray, List.set_cons_zero, List.set_cons_succ]
      refine wpAnyH_takeD (some 19) (i := 7) (v := ?_) rfl rfl (by kernel_rfl) (by kernel_rfl) (by kernel_rfl) (fun _ _ _ h => h) (.inl ⟨by kernel_rfl, ?_⟩) hS0 ?_
      rotate_left
      · intro w' hw'; have hw1 := hw'; go_simp; try with_reducible rfl
      try simp only [Act.put, List.setIfInBounds_toArray, List.set_cons_zero, List.set_cons_succ]
      refine wpAnyH_all (rs := [3]) (by kernel_rfl) (by simp) ?_
      intro i hi; simp only [List.mem_singleton] at hi; subst hi
      refine wpOp_step rfl (fun K hK => ?_)
      go_simp
      refine hK _ _ ⟨hS0, ?_⟩
      try simp only [Act.put, List.setIfInBounds_toArray, List.set_cons_zero, List.set_cons_succ]
      refine wpAnyH_all (rs := [8]) (by kernel_rfl) (by simp) ?_
      intro i hi; simp only [List.mem_singleton] at hi; subst hi
      refine wpOp_step rfl (fun K hK => ?_)
      go_simp
      with_reducible refine ((HC.out _)).mono ?_
      rintro e v1 ⟨rfl, hB1⟩
      have hS1 := (hB1.cell (p := ⟨w.heap.size, k, none⟩) ld).trans xd
      refine hK _ _ ⟨hS1, ?_⟩
      try simp only [Act.put, List.setIfInBounds_toArray, List.set_cons_zero, List.set_cons_succ]
      refine wpAnyH_takeD (some 21) (i := 9) (v := ?_) rfl rfl (by kernel_rfl) (by kernel_rfl) (by kernel_rfl) (fun _ _ _ h => h) (.inl ⟨by kernel_rfl, ?_⟩) hS1 ?_
      rotate_left
      · intro w' hw'; have hw1 := hw'; go_simp; try with_reducible rfl
      try simp only [Act.put, List.setIfInBounds_toArray, List.set_cons_zero, List.set_cons_succ]
      have HB1 : Hid (Below wr.heap.size wr v1) := hid ((Below.refl wr.heap.size wr).drew.trans hB1)
      clear c1 c2 hB1
      have s0 := HR.out.below HB1.out ld
      have s1 := HR1.out.below HB1.out HR1.out.lt
      have s2 := HR2.out.below HB1.out HR2.out.lt
      have hB2 := hB.trans (HB1.out.mono hzr)
      have o1 := (s2.cell (k * 2)).trans HQ.out.1
      have o2 := (s2.cell (k * 2 + 1)).trans HQ.out.2
      have f1 := s2.frozen (k * 2)
      have f2 := s2.frozen (k * 2 + 1)
      have S2 := (s2.set (k * 2) (.int .u64 (pa (digP n [d0, d1, d2, d3, d4, d5, d6, d7]) k))).set (k * 2 + 1) (.int .u64 (pb (digP n [d0, d1, d2, d3, d4, d5, d6, d7]) k))
      rw [mix_set (digP n [d0, d1, d2, d3, d4, d5, d6, d7]) [] k (by omega)] at S2
      have S0 := (s0.other (a := ⟨w.heap.size + 1 + 1, k * 2, none⟩) (by simp; omega) (.int .u64 (pa (digP n [d0, d1, d2, d3, d4, d5, d6, d7]) k))).other (a := ⟨w.heap.size + 1 + 1, k * 2 + 1, none⟩) (by simp; omega) (.int .u64 (pb (digP n [d0, d1, d2, d3, d4, d5, d6, d7]) k))
      have S1 := (s1.other (a := ⟨w.heap.size + 1 + 1, k * 2, none⟩) (by simp) (.int .u64 (pa (digP n [d0, d1, d2, d3, d4, d5, d6, d7]) k))).other (a := ⟨w.heap.size + 1 + 1, k * 2 + 1, none⟩) (by simp) (.int .u64 (pb (digP n [d0, d1, d2, d3, d4, d5, d6, d7]) k))
      have SB := (hB2.setCell (p := ⟨w.heap.size + 1 + 1, k * 2, none⟩) (by simp; omega) (.int .u64 (pa (digP n [d0, d1, d2, d3, d4, d5, d6, d7]) k))).setCell (p := ⟨w.heap.size + 1 + 1, k * 2 + 1, none⟩) (by simp; omega) (.int .u64 (pb (digP n [d0, d1, d2, d3, d4, d5, d6, d7]) k))
      have hS2 := S0.cell k
      rw [map_at [d0, d1, d2, d3, d4, d5, d6, d7] k (by simp; omega), ← HDD.out] at hS2
      clear s0 s1 s2 hB2
      refine wpAnyH_all (rs := [10]) (by kernel_rfl) (by simp) ?_
      intro i hi; simp only [List.mem_singleton] at hi; subst hi
      refine wpOp_step rfl (fun K hK => ?_)
      go_simp
      refine hK _ _ ⟨hS2, ?_⟩
      try simp only [Act.put, List.setIfInBounds_toArray, List.set_cons_zero, List.set_cons_succ]
      refine wpAnyH_done (by kernel_rfl) ?_ _
      go_wp2_with fail
      go_roundw
      case rel => exact ⟨k + 1, by omega, by go_num, S0, S1, S2, SB⟩
      case measure => simp [intOf]; omega
    · obtain rfl : n = k := by omega
      rw [mix_end _ _ n (fun j hj => by have a := dig_out n [d0, d1, d2, d3, d4, d5, d6, d7] j hj; have c := nil_at j; exact ⟨a.1.trans c.1.symm, a.2.trans c.2.symm⟩)] at r2
      have R1 := hid (r1.setCells (ys := (phL (digP n [d0, d1, d2, d3, d4, d5, d6, d7]))) rfl)
      have T1 := r1.there 16 rfl
      have SB := hid (below_setCells (phL (digP n [d0, d1, d2, d3, d4, d5, d6, d7])) 0 wr hB (g := w.heap.size + 1) (by omega))
      clear r1 hB r0
      go_wp2_with (first | ((with_reducible refine wpList_load_row rfl 31 _ rfl (w.heap.size + 1 + 1) ?_ 31 (phL (digP n [d0, d1, d2, d3, d4, d5, d6, d7])).toArray (0, 0) _ ?_ Try.underlying31 ?_ ?_ ?_); rfl; exact r2; rfl; (rw [sz16]; exact hi)) | ((with_reducible refine wpList_store_mid rfl 31 _ _ rfl (w.heap.size + 1) 0 (phL (digP n [d0, d1, d2, d3, d4, d5, d6, d7])).toArray ?_ ?_ ?_ ?_ (all_oneCell_toArray (phL_one _)) ?_); rfl; rfl; (rw [sz16]; exact T1); (rw [sz16]; exact hi)))
      exact bodyPost_ret (v := .agg (phL (digP n [d0, d1, d2, d3, d4, d5, d6, d7])).toArray) (results_cell_row (fn := Try.f48) rfl _ _ _ _ _ (0, 0) _ rfl R1.out Try.underlying31 rfl (by rw [sz16]; exact hi)) rfl ⟨rfl, SB.out⟩
set_option maxRecDepth 100000 in
set_option maxHeartbeats 2000000 in
theorem l05Of_any (a : Option Addr) (n cap : Nat) (d0 d1 d2 d3 d4 d5 d6 d7 : Int) (w : World) (hn : n ≤ 8) (hd : ∀ k, k < n → 0 ≤ [d0, d1, d2, d3, d4, d5, d6, d7][k]?.getD 0 ∧ [d0, d1, d2, d3, d4, d5, d6, d7][k]?.getD 0 ≤ 127) :
    Calls Try.prog 46 #[.slice a n cap, .agg #[.int .u8 d0, .int .u8 d1, .int .u8 d2, .int .u8 d3, .int .u8 d4, .int .u8 d5, .int .u8 d6, .int .u8 d7]] w fun e w' => e = .returned (.agg (phL (digP n [d0, d1, d2, d3, d4, d5, d6, d7])).toArray) ∧ Below w.heap.size w w' := by
  have r0 : Row (((w.alloc (.cells #[.int .u8 d0, .int .u8 d1, .int .u8 d2, .int .u8 d3, .int .u8 d4, .int .u8 d5, .int .u8 d6, .int .u8 d7] 38)).alloc (.cells #[.int .u64 0, .int .u64 0, .int .u64 0, .int .u64 0, .int .u64 0, .int .u64 0, .int .u64 0, .int .u64 0, .int .u64 0, .int .u64 0, .int .u64 0, .int .u64 0, .int .u64 0, .int .u64 0, .int .u64 0, .int .u64 0] 31)).alloc (.cells #[.int .u64 0, .int .u64 0, .int .u64 0, .int .u64 0, .int .u64 0, .int .u64 0, .int .u64 0, .int .u64 0, .int .u64 0, .int .u64 0, .int .u64 0, .int .u64 0, .int .u64 0, .int .u64 0, .int .u64 0, .int .u64 0] 31)) w.heap.size 38 ([d0, d1, d2, d3, d4, d5, d6, d7].map (Value.int .u8)) := ((Row.new w 38 [.int .u8 d0, .int .u8 d1, .int .u8 d2, .int .u8 d3, .int .u8 d4, .int .u8 d5, .int .u8 d6, .int .u8 d7]).alloc _).alloc _
  have r1 := ((Row.new (w.alloc (.cells #[.int .u8 d0, .int .u8 d1, .int .u8 d2, .int .u8 d3, .int .u8 d4, .int .u8 d5, .int .u8 d6, .int .u8 d7] 38)) 31 [.int .u64 0, .int .u64 0, .int .u64 0, .int .u64 0, .int .u64 0, .int .u64 0, .int .u64 0, .int .u64 0, .int .u64 0, .int .u64 0, .int .u64 0, .int .u64 0, .int .u64 0, .int .u64 0, .int .u64 0, .int .u64 0]).alloc (.cells #[.int .u64 0, .int .u64 0, .int .u64 0, .int .u64 0, .int .u64 0, .int .u64 0, .int .u64 0, .int .u64 0, .int .u64 0, .int .u64 0, .int .u64 0, .int .u64 0, .int .u64 0, .int .u64 0, .int .u64 0, .int .u64 0] 31)).zeros
  have r2 := (Row.new ((w.alloc (.cells #[.int .u8 d0, .int .u8 d1, .int .u8 d2, .int .u8 d3, .int .u8 d4, .int .u8 d5, .int .u8 d6, .int .u8 d7] 38)).alloc (.cells #[.int .u64 0, .int .u64 0, .int .u64 0, .int .u64 0, .int .u64 0, .int .u64 0, .int .u64 0, .int .u64 0, .int .u64 0, .int .u64 0, .int .u64 0, .int .u64 0, .int .u64 0, .int .u64 0, .int .u64 0, .int .u64 0] 31)) 31 [.int .u64 0, .int .u64 0, .int .u64 0, .int .u64 0, .int .u64 0, .int .u64 0, .int .u64 0, .int .u64 0, .int .u64 0, .int .u64 0, .int .u64 0, .int .u64 0, .int .u64 0, .int .u64 0, .int .u64 0, .int .u64 0]).zeros
  have hB : Below w.heap.size w (((w.alloc (.cells #[.int .u8 d0, .int .u8 d1, .int .u8 d2, .int .u8 d3, .int .u8 d4, .int .u8 d5, .int .u8 d6, .int .u8 d7] 38)).alloc (.cells #[.int .u64 0, .int .u64 0, .int .u64 0, .int .u64 0, .int .u64 0, .int .u64 0, .int .u64 0, .int .u64 0, .int .u64 0, .int .u64 0, .int .u64 0, .int .u64 0, .int .u64 0, .int .u64 0, .int .u64 0, .int .u64 0] 31)).alloc (.cells #[.int .u64 0, .int .u64 0, .int .u64 0, .int .u64 0, .int .u64 0, .int .u64 0, .int .u64 0, .int .u64 0, .int .u64 0, .int .u64 0, .int .u64 0, .int .u64 0, .int .u64 0, .int .u64 0, .int .u64 0, .int .u64 0] 31)) := (((Below.refl _ _).alloc (Nat.le_refl _) _).alloc (by simp) _).alloc (by simp; omega) _
  simp only [World.size_alloc] at r1 r2
  have HD := hid hd
  have hi := Try.infoPhoto
  clear hd
  go_enter Try.func46, Try.ntmps46
  go_wp2_with fail
  go_loopw [6] (fun i wr => ∃ k : Nat, k ≤ n ∧ i = .int .i64 k ∧ Row wr w.heap.size 38 ([d0, d1, d2, d3, d4, d5, d6, d7].map (Value.int .u8)) ∧ Row wr (w.heap.size + 1) 31 (phL []) ∧ Row wr (w.heap.size + 1 + 1) 31 (mix (digP n [d0, d1, d2, d3, d4, d5, d6, d7]) [] k) ∧ Below w.heap.size w wr) (fun i _ => n - (intOf i).toNat)
  case atStart => exact ⟨0, Nat.zero_le _, rfl, r0, r1, by rw [mix_zero]; exact r2, hB⟩
  case round =>
    clear r0 r1 r2 hB
    obtain ⟨k, hk, rfl, r0, r1, r2, hB⟩ := hrel
    by_cases hlt : k < n
    · have hdb := HD.out k hlt
      have hpa := pa_dig n [d0, d1, d2, d3, d4, d5, d6, d7] k hlt
      have hpb := pb_dig n [d0, d1, d2, d3, d4, d5, d6, d7] k hlt
      have xd := (r0.cell k).trans (map_at [d0, d1, d2, d3, d4, d5, d6, d7] k (by simp; omega))
      have HR := hid r0; have HR1 := hid r1; have HR2 := hid r2
      have ld := r0.lt
      obtain ⟨d, hdd⟩ : ∃ d, d = [d0, d1, d2, d3, d4, d5, d6, d7][k]?.getD 0 := ⟨_, rfl⟩
      rw [← hdd] at hdb xd hpa hpb
      obtain ⟨q1, q2⟩ := mix_at (digP n [d0, d1, d2, d3, d4, d5, d6, d7]) [] k k (by omega) (Nat.le_refl _)
      rw [(nil_at k).1] at q1
      rw [(nil_at k).2] at q2
      have c1 := (r2.cell (k * 2)).trans q1
      have c2 := (r2.cell (k * 2 + 1)).trans q2
      have HC := hid (fun w => l05Put_any 0 0 d w ⟨hdb.1, hdb.2⟩)
      rw [← hpa, ← hpb] at HC
      have hk8 : (k : Int) < 8 := by omega
      have hk0 : (0 : Int) ≤ (k : Int) := by omega
      have hlt0 : (k : Int) < (n : Int) := by omega
      have hd0 : 0 ≤ d := hdb.1
      have hd1 : d ≤ 127 := hdb.2
      have HQ := hid (And.intro q1 q2)
      have hwr : IntKind.i64.wrap d = d := IntWalk.i64_in _ (by omega)
      have hzr := hB.size
      have HDD := hid hdd
      clear hdd hpa hpb r0 r1 r2 q1 q2 hdb
      go_wp2_with fail
      refine wp_region_held (S := fun W' : World => W'.cell? ⟨w.heap.size, k, none⟩ = some (.int .u8 d)) (by kernel_rfl) ?_
      change wpAnyH _ _ _ _ _ _ _ _ (World.drew _)
      have hS0 : (fun W' : World => W'.cell? ⟨w.heap.size, k, none⟩ = some (.int .u8 d)) wr.drew := xd
      refine wpAnyH_takeD (some 14) (i := 0) (v := ?_) rfl rfl (by kernel_rfl) (by kernel_rfl) (by kernel_rfl) (fun _ _ _ h => h) (.inl ⟨by kernel_rfl, ?_⟩) hS0 ?_
      rotate_left
      · intro w' hw'; have hw1 := hw'; go_simp; try with_reducible rfl
      try simp only [Act.put, List.setIfInBounds_toArray, List.set_cons_zero, List.set_cons_succ]
      refine wpAnyH_takeD (some 15) (i := 1) (v := ?_) rfl rfl (by kernel_rfl) (by kernel_rfl) (by kernel_rfl) (fun _ _ _ h => h) (.inl ⟨by kernel_rfl, ?_⟩) hS0 ?_
      rotate_left
      · intro w' hw'; have hw1 := hw'; go_simp; try with_reducible rfl
      try simp only [Act.put, List.setIfInBounds_toArray, List.set_cons_zero, List.set_cons_succ]
      refine wpAnyH_takeD (some 16) (i := 2) (v := ?_) rfl rfl (by kernel_rfl) (by kernel_rfl) (by kernel_rfl) (fun _ _ _ h => h) (.inl ⟨by kernel_rfl, ?_⟩) hS0 ?_
      rotate_left
      · intro w' hw'; have hw1 := hw'; go_simp; try with_reducible rfl
      try simp only [Act.put, List.setIfInBounds_toArray, List.set_cons_zero, List.set_cons_succ]
      refine wpAnyH_takeD (some 18) (i := 4) (v := ?_) rfl rfl (by kernel_rfl) (by kernel_rfl) (by kernel_rfl) (fun _ _ _ h => h) (.inl ⟨by kernel_rfl, ?_⟩) hS0 ?_
      rotate_left
      · intro w' hw'; have hw1 := hw'; go_simp; try with_reducible rfl
      try simp only [Act.put, List.setIfInBounds_toArray, List.set_cons_zero, List.set_cons_succ]
      refine wpAnyH_takeD (some 19) (i := 5) (v := ?_) rfl rfl (by kernel_rfl) (by kernel_rfl) (by kernel_rfl) (fun _ _ _ h => h) (.inl ⟨by kernel_rfl, ?_⟩) hS0 ?_
      rotate_left
      · intro w' hw'; have hw1 := hw'; go_simp; try with_reducible rfl
      try simp only [Act.put, List.setIfInBounds_toArray, List.set_cons_zero, List.set_cons_succ]
      refine wpAnyH_takeD (some 20) (i := 6) (v := ?_) rfl rfl (by kernel_rfl) (by kernel_rfl) (by kernel_rfl) (fun _ _ _ h => h) (.inl ⟨by kernel_rfl, ?_⟩) hS0 ?_
      rotate_left
      · intro w' hw'; have hw1 := hw'; go_simp; try with_reducible rfl
      try simp only [Act.put, List.setIfInBounds_toArray, List.set_cons_zero, List.set_cons_succ]
      refine wpAnyH_takeD (some 21) (i := 7) (v := ?_) rfl rfl (by kernel_rfl) (by kernel_rfl) (by kernel_rfl) (fun _ _ _ h => h) (.inl ⟨by kernel_rfl, ?_⟩) hS0 ?_
      rotate_left
      · intro w' hw'; have hw1 := hw'; go_simp; try with_reducible rfl
      try simp only [Act.put, List.setIfInBounds_toArray, List.set_cons_zero, List.set_cons_succ]
      refine wpAnyH_all (rs := [3]) (by kernel_rfl) (by simp) ?_
      intro i hi; simp only [List.mem_singleton] at hi; subst hi
      refine wpOp_step rfl (fun K hK => ?_)
      go_simp
      refine hK _ _ ⟨hS0, ?_⟩
      try simp only [Act.put, List.setIfInBounds_toArray, List.set_cons_zero, List.set_cons_succ]
      refine wpAnyH_all (rs := [8]) (by kernel_rfl) (by simp) ?_
      intro i hi; simp only [List.mem_singleton] at hi; subst hi
      refine wpOp_step rfl (fun K hK => ?_)
      go_simp
      with_reducible refine ((HC.out _)).mono ?_
      rintro e v1 ⟨rfl, hB1⟩
      have hS1 := (hB1.cell (p := ⟨w.heap.size, k, none⟩) ld).trans xd
      refine hK _ _ ⟨hS1, ?_⟩
      try simp only [Act.put, List.setIfInBounds_toArray, List.set_cons_zero, List.set_cons_succ]
      refine wpAnyH_takeD (some 23) (i := 9) (v := ?_) rfl rfl (by kernel_rfl) (by kernel_rfl) (by kernel_rfl) (fun _ _ _ h => h) (.inl ⟨by kernel_rfl, ?_⟩) hS1 ?_
      rotate_left
      · intro w' hw'; have hw1 := hw'; go_simp; try with_reducible rfl
      try simp only [Act.put, List.setIfInBounds_toArray, List.set_cons_zero, List.set_cons_succ]
      have HB1 : Hid (Below wr.heap.size wr v1) := hid ((Below.refl wr.heap.size wr).drew.trans hB1)
      clear c1 c2 hB1
      have s0 := HR.out.below HB1.out ld
      have s1 := HR1.out.below HB1.out HR1.out.lt
      have s2 := HR2.out.below HB1.out HR2.out.lt
      have hB2 := hB.trans (HB1.out.mono hzr)
      have o1 := (s2.cell (k * 2)).trans HQ.out.1
      have o2 := (s2.cell (k * 2 + 1)).trans HQ.out.2
      have f1 := s2.frozen (k * 2)
      have f2 := s2.frozen (k * 2 + 1)
      have S2 := (s2.set (k * 2) (.int .u64 (pa (digP n [d0, d1, d2, d3, d4, d5, d6, d7]) k))).set (k * 2 + 1) (.int .u64 (pb (digP n [d0, d1, d2, d3, d4, d5, d6, d7]) k))
      rw [mix_set (digP n [d0, d1, d2, d3, d4, d5, d6, d7]) [] k (by omega)] at S2
      have S0 := (s0.other (a := ⟨w.heap.size + 1 + 1, k * 2, none⟩) (by simp; omega) (.int .u64 (pa (digP n [d0, d1, d2, d3, d4, d5, d6, d7]) k))).other (a := ⟨w.heap.size + 1 + 1, k * 2 + 1, none⟩) (by simp; omega) (.int .u64 (pb (digP n [d0, d1, d2, d3, d4, d5, d6, d7]) k))
      have S1 := (s1.other (a := ⟨w.heap.size + 1 + 1, k * 2, none⟩) (by simp) (.int .u64 (pa (digP n [d0, d1, d2, d3, d4, d5, d6, d7]) k))).other (a := ⟨w.heap.size + 1 + 1, k * 2 + 1, none⟩) (by simp) (.int .u64 (pb (digP n [d0, d1, d2, d3, d4, d5, d6, d7]) k))
      have SB := (hB2.setCell (p := ⟨w.heap.size + 1 + 1, k * 2, none⟩) (by simp; omega) (.int .u64 (pa (digP n [d0, d1, d2, d3, d4, d5, d6, d7]) k))).setCell (p := ⟨w.heap.size + 1 + 1, k * 2 + 1, none⟩) (by simp; omega) (.int .u64 (pb (digP n [d0, d1, d2, d3, d4, d5, d6, d7]) k))
      have hS2 := S0.cell k
      rw [map_at [d0, d1, d2, d3, d4, d5, d6, d7] k (by simp; omega), ← HDD.out] at hS2
      clear s0 s1 s2 hB2
      refine wpAnyH_all (rs := [10]) (by kernel_rfl) (by simp) ?_
      intro i hi; simp only [List.mem_singleton] at hi; subst hi
      refine wpOp_step rfl (fun K hK => ?_)
      go_simp
      refine hK _ _ ⟨hS2, ?_⟩
      try simp only [Act.put, List.setIfInBounds_toArray, List.set_cons_zero, List.set_cons_succ]
      refine wpAnyH_done (by kernel_rfl) ?_ _
      go_wp2_with fail
      go_roundw
      case rel => exact ⟨k + 1, by omega, by go_num, S0, S1, S2, SB⟩
      case measure => simp [intOf]; omega
    · obtain rfl : n = k := by omega
      rw [mix_end _ _ n (fun j hj => by have a := dig_out n [d0, d1, d2, d3, d4, d5, d6, d7] j hj; have c := nil_at j; exact ⟨a.1.trans c.1.symm, a.2.trans c.2.symm⟩)] at r2
      have R1 := hid (r1.setCells (ys := (phL (digP n [d0, d1, d2, d3, d4, d5, d6, d7]))) rfl)
      have T1 := r1.there 16 rfl
      have SB := hid (below_setCells (phL (digP n [d0, d1, d2, d3, d4, d5, d6, d7])) 0 wr hB (g := w.heap.size + 1) (by omega))
      clear r1 hB r0
      go_wp2_with (first | ((with_reducible refine wpList_load_row rfl 31 _ rfl (w.heap.size + 1 + 1) ?_ 31 (phL (digP n [d0, d1, d2, d3, d4, d5, d6, d7])).toArray (0, 0) _ ?_ Try.underlying31 ?_ ?_ ?_); rfl; exact r2; rfl; (rw [sz16]; exact hi)) | ((with_reducible refine wpList_store_mid rfl 31 _ _ rfl (w.heap.size + 1) 0 (phL (digP n [d0, d1, d2, d3, d4, d5, d6, d7])).toArray ?_ ?_ ?_ ?_ (all_oneCell_toArray (phL_one _)) ?_); rfl; rfl; (rw [sz16]; exact T1); (rw [sz16]; exact hi)))
      exact bodyPost_ret (v := .agg (phL (digP n [d0, d1, d2, d3, d4, d5, d6, d7])).toArray) (results_cell_row (fn := Try.f46) rfl _ _ _ _ _ (0, 0) _ rfl R1.out Try.underlying31 rfl (by rw [sz16]; exact hi)) rfl ⟨rfl, SB.out⟩
end Go.Proofs.Ytgfdfnlbkljgeaa
