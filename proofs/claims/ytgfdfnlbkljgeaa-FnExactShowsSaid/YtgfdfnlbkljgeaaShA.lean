/- Whether digits are in a photo: the program's and the model's. -/
import Derived.Test.YtgfdfnlbkljgeaaVpB
import Derived.Test.YtgfdfnlbkljgeaaVpC
import Derived.Test.YtgfdfnlbkljgeaaPhP
import Derived.Test.YtgfdfnlbkljgeaaJoinS
import Derived.WalkSmall
import Derived.Deep.DeepCutAuto
namespace Go.Proofs.Ytgfdfnlbkljgeaa
open Go.RowKit
theorem pw_all : (List.range 64).all (fun k => decide (bits BinOp.or IntKind.u64 0 (IntKind.u64.wrap (2 ^ k)) = ((2 ^ k : Nat) : Int))) = true := by decide +kernel
theorem pw_at (k : Nat) (hk : k < 64) : bits BinOp.or IntKind.u64 0 (IntKind.u64.wrap (2 ^ k)) = ((2 ^ k : Nat) : Int) := by
  have := pw_all
  simp only [List.all_eq_true, List.mem_range, decide_eq_true_eq] at this
  exact this k hk
theorem nat_and_pow (X k : Nat) : X &&& 2 ^ k = if X.testBit k then 2 ^ k else 0 := by
  apply Nat.eq_of_testBit_eq
  intro i
  rw [Nat.testBit_and, Nat.testBit_two_pow]
  by_cases h : k = i
  · subst h
    cases hb : X.testBit k <;> simp [Nat.testBit_two_pow]
  · cases hb : X.testBit k <;> simp [Nat.testBit_two_pow, h]
theorem bit_and (x : Int) (k : Nat) (hk : k < 64) (hx : 0 ≤ x ∧ x ≤ 18446744073709551615) :
    (bits .and .u64 x (bits .or .u64 0 (IntKind.u64.wrap (2 ^ k))) == bits .or .u64 0 (IntKind.u64.wrap (2 ^ k))) = bitB x k := by
  rw [pw_at k hk]
  obtain ⟨X, rfl⟩ := Int.eq_ofNat_of_zero_le hx.1
  have h2 : 2 ^ k < 18446744073709551616 := by
    have : 2 ^ k < 2 ^ 64 := Nat.pow_lt_pow_right (by omega) hk
    simpa using this
  rw [u64_and_nat X (2 ^ k) (by omega) h2, nat_and_pow]
  unfold bitB
  have hq : ((X : Int) / 2 ^ k) = ((X / 2 ^ k : Nat) : Int) := by simp
  have hle : X / 2 ^ k ≤ X := Nat.div_le_self _ _
  have ht : X.testBit k = decide (X / 2 ^ k % 2 = 1) := Nat.testBit_eq_decide_div_mod_eq
  have hp : 0 < 2 ^ k := Nat.two_pow_pos k
  obtain ⟨q, hqd⟩ : ∃ q, q = X / 2 ^ k := ⟨_, rfl⟩
  rw [← hqd] at hq hle ht
  have hX : X ≤ 18446744073709551615 := by omega
  rw [hq, and_one_u64 _ (Int.natCast_nonneg q) (by omega), ht]
  clear hq ht hqd hle hX h2 hx hk
  obtain ⟨p, hpd⟩ : ∃ p, p = 2 ^ k := ⟨_, rfl⟩
  rw [← hpd] at hp ⊢
  clear hpd
  rw [Bool.eq_iff_iff, beq_iff_eq, beq_iff_eq]
  by_cases h : q % 2 = 1
  · rw [if_pos (by simpa using h)]
    constructor
    · intro _; omega
    · intro _; rfl
  · rw [if_neg (by simpa using h)]
    constructor
    · intro e; exfalso; omega
    · intro e; exfalso; omega
def showsB (n : Nat) (ps : List (Int × Int)) (ds : List Int) : Bool := (List.range n).all fun j => hasM (pa ps j) (pb ps j) (ds[j]?.getD 0)
theorem shows_no {n : Nat} {ps : List (Int × Int)} {ds : List Int} {j : Nat} (hj : j < n) (h : hasM (pa ps j) (pb ps j) (ds[j]?.getD 0) = false) : showsB n ps ds = false := by
  unfold showsB
  rw [List.all_eq_false]
  exact ⟨j, List.mem_range.2 hj, by rw [h]; simp⟩
theorem shows_yes {n : Nat} {ps : List (Int × Int)} {ds : List Int} (h : ∀ j, j < n → hasM (pa ps j) (pb ps j) (ds[j]?.getD 0) = true) : showsB n ps ds = true := by
  simp only [showsB, List.all_eq_true, List.mem_range]
  exact h
theorem and_put (x y d : Int) (hx : 0 ≤ x ∧ x ≤ 18446744073709551615) (hy : 0 ≤ y ∧ y ≤ 18446744073709551615) (hd : 0 ≤ d ∧ d ≤ 127) :
    sameM (bits .and .u64 x (putM 0 0 d).1) (bits .and .u64 y (putM 0 0 d).2) (putM 0 0 d).1 (putM 0 0 d).2 = hasM x y d := by
  obtain ⟨j, hj⟩ := Int.eq_ofNat_of_zero_le (show 0 ≤ d % 64 by omega)
  have hj' : j < 64 := by omega
  by_cases h : d < 64
  · rw [putM_low h hj, hasM_low h hj, sameM]
    simp only []
    rw [bit_and x j hj' hx, and_zero]
    simp
  · rw [putM_high (by omega) hj, hasM_high (by omega) hj, sameM]
    simp only []
    rw [bit_and y j hj' hy, and_zero]
    simp
theorem shows_impl {n : Nat} {ps : List (Int × Int)} {ds : List Int} (hn : n ≤ 8) (hp : Ph ps) (hd : ∀ k, k < n → 0 ≤ ds[k]?.getD 0 ∧ ds[k]?.getD 0 ≤ 127) : sameP (andP ps (digP n ds)) (digP n ds) = showsB n ps ds := by
  have key : ∀ j, j < 8 → sameM (pa (andP ps (digP n ds)) j) (pb (andP ps (digP n ds)) j) (pa (digP n ds) j) (pb (digP n ds) j) = if j < n then hasM (pa ps j) (pb ps j) (ds[j]?.getD 0) else true := by
    intro j hj
    obtain ⟨e1, e2⟩ := meet_at ps (digP n ds) j hj
    rw [e1, e2]
    by_cases hjn : j < n
    · rw [if_pos hjn, pa_dig n ds j hjn, pb_dig n ds j hjn]
      exact and_put _ _ _ (hp j).1 (hp j).2 (hd j hjn)
    · rw [if_neg hjn]
      have e := dig_out n ds j (by omega)
      rw [e.1, e.2, and_zero, and_zero]
      rfl
  rw [Bool.eq_iff_iff]
  simp only [sameP, showsB, List.all_eq_true, List.mem_range]
  constructor
  · intro a j hj
    have := a j (by omega)
    rw [key j (by omega), if_pos hj] at this
    exact this
  · intro a j hj
    rw [key j hj]
    by_cases hjn : j < n
    · rw [if_pos hjn]; exact a j hjn
    · rw [if_neg hjn]
set_option maxRecDepth 100000 in
set_option maxHeartbeats 2000000 in
theorem l05Shows_any (a : Option Addr) (n cap g : Nat) (ps : List (Int × Int)) (d0 d1 d2 d3 d4 d5 d6 d7 : Int) (w : World) (hr : Row w g 31 (phL ps)) (hp : Ph ps) (hn : n ≤ 8) (hd : ∀ k, k < n → 0 ≤ [d0, d1, d2, d3, d4, d5, d6, d7][k]?.getD 0 ∧ [d0, d1, d2, d3, d4, d5, d6, d7][k]?.getD 0 ≤ 127) :
    Calls Try.prog 60 #[.slice a n cap, .pointer (some ⟨g, 0, none⟩), .agg #[.int .u8 d0, .int .u8 d1, .int .u8 d2, .int .u8 d3, .int .u8 d4, .int .u8 d5, .int .u8 d6, .int .u8 d7]] w fun e w' => e = .returned (.bool (showsB n ps [d0, d1, d2, d3, d4, d5, d6, d7])) ∧ Below w.heap.size w w' := by
  have r0 := hr.alloc (.cells #[.int .u8 d0, .int .u8 d1, .int .u8 d2, .int .u8 d3, .int .u8 d4, .int .u8 d5, .int .u8 d6, .int .u8 d7] 38)
  have r1 : Row (w.alloc (.cells #[.int .u8 d0, .int .u8 d1, .int .u8 d2, .int .u8 d3, .int .u8 d4, .int .u8 d5, .int .u8 d6, .int .u8 d7] 38)) w.heap.size 38 ([d0, d1, d2, d3, d4, d5, d6, d7].map (Value.int .u8)) := Row.new w 38 [.int .u8 d0, .int .u8 d1, .int .u8 d2, .int .u8 d3, .int .u8 d4, .int .u8 d5, .int .u8 d6, .int .u8 d7]
  have hB : Below w.heap.size w (w.alloc (.cells #[.int .u8 d0, .int .u8 d1, .int .u8 d2, .int .u8 d3, .int .u8 d4, .int .u8 d5, .int .u8 d6, .int .u8 d7] 38)) := (Below.refl _ _).alloc (Nat.le_refl _) _
  have hgw := hr.lt
  have HD := hid hd
  have HP := hid hp
  clear hd hp hr
  go_enter Try.func60, Try.ntmps60
  go_wp2_with fail
  go_loopw [7] (fun i wr => ∃ k : Nat, k ≤ n ∧ i = .int .i64 k ∧ Row wr g 31 (phL ps) ∧ Row wr w.heap.size 38 ([d0, d1, d2, d3, d4, d5, d6, d7].map (Value.int .u8)) ∧ Below w.heap.size w wr ∧ ∀ j, j < k → hasM (pa ps j) (pb ps j) ([d0, d1, d2, d3, d4, d5, d6, d7][j]?.getD 0) = true) (fun i _ => n - (intOf i).toNat)
  case atStart => exact ⟨0, Nat.zero_le _, rfl, r0, r1, hB, fun j hj => absurd hj (Nat.not_lt_zero _)⟩
  case round =>
    clear r0 r1 hB
    obtain ⟨k, hk, rfl, r0, r1, hB, ha⟩ := hrel
    by_cases hlt : k < n
    · have HA := hid ha
      obtain ⟨hx, hy⟩ := HP.out k
      have hdb := HD.out k hlt
      obtain ⟨d, hdd⟩ : ∃ d, d = [d0, d1, d2, d3, d4, d5, d6, d7][k]?.getD 0 := ⟨_, rfl⟩
      obtain ⟨x, hx'⟩ : ∃ x, x = pa ps k := ⟨_, rfl⟩
      obtain ⟨y, hy'⟩ : ∃ y, y = pb ps k := ⟨_, rfl⟩
      obtain ⟨q1, q2⟩ := phL_at ps k (by omega)
      have xd := (r1.cell k).trans (map_at [d0, d1, d2, d3, d4, d5, d6, d7] k (by simp; omega))
      have hW : hasM (pa ps k) (pb ps k) ([d0, d1, d2, d3, d4, d5, d6, d7][k]?.getD 0) = hasM x y d := by rw [hx', hy', hdd]
      rw [← hx'] at q1 hx
      rw [← hy'] at q2 hy
      rw [← hdd] at xd hdb
      have HW := hid hW
      have c1 := (r0.cell (k * 2)).trans q1
      have c2 := (r0.cell (k * 2 + 1)).trans q2
      have c3 := xd
      have HC := hid (fun w => l05Has_in x y d w hdb hx hy)
      have hwr : IntKind.i64.wrap d = d := IntWalk.i64_in _ (by omega)
      have HR0 := hid r0; have HR1 := hid r1
      have lg := r0.lt; have ld := r1.lt
      have hzr := hB.size
      have hk0 : (0 : Int) ≤ (k : Int) := by omega
      have hk8 : (k : Int) < 8 := by omega
      have hlt0 : (k : Int) < (n : Int) := by omega
      have hd0 : 0 ≤ d := hdb.1
      have hd1 : d ≤ 127 := hdb.2
      clear ha hdd hx' hy' q1 q2 xd hW hx hy hdb r0 r1
      go_wp2_with fail
      refine wp_region_held (S := fun W' : World => W'.cell? ⟨g, k * 2, none⟩ = some (.int .u64 x) ∧ W'.cell? ⟨g, k * 2 + 1, none⟩ = some (.int .u64 y) ∧ W'.cell? ⟨w.heap.size, k, none⟩ = some (.int .u8 d)) (by kernel_rfl) ?_
      change wpAnyH _ _ _ _ _ _ _ _ (World.drew _)
      have hS0 : (fun W' : World => W'.cell? ⟨g, k * 2, none⟩ = some (.int .u64 x) ∧ W'.cell? ⟨g, k * 2 + 1, none⟩ = some (.int .u64 y) ∧ W'.cell? ⟨w.heap.size, k, none⟩ = some (.int .u8 d)) wr.drew := ⟨c1, c2, c3⟩
      refine wpAnyH_takeD (some 14) (i := 0) (v := ?_) rfl rfl (by kernel_rfl) (by kernel_rfl) (by kernel_rfl) (fun _ _ _ h => h) (.inl ⟨by kernel_rfl, ?_⟩) hS0 ?_
      rotate_left
      · intro w' hw'; obtain ⟨hw1, hw2, hw3⟩ := hw'; go_simp; try with_reducible rfl
      try simp only [Act.put, List.setIfInBounds_toArray, List.set_cons_zero, List.set_cons_succ]
      refine wpAnyH_takeD (some 15) (i := 1) (v := ?_) rfl rfl (by kernel_rfl) (by kernel_rfl) (by kernel_rfl) (fun _ _ _ h => h) (.inl ⟨by kernel_rfl, ?_⟩) hS0 ?_
      rotate_left
      · intro w' hw'; obtain ⟨hw1, hw2, hw3⟩ := hw'; go_simp; try with_reducible rfl
      try simp only [Act.put, List.setIfInBounds_toArray, List.set_cons_zero, List.set_cons_succ]
      refine wpAnyH_takeD (some 16) (i := 2) (v := ?_) rfl rfl (by kernel_rfl) (by kernel_rfl) (by kernel_rfl) (fun _ _ _ h => h) (.inl ⟨by kernel_rfl, ?_⟩) hS0 ?_
      rotate_left
      · intro w' hw'; obtain ⟨hw1, hw2, hw3⟩ := hw'; go_simp; try with_reducible rfl
      try simp only [Act.put, List.setIfInBounds_toArray, List.set_cons_zero, List.set_cons_succ]
      refine wpAnyH_takeD (some 17) (i := 3) (v := ?_) rfl rfl (by kernel_rfl) (by kernel_rfl) (by kernel_rfl) (fun _ _ _ h => h) (.inl ⟨by kernel_rfl, ?_⟩) hS0 ?_
      rotate_left
      · intro w' hw'; obtain ⟨hw1, hw2, hw3⟩ := hw'; go_simp; try with_reducible rfl
      try simp only [Act.put, List.setIfInBounds_toArray, List.set_cons_zero, List.set_cons_succ]
      refine wpAnyH_takeD (some 18) (i := 4) (v := ?_) rfl rfl (by kernel_rfl) (by kernel_rfl) (by kernel_rfl) (fun _ _ _ h => h) (.inl ⟨by kernel_rfl, ?_⟩) hS0 ?_
      rotate_left
      · intro w' hw'; obtain ⟨hw1, hw2, hw3⟩ := hw'; go_simp; try with_reducible rfl
      try simp only [Act.put, List.setIfInBounds_toArray, List.set_cons_zero, List.set_cons_succ]
      refine wpAnyH_takeD (some 19) (i := 5) (v := ?_) rfl rfl (by kernel_rfl) (by kernel_rfl) (by kernel_rfl) (fun _ _ _ h => h) (.inl ⟨by kernel_rfl, ?_⟩) hS0 ?_
      rotate_left
      · intro w' hw'; obtain ⟨hw1, hw2, hw3⟩ := hw'; go_simp; try with_reducible rfl
      try simp only [Act.put, List.setIfInBounds_toArray, List.set_cons_zero, List.set_cons_succ]
      refine wpAnyH_takeD (some 20) (i := 6) (v := ?_) rfl rfl (by kernel_rfl) (by kernel_rfl) (by kernel_rfl) (fun _ _ _ h => h) (.inl ⟨by kernel_rfl, ?_⟩) hS0 ?_
      rotate_left
      · intro w' hw'; obtain ⟨hw1, hw2, hw3⟩ := hw'; go_simp; try with_reducible rfl
      try simp only [Act.put, List.setIfInBounds_toArray, List.set_cons_zero, List.set_cons_succ]
      refine wpAnyH_takeD (some 21) (i := 7) (v := ?_) rfl rfl (by kernel_rfl) (by kernel_rfl) (by kernel_rfl) (fun _ _ _ h => h) (.inl ⟨by kernel_rfl, ?_⟩) hS0 ?_
      rotate_left
      · intro w' hw'; obtain ⟨hw1, hw2, hw3⟩ := hw'; go_simp; try with_reducible rfl
      try simp only [Act.put, List.setIfInBounds_toArray, List.set_cons_zero, List.set_cons_succ]
      refine wpAnyH_takeD (some 22) (i := 8) (v := ?_) rfl rfl (by kernel_rfl) (by kernel_rfl) (by kernel_rfl) (fun _ _ _ h => h) (.inl ⟨by kernel_rfl, ?_⟩) hS0 ?_
      rotate_left
      · intro w' hw'; obtain ⟨hw1, hw2, hw3⟩ := hw'; go_simp; try with_reducible rfl
      try simp only [Act.put, List.setIfInBounds_toArray, List.set_cons_zero, List.set_cons_succ]
      refine wpAnyH_all (rs := [9]) (by kernel_rfl) (by simp) ?_
      intro i hi; simp only [List.mem_singleton] at hi; subst hi
      refine wpOp_step rfl (fun K hK => ?_)
      go_simp
      with_reducible refine (HC.out _).mono ?_
      rintro e v1 ⟨rfl, hB1⟩
      have hS1 := And.intro ((hB1.cell (p := ⟨g, k * 2, none⟩) lg).trans c1) (And.intro ((hB1.cell (p := ⟨g, k * 2 + 1, none⟩) lg).trans c2) ((hB1.cell (p := ⟨w.heap.size, k, none⟩) ld).trans c3))
      refine hK _ _ ⟨hS1, ?_⟩
      try simp only [Act.put, List.setIfInBounds_toArray, List.set_cons_zero, List.set_cons_succ]
      have HE : Hid (Below wr.heap.size wr v1) := hid ((Below.refl wr.heap.size wr).drew.trans hB1)
      cases hq : hasM x y d with
      | false =>
        rw [hq] at HW
        refine wpAnyH_takeD (some 24) (i := 10) (v := ?_) rfl rfl (by kernel_rfl) (by kernel_rfl) (by kernel_rfl) (fun _ _ _ h => h) (.inl ⟨by kernel_rfl, ?_⟩) hS1 ?_
        rotate_left
        · intro w' hw'; obtain ⟨hw1, hw2, hw3⟩ := hw'; go_simp; try with_reducible rfl
        try simp only [Act.put, List.setIfInBounds_toArray, List.set_cons_zero, List.set_cons_succ]
        refine wpAnyH_done (by kernel_rfl) ?_ _
        go_wp2_with fail
        go_ret
        exact ⟨by rw [shows_no hlt HW.out]; rfl, hB.trans (HE.out.mono hzr)⟩
      | true =>
        rw [hq] at HW
        refine wpAnyH_takeD (some 24) (i := 10) (v := ?_) rfl rfl (by kernel_rfl) (by kernel_rfl) (by kernel_rfl) (fun _ _ _ h => h) (.inl ⟨by kernel_rfl, ?_⟩) hS1 ?_
        rotate_left
        · intro w' hw'; obtain ⟨hw1, hw2, hw3⟩ := hw'; go_simp; try with_reducible rfl
        try simp only [Act.put, List.setIfInBounds_toArray, List.set_cons_zero, List.set_cons_succ]
        refine wpAnyH_done (by kernel_rfl) ?_ _
        go_wp2_with fail
        go_roundw
        case rel => exact ⟨k + 1, by omega, by go_num, HR0.out.below HE.out lg, HR1.out.below HE.out ld, hB.trans (HE.out.mono hzr), fun j hj => by
          by_cases e : j = k
          · subst e; exact HW.out
          · exact HA.out j (by omega)⟩
        case measure => simp [intOf]; omega
    · obtain rfl : n = k := by omega
      have HA := hid (shows_yes ha)
      clear ha r0 r1
      go_wp2_with fail
      go_ret
      exact ⟨by rw [HA.out]; rfl, hB⟩
set_option maxRecDepth 100000 in
set_option maxHeartbeats 2000000 in
theorem shows_any (a : Option Addr) (n cap : Nat) (ps : List (Int × Int)) (d0 d1 d2 d3 d4 d5 d6 d7 : Int) (w : World) (hp : Ph ps) (hn : n ≤ 8) (hd : ∀ k, k < n → 0 ≤ [d0, d1, d2, d3, d4, d5, d6, d7][k]?.getD 0 ∧ [d0, d1, d2, d3, d4, d5, d6, d7][k]?.getD 0 ≤ 127) :
    Calls Try.prog 61 #[.slice a n cap, .agg (phL ps).toArray, .agg #[.int .u8 d0, .int .u8 d1, .int .u8 d2, .int .u8 d3, .int .u8 d4, .int .u8 d5, .int .u8 d6, .int .u8 d7]] w fun e w' => e = .returned (.bool (showsB n ps [d0, d1, d2, d3, d4, d5, d6, d7])) ∧ Below w.heap.size w w' := by
  have r0 := (Row.new w 31 (phL ps)).alloc (.cells #[.int .u8 d0, .int .u8 d1, .int .u8 d2, .int .u8 d3, .int .u8 d4, .int .u8 d5, .int .u8 d6, .int .u8 d7] 38)
  have r1 := Row.new (w.alloc (.cells (phL ps).toArray 31)) 38 [.int .u8 d0, .int .u8 d1, .int .u8 d2, .int .u8 d3, .int .u8 d4, .int .u8 d5, .int .u8 d6, .int .u8 d7]
  have hB : Below w.heap.size w ((w.alloc (.cells (phL ps).toArray 31)).alloc (.cells #[.int .u8 d0, .int .u8 d1, .int .u8 d2, .int .u8 d3, .int .u8 d4, .int .u8 d5, .int .u8 d6, .int .u8 d7] 38)) := ((Below.refl _ _).alloc (Nat.le_refl _) _).alloc (by simp) _
  simp only [World.size_alloc] at r1
  have hi := Try.infoPhoto
  have HQ := hid (shows_impl hn hp hd)
  have HF := hid (fun w => photo_any a n cap d0 d1 d2 d3 d4 d5 d6 d7 w hn hd)
  have e0 := r1.cell 0
  have e1 := r1.cell 1
  have e2 := r1.cell 2
  have e3 := r1.cell 3
  have e4 := r1.cell 4
  have e5 := r1.cell 5
  have e6 := r1.cell 6
  have e7 := r1.cell 7
  simp only [List.getElem?_cons_zero, List.getElem?_cons_succ] at e0 e1 e2 e3 e4 e5 e6 e7
  clear hd hp hn r1
  go_enter Try.func61, Try.ntmps61
  go_wp2_with fail
  with_reducible refine (HF.out _).mono ?_
  rintro e W1 ⟨rfl, hC⟩
  replace r0 := r0.below hC r0.lt
  replace hB := hB.trans (hC.mono hB.size)
  clear hC e0 e1 e2 e3 e4 e5 e6 e7
  have rz := (Row.new W1 31 [.int .u64 0, .int .u64 0, .int .u64 0, .int .u64 0, .int .u64 0, .int .u64 0, .int .u64 0, .int .u64 0, .int .u64 0, .int .u64 0, .int .u64 0, .int .u64 0, .int .u64 0, .int .u64 0, .int .u64 0, .int .u64 0]).zeros
  have hA : Below W1.heap.size W1 (W1.alloc (.cells #[.int .u64 0, .int .u64 0, .int .u64 0, .int .u64 0, .int .u64 0, .int .u64 0, .int .u64 0, .int .u64 0, .int .u64 0, .int .u64 0, .int .u64 0, .int .u64 0, .int .u64 0, .int .u64 0, .int .u64 0, .int .u64 0] 31)) := (Below.refl _ _).alloc (Nat.le_refl _) _
  have hA2 := below_setCells (phL (digP n [d0, d1, d2, d3, d4, d5, d6, d7])) 0 _ hA (g := W1.heap.size) (Nat.le_refl _)
  have T1 := rz.there 16 rfl
  have HRZ := hid (rz.setCells (ys := (phL (digP n [d0, d1, d2, d3, d4, d5, d6, d7]))) rfl)
  have HR0 := hid (r0.below hA2 r0.lt)
  have HB := hid (hB.trans (hA2.mono hB.size))
  clear rz hA hA2 r0 hB
  have r0 : True := trivial
  go_upto_region 2 with ((with_reducible refine wpList_store_mid rfl 31 _ _ rfl W1.heap.size 0 (phL (digP n [d0, d1, d2, d3, d4, d5, d6, d7])).toArray ?_ ?_ ?_ ?_ (all_oneCell_toArray (phL_one _)) ?_); rfl; rfl; (rw [sz16]; exact T1); (rw [sz16]; exact hi))
  refine wp_region_held (S := fun W' : World => Row W' w.heap.size 31 (phL ps) ∧ Row W' W1.heap.size 31 (phL (digP n [d0, d1, d2, d3, d4, d5, d6, d7]))) (by kernel_rfl) ?_
  change wpAnyH _ _ _ _ _ _ _ _ (World.drew _)
  obtain ⟨W0, hW0⟩ : ∃ X, X = World.drew ((W1.alloc (.cells #[.int .u64 0, .int .u64 0, .int .u64 0, .int .u64 0, .int .u64 0, .int .u64 0, .int .u64 0, .int .u64 0, .int .u64 0, .int .u64 0, .int .u64 0, .int .u64 0, .int .u64 0, .int .u64 0, .int .u64 0, .int .u64 0] 31)).setCells W1.heap.size 0 (phL (digP n [d0, d1, d2, d3, d4, d5, d6, d7]))) := ⟨_, rfl⟩
  have hD0 : Below ((W1.alloc (.cells #[.int .u64 0, .int .u64 0, .int .u64 0, .int .u64 0, .int .u64 0, .int .u64 0, .int .u64 0, .int .u64 0, .int .u64 0, .int .u64 0, .int .u64 0, .int .u64 0, .int .u64 0, .int .u64 0, .int .u64 0, .int .u64 0] 31)).setCells W1.heap.size 0 (phL (digP n [d0, d1, d2, d3, d4, d5, d6, d7]))).heap.size ((W1.alloc (.cells #[.int .u64 0, .int .u64 0, .int .u64 0, .int .u64 0, .int .u64 0, .int .u64 0, .int .u64 0, .int .u64 0, .int .u64 0, .int .u64 0, .int .u64 0, .int .u64 0, .int .u64 0, .int .u64 0, .int .u64 0, .int .u64 0] 31)).setCells W1.heap.size 0 (phL (digP n [d0, d1, d2, d3, d4, d5, d6, d7]))) W0 := by rw [hW0]; exact (Below.refl _ _).drew
  replace r0 := HR0.out.below hD0 HR0.out.lt
  have rz := HRZ.out.below hD0 HRZ.out.lt
  have hB := HB.out.trans (hD0.mono HB.out.size)
  rw [← hW0]
  clear hW0 hD0 HR0 HRZ HB
  have hS0 : (fun W' : World => Row W' w.heap.size 31 (phL ps) ∧ Row W' W1.heap.size 31 (phL (digP n [d0, d1, d2, d3, d4, d5, d6, d7]))) W0 := ⟨r0, rz⟩
  refine wpAnyH_takeD (some 11) (i := 0) (v := .agg (phL ps).toArray) rfl rfl (by kernel_rfl) (by kernel_rfl) (by kernel_rfl) (fun _ _ _ h => h) (yieldsIf_load_mid (by kernel_rfl) 31 _ rfl (w.heap.size) 0 rfl (phL ps) _ (fun w' hw' => Row.range hw'.1) Try.underlying31 rfl (by rw [phL_len]; exact hi)) hS0 ?_
  try simp only [Act.put, List.setIfInBounds_toArray, List.set_cons_zero, List.set_cons_succ]
  refine wpAnyH_takeD (some 12) (i := 1) (v := .agg (phL (digP n [d0, d1, d2, d3, d4, d5, d6, d7])).toArray) rfl rfl (by kernel_rfl) (by kernel_rfl) (by kernel_rfl) (fun _ _ _ h => h) (yieldsIf_load_mid (by kernel_rfl) 31 _ rfl (W1.heap.size) 0 rfl (phL (digP n [d0, d1, d2, d3, d4, d5, d6, d7])) _ (fun w' hw' => Row.range hw'.2) Try.underlying31 rfl (by rw [phL_len]; exact hi)) hS0 ?_
  try simp only [Act.put, List.setIfInBounds_toArray, List.set_cons_zero, List.set_cons_succ]
  refine wpAnyH_takeD (some 14) (i := 3) (v := .agg (phL (digP n [d0, d1, d2, d3, d4, d5, d6, d7])).toArray) rfl rfl (by kernel_rfl) (by kernel_rfl) (by kernel_rfl) (fun _ _ _ h => h) (yieldsIf_load_mid (by kernel_rfl) 31 _ rfl (W1.heap.size) 0 rfl (phL (digP n [d0, d1, d2, d3, d4, d5, d6, d7])) _ (fun w' hw' => Row.range hw'.2) Try.underlying31 rfl (by rw [phL_len]; exact hi)) hS0 ?_
  try simp only [Act.put, List.setIfInBounds_toArray, List.set_cons_zero, List.set_cons_succ]
  refine wpAnyH_all (rs := [2]) (by kernel_rfl) (by simp) ?_
  intro i' hi'; simp only [List.mem_singleton] at hi'; subst hi'
  refine wpOp_step rfl (fun K hK => ?_)
  go_simp
  with_reducible refine (meet_any ps (digP n [d0, d1, d2, d3, d4, d5, d6, d7]) W0).mono ?_
  rintro e W2 ⟨rfl, hC⟩
  replace r0 := r0.below hC r0.lt
  replace rz := rz.below hC rz.lt
  replace hB := hB.trans (hC.mono hB.size)
  clear hC
  have hS1 : (fun W' : World => Row W' w.heap.size 31 (phL ps) ∧ Row W' W1.heap.size 31 (phL (digP n [d0, d1, d2, d3, d4, d5, d6, d7]))) W2 := ⟨r0, rz⟩
  refine hK _ _ ⟨hS1, ?_⟩
  try simp only [Act.put, List.setIfInBounds_toArray, List.set_cons_zero, List.set_cons_succ]
  clear hK K
  have he : ∀ w', Sem.run Try.prog (Op.equalIn 10000 31 (.agg (phL (andP ps (digP n [d0, d1, d2, d3, d4, d5, d6, d7]))).toArray) (.agg (phL (digP n [d0, d1, d2, d3, d4, d5, d6, d7])).toArray)) w' = .ok (sameP (andP ps (digP n [d0, d1, d2, d3, d4, d5, d6, d7])) (digP n [d0, d1, d2, d3, d4, d5, d6, d7])) w' := fun w' => equalIn_photo _ _ w'
  refine wpAnyH_takeD (some 15) (i := 4) (v := ?_) rfl rfl (by kernel_rfl) (by kernel_rfl) (by kernel_rfl) (fun _ _ _ h => h) (.inl ⟨by kernel_rfl, ?_⟩) hS1 ?_
  rotate_left
  · intro w' hw'; go_simp; try with_reducible rfl
  try simp only [Act.put, List.setIfInBounds_toArray, List.set_cons_zero, List.set_cons_succ]
  clear he
  refine wpAnyH_takeD (some 6) (i := 5) (v := ?_) rfl rfl (by kernel_rfl) (by kernel_rfl) (by kernel_rfl) (fun _ _ _ h => h) (.inl ⟨by kernel_rfl, ?_⟩) hS1 ?_
  rotate_left
  · intro w' hw'; go_simp; try with_reducible rfl
  try simp only [Act.put, List.setIfInBounds_toArray, List.set_cons_zero, List.set_cons_succ]
  refine wpAnyH_done (by kernel_rfl) ?_ _
  go_wp2_with fail
  go_ret
  exact ⟨by rw [← HQ.out]; rfl, hB⟩
end Go.Proofs.Ytgfdfnlbkljgeaa
