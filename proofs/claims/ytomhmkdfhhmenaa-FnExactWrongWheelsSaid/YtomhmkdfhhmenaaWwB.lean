/- WrongWheels: the wheels that are read wrong: the program's. -/
import Derived.Test.YtomhmkdfhhmenaaWwA
import Derived.OrdersHeld
namespace Go.Proofs.Ytomhmkdfhhmenaa
open Go.RowKit
set_option linter.unusedVariables false
set_option linter.unusedSimpArgs false
theorem heap_setCells_other {g q : Nat} (h : q ≠ g) : ∀ (ys : List Value) (o : Nat) (w : World), (w.setCells g o ys).heap[q]? = w.heap[q]?
  | [], _, _ => rfl
  | y :: ys, o, w => (heap_setCells_other h ys (o + 1) _).trans (Below.heap_setCell w ⟨g, o, none⟩ y q h)
theorem Row.setCells_other {w : World} {q g : Nat} {e : TypeId} {xs : List Value} (h : Row w q e xs) (hq : q ≠ g) (ys : List Value) (o : Nat) : Row (w.setCells g o ys) q e xs :=
  (heap_setCells_other hq ys o w).trans h
theorem ints8 {c0 c1 c2 c3 c4 c5 c6 c7 : Int} : ∀ v ∈ ([.int .u8 c0, .int .u8 c1, .int .u8 c2, .int .u8 c3, .int .u8 c4, .int .u8 c5, .int .u8 c6, .int .u8 c7] : List Value), ∃ e : Int, v = .int .u8 e := by
  intro v hv
  simp only [List.mem_cons, List.not_mem_nil, or_false] at hv
  rcases hv with rfl | rfl | rfl | rfl | rfl | rfl | rfl | rfl <;> exact ⟨_, rfl⟩
theorem rdV_get (e : Nat) (zs ds : List Int) (k n : Nat) (hk : k < n) (h8 : k < 8) : (rdV e zs ds n)[k]? = some (.int .u8 (rdX e zs ds k)) := by simp [rdV, h8, hk]
theorem octw_get (c0 c1 c2 c3 c4 c5 c6 c7 : Int) (k : Nat) (hk : k < 8) : ([.int .u8 c0, .int .u8 c1, .int .u8 c2, .int .u8 c3, .int .u8 c4, .int .u8 c5, .int .u8 c6, .int .u8 c7] : List Value)[k]? = some (.int .u8 (dg [c0, c1, c2, c3, c4, c5, c6, c7] k)) := by
  match k, hk with
  | 0, _ | 1, _ | 2, _ | 3, _ | 4, _ | 5, _ | 6, _ | 7, _ => rfl
/-- what an eye reads -/
def rdL (e : Nat) (zs ds : List Int) : List Int := (List.range 8).map fun j => rdX e zs ds j
theorem rdL_dg (e : Nat) (zs ds : List Int) (k : Nat) (hk : k < 8) : dg (rdL e zs ds) k = rdX e zs ds k := by simp [dg, rdL, hk]
set_option maxRecDepth 100000 in
set_option maxHeartbeats 40000000 in
theorem moWrong_at (e : Nat) (K : FuncId) (b n cap g m cap' : Nat) (zs : List Int) (js : List (Int × Int)) (turn : Int) (p0 p1 p2 p3 p4 p5 p6 p7 c0 c1 c2 c3 c4 c5 c6 c7 : Int) (w : World) (hS : Stk w b zs) (hJ : Jst w g js) (hn8 : n ≤ 8)
    (hP : ∀ w1, Stk w1 b zs → Jst w1 g js → Calls Try.prog 43 #[.agg #[.slice (some ⟨b, 0, none⟩) n cap, .slice (some ⟨g, 0, none⟩) m cap'], .int .i64 turn] w1 fun e w' => e = .returned (.agg #[.int .i64 p0, .int .i64 p1, .int .i64 p2, .int .i64 p3, .int .i64 p4, .int .i64 p5, .int .i64 p6, .int .i64 p7]) ∧ Below w1.heap.size w1 w')
    (hR : ∀ w1, Stk w1 b zs → Jst w1 g js → Calls Try.prog 42 #[.agg #[.slice (some ⟨b, 0, none⟩) n cap, .slice (some ⟨g, 0, none⟩) m cap'], .agg ([.int .i64 p0, .int .i64 p1, .int .i64 p2, .int .i64 p3, .int .i64 p4, .int .i64 p5, .int .i64 p6, .int .i64 p7] : List Value).toArray, .func (Fn.func K) #[] #[]] w1 fun x w' => x = .returned (.agg (rdV e zs [p0, p1, p2, p3, p4, p5, p6, p7] n).toArray) ∧ Below w1.heap.size w1 w')
    (hD : ∀ w1, Stk w1 b zs → Calls Try.prog 44 #[.agg #[.slice (some ⟨b, 0, none⟩) n cap, .slice (some ⟨g, 0, none⟩) m cap'], .int .i64 turn] w1 fun e w' => e = .returned (.agg #[.int .u8 c0, .int .u8 c1, .int .u8 c2, .int .u8 c3, .int .u8 c4, .int .u8 c5, .int .u8 c6, .int .u8 c7]) ∧ Below w1.heap.size w1 w') :
    Calls Try.prog 24 #[.agg #[.slice (some ⟨b, 0, none⟩) n cap, .slice (some ⟨g, 0, none⟩) m cap'], .int .i64 turn, .func (Fn.func K) #[] #[]] w fun x w' => ∃ v, x = .returned v ∧ OwnI w' w.heap.size v (wrE (rdL e zs [p0, p1, p2, p3, p4, p5, p6, p7]) [c0, c1, c2, c3, c4, c5, c6, c7] n) ∧ Below w.heap.size w w' := by
  obtain ⟨i0, hi, iz0, iz1, iz2⟩ := info_parts Try.infoI64m
  have hd := Try.infoDigits8
  have HP := hid hP
  have HR := hid hR
  have HD := hid hD
  have bW : Below w.heap.size w (w.alloc (.cells #[.slice (some ⟨b, 0, none⟩) n cap, .slice (some ⟨g, 0, none⟩) m cap'] 33)) := (Below.refl _ w).alloc (Nat.le_refl _) _
  have bX : Below w.heap.size w (w.alloc (.cells #[.slice (some ⟨b, 0, none⟩) n cap, .slice (some ⟨g, 0, none⟩) m cap'] 33)) := bW
  have rm := Row.new w 33 [.slice (some ⟨b, 0, none⟩) n cap, .slice (some ⟨g, 0, none⟩) m cap']
  have sS := hS.below bX hS.1
  have sJ := hJ.below bX hJ.1
  have HLEN := hid (wrE_len (rdL e zs [p0, p1, p2, p3, p4, p5, p6, p7]) [c0, c1, c2, c3, c4, c5, c6, c7])
  have HRD := hid (fun k hk => rdL_dg e zs [p0, p1, p2, p3, p4, p5, p6, p7] k hk)
  have HRV := hid (fun k hk h8 => rdV_get e zs [p0, p1, p2, p3, p4, p5, p6, p7] k n hk h8)
  obtain ⟨fs, hfs⟩ : ∃ fs, rdL e zs [p0, p1, p2, p3, p4, p5, p6, p7] = fs := ⟨_, rfl⟩
  rw [hfs] at HLEN HRD ⊢
  clear hP hR hD hS hJ bX hfs
  go_enter Try.func24, Try.ntmps24
  go_upto_region 1 with fail
  go_cut [7, 8] (fun s7 s8 wx => ∃ (q r : Nat) (V : World), V = wx ∧ s7 = .pointer (some ⟨q, 0, none⟩) ∧ s8 = .pointer (some ⟨r, 0, none⟩) ∧ Row V q 65 (rdV e zs [p0, p1, p2, p3, p4, p5, p6, p7] n) ∧ Row V r 65 [.int .u8 c0, .int .u8 c1, .int .u8 c2, .int .u8 c3, .int .u8 c4, .int .u8 c5, .int .u8 c6, .int .u8 c7] ∧ Row V w.heap.size 33 [.slice (some ⟨b, 0, none⟩) n cap, .slice (some ⟨g, 0, none⟩) m cap'] ∧ Below w.heap.size w V)
  case first =>
    refine wp_region_held (S := fun W' : World => Row W' w.heap.size 33 [.slice (some ⟨b, 0, none⟩) n cap, .slice (some ⟨g, 0, none⟩) m cap']) (by kernel_rfl) ?_
    change wpAnyH _ _ _ _ _ _ _ _ (World.drew _)
    obtain ⟨W0, hW0⟩ : ∃ X, X = World.drew (w.alloc (.cells #[.slice (some ⟨b, 0, none⟩) n cap, .slice (some ⟨g, 0, none⟩) m cap'] 33)) := ⟨_, rfl⟩
    have hD0 : Below (w.alloc (.cells #[.slice (some ⟨b, 0, none⟩) n cap, .slice (some ⟨g, 0, none⟩) m cap'] 33)).heap.size (w.alloc (.cells #[.slice (some ⟨b, 0, none⟩) n cap, .slice (some ⟨g, 0, none⟩) m cap'] 33)) W0 := by rw [hW0]; exact (Below.refl _ _).drew
    replace rm := rm.below hD0 rm.lt
    replace sS := sS.below hD0 sS.1
    replace sJ := sJ.below hD0 sJ.1
    have bW0 := bW.trans (hD0.mono bW.size)
    have bR : Below W0.heap.size W0 W0 := Below.refl _ _
    rw [← hW0]
    clear hW0 hD0
    have l_rm := rm.lt
    have l_sS := sS.1
    have l_sJ := sJ.1
    have hS0 : (fun W' : World => Row W' w.heap.size 33 [.slice (some ⟨b, 0, none⟩) n cap, .slice (some ⟨g, 0, none⟩) m cap']) W0 := rm
    refine wpAnyH_takeD (some 11) (i := 0) (v := ?_) rfl rfl (by kernel_rfl) (by kernel_rfl) (by kernel_rfl) (fun _ _ _ h => h) (.inl ⟨by kernel_rfl, ?_⟩) hS0 ?_
    rotate_left
    · intro w' hw'; have hrow0 := hw'; have e0x0 := Row.cell hrow0 0; have e0x1 := Row.cell hrow0 1; simp only [List.getElem?_cons_zero, List.getElem?_cons_succ] at e0x0 e0x1; clear hrow0; clear hw'; go_simp; try with_reducible rfl
    try simp only [Act.put, List.setIfInBounds_toArray, List.set_cons_zero, List.set_cons_succ]
    refine wpAnyH_takeD (some 12) (i := 1) (v := ?_) rfl rfl (by kernel_rfl) (by kernel_rfl) (by kernel_rfl) (fun _ _ _ h => h) (.inl ⟨by kernel_rfl, ?_⟩) hS0 ?_
    rotate_left
    · intro w' hw'; have hrow0 := hw'; have e0x0 := Row.cell hrow0 0; have e0x1 := Row.cell hrow0 1; simp only [List.getElem?_cons_zero, List.getElem?_cons_succ] at e0x0 e0x1; clear hrow0; clear hw'; go_simp; try with_reducible rfl
    try simp only [Act.put, List.setIfInBounds_toArray, List.set_cons_zero, List.set_cons_succ]
    refine wpAnyH_takeD (some 13) (i := 2) (v := ?_) rfl rfl (by kernel_rfl) (by kernel_rfl) (by kernel_rfl) (fun _ _ _ h => h) (.inl ⟨by kernel_rfl, ?_⟩) hS0 ?_
    rotate_left
    · intro w' hw'; go_simp; try with_reducible rfl
    try simp only [Act.put, List.setIfInBounds_toArray, List.set_cons_zero, List.set_cons_succ]
    refine wpAnyH_takeD (some 15) (i := 4) (v := ?_) rfl rfl (by kernel_rfl) (by kernel_rfl) (by kernel_rfl) (fun _ _ _ h => h) (.inl ⟨by kernel_rfl, ?_⟩) hS0 ?_
    rotate_left
    · intro w' hw'; go_simp; try with_reducible rfl
    try simp only [Act.put, List.setIfInBounds_toArray, List.set_cons_zero, List.set_cons_succ]
    refine wpAnyH_takeD (some 17) (i := 6) (v := ?_) rfl rfl (by kernel_rfl) (by kernel_rfl) (by kernel_rfl) (fun _ _ _ h => h) (.inl ⟨by kernel_rfl, ?_⟩) hS0 ?_
    rotate_left
    · intro w' hw'; have hrow0 := hw'; have e0x0 := Row.cell hrow0 0; have e0x1 := Row.cell hrow0 1; simp only [List.getElem?_cons_zero, List.getElem?_cons_succ] at e0x0 e0x1; clear hrow0; clear hw'; go_simp; try with_reducible rfl
    try simp only [Act.put, List.setIfInBounds_toArray, List.set_cons_zero, List.set_cons_succ]
    refine wpAnyH_takeD (some 18) (i := 7) (v := ?_) rfl rfl (by kernel_rfl) (by kernel_rfl) (by kernel_rfl) (fun _ _ _ h => h) (.inl ⟨by kernel_rfl, ?_⟩) hS0 ?_
    rotate_left
    · intro w' hw'; go_simp; try with_reducible rfl
    try simp only [Act.put, List.setIfInBounds_toArray, List.set_cons_zero, List.set_cons_succ]
    refine wpAnyH_all (rs := [3, 9, 10]) (by kernel_rfl) (by simp) ?_
    intro i hi; simp only [List.mem_cons, List.not_mem_nil, or_false] at hi
    rcases hi with rfl | rfl | rfl
    · refine wpOp_step rfl (fun K hK => ?_)
      go_simp
      with_reducible refine (HP.out W0 sS sJ).mono ?_
      rintro e v1 ⟨rfl, hB1⟩
      replace rm := rm.below hB1 rm.lt
      replace sS := sS.below hB1 sS.1
      replace sJ := sJ.below hB1 sJ.1
      replace bR := bR.trans (hB1.mono bR.size)
      have hS1 : (fun W' : World => Row W' w.heap.size 33 [.slice (some ⟨b, 0, none⟩) n cap, .slice (some ⟨g, 0, none⟩) m cap']) v1 := rm
      refine hK _ _ ⟨hS1, ?_⟩
      try simp only [Act.put, List.setIfInBounds_toArray, List.set_cons_zero, List.set_cons_succ]
      clear hB1 hK K hS0
      refine wpAnyH_all (rs := [5, 9, 10]) (by kernel_rfl) (by simp) ?_
      intro i hi; simp only [List.mem_cons, List.not_mem_nil, or_false] at hi
      rcases hi with rfl | rfl | rfl
      · refine wpOp_step rfl (fun K hK => ?_)
        go_simp
        with_reducible refine (HR.out v1 sS sJ).mono ?_
        rintro e v2 ⟨rfl, hB2⟩
        replace rm := rm.below hB2 rm.lt
        replace sS := sS.below hB2 sS.1
        replace sJ := sJ.below hB2 sJ.1
        replace bR := bR.trans (hB2.mono bR.size)
        have hS2 : (fun W' : World => Row W' w.heap.size 33 [.slice (some ⟨b, 0, none⟩) n cap, .slice (some ⟨g, 0, none⟩) m cap']) v2 := rm
        refine hK _ _ ⟨hS2, ?_⟩
        try simp only [Act.put, List.setIfInBounds_toArray, List.set_cons_zero, List.set_cons_succ]
        clear hB2 hK K hS1
        refine wpAnyH_all (rs := [8, 9, 10]) (by kernel_rfl) (by simp) ?_
        intro i hi; simp only [List.mem_cons, List.not_mem_nil, or_false] at hi
        rcases hi with rfl | rfl | rfl
        · refine wpOp_step rfl (fun K hK => ?_)
          go_simp
          with_reducible refine (HD.out v2 sS).mono ?_
          rintro e v3 ⟨rfl, hB3⟩
          replace rm := rm.below hB3 rm.lt
          replace sS := sS.below hB3 sS.1
          replace sJ := sJ.below hB3 sJ.1
          replace bR := bR.trans (hB3.mono bR.size)
          have hS3 : (fun W' : World => Row W' w.heap.size 33 [.slice (some ⟨b, 0, none⟩) n cap, .slice (some ⟨g, 0, none⟩) m cap']) v3 := rm
          refine hK _ _ ⟨hS3, ?_⟩
          try simp only [Act.put, List.setIfInBounds_toArray, List.set_cons_zero, List.set_cons_succ]
          clear hB3 hK K hS2
          refine wpAnyH_all (rs := [9, 10]) (by kernel_rfl) (by simp) ?_
          intro i hi; simp only [List.mem_cons, List.not_mem_nil, or_false] at hi
          rcases hi with rfl | rfl
          · refine wpOp_step rfl (fun K hK => ?_)
            go_simp
            have rg := Row.new v3 65 [.int .u8 0, .int .u8 0, .int .u8 0, .int .u8 0, .int .u8 0, .int .u8 0, .int .u8 0, .int .u8 0]
            have hA : Below v3.heap.size v3 (v3.alloc (.cells #[.int .u8 0, .int .u8 0, .int .u8 0, .int .u8 0, .int .u8 0, .int .u8 0, .int .u8 0, .int .u8 0] 65)) := (Below.refl _ _).alloc (Nat.le_refl _) _
            replace rm := rm.below hA rm.lt
            replace sS := sS.below hA sS.1
            replace sJ := sJ.below hA sJ.1
            have l_rg := bR.size
            replace bR := bR.trans (hA.mono bR.size)
            have hS4 : (fun W' : World => Row W' w.heap.size 33 [.slice (some ⟨b, 0, none⟩) n cap, .slice (some ⟨g, 0, none⟩) m cap']) (v3.alloc (.cells #[.int .u8 0, .int .u8 0, .int .u8 0, .int .u8 0, .int .u8 0, .int .u8 0, .int .u8 0, .int .u8 0] 65)) := rm
            refine hK _ _ ⟨hS4, ?_⟩
            try simp only [Act.put, List.setIfInBounds_toArray, List.set_cons_zero, List.set_cons_succ]
            obtain ⟨X4, hX4⟩ : ∃ X, X = v3.alloc (.cells #[.int .u8 0, .int .u8 0, .int .u8 0, .int .u8 0, .int .u8 0, .int .u8 0, .int .u8 0, .int .u8 0] 65) := ⟨_, rfl⟩
            rw [← hX4] at rm sS sJ rg bR hS4 ⊢
            clear hX4 hA hK K hS3
            refine wpAnyH_all (rs := [10]) (by kernel_rfl) (by simp) ?_
            intro i hi; simp only [List.mem_cons, List.not_mem_nil, or_false] at hi
            subst hi
            refine wpOp_step rfl (fun K hK => ?_)
            go_simp
            have lt_rg_rh : v3.heap.size < X4.heap.size := rg.lt
            have rh := Row.new X4 65 [.int .u8 0, .int .u8 0, .int .u8 0, .int .u8 0, .int .u8 0, .int .u8 0, .int .u8 0, .int .u8 0]
            have hA : Below X4.heap.size X4 (X4.alloc (.cells #[.int .u8 0, .int .u8 0, .int .u8 0, .int .u8 0, .int .u8 0, .int .u8 0, .int .u8 0, .int .u8 0] 65)) := (Below.refl _ _).alloc (Nat.le_refl _) _
            replace rm := rm.below hA rm.lt
            replace sS := sS.below hA sS.1
            replace sJ := sJ.below hA sJ.1
            replace rg := rg.below hA rg.lt
            have l_rh := bR.size
            replace bR := bR.trans (hA.mono bR.size)
            have hS5 : (fun W' : World => Row W' w.heap.size 33 [.slice (some ⟨b, 0, none⟩) n cap, .slice (some ⟨g, 0, none⟩) m cap']) (X4.alloc (.cells #[.int .u8 0, .int .u8 0, .int .u8 0, .int .u8 0, .int .u8 0, .int .u8 0, .int .u8 0, .int .u8 0] 65)) := rm
            refine hK _ _ ⟨hS5, ?_⟩
            try simp only [Act.put, List.setIfInBounds_toArray, List.set_cons_zero, List.set_cons_succ]
            obtain ⟨X5, hX5⟩ : ∃ X, X = X4.alloc (.cells #[.int .u8 0, .int .u8 0, .int .u8 0, .int .u8 0, .int .u8 0, .int .u8 0, .int .u8 0, .int .u8 0] 65) := ⟨_, rfl⟩
            rw [← hX5] at rm sS sJ rg rh bR hS5 ⊢
            clear hX5 hA hK K hS4
            refine wpAnyH_all (rs := [11]) (by kernel_rfl) (by simp) ?_
            intro i hi; simp only [List.mem_cons, List.not_mem_nil, or_false] at hi
            subst hi
            refine wpOp_step rfl (fun K hK => ?_)
            rw [if_pos (by kernel_rfl)]
            refine wp_store_mid 65 (.tmp 7) (.tmp 16) rfl (v3.heap.size) 0 ((rdV e zs [p0, p1, p2, p3, p4, p5, p6, p7] n) : List Value).toArray rfl rfl (rg.there 8 rfl) hd (all_oneCell_toArray (one_of8 (ints_rd _ _ _ _))) ?_
            replace rm := Row.setCells_other rm (Nat.ne_of_lt (Nat.lt_of_lt_of_le l_rm l_rg)) ((rdV e zs [p0, p1, p2, p3, p4, p5, p6, p7] n) : List Value) 0
            replace sS := sS.below (below_setCells (g := v3.heap.size) ((rdV e zs [p0, p1, p2, p3, p4, p5, p6, p7] n) : List Value) 0 X5 (Below.refl _ _) (Nat.le_refl _)) (Nat.lt_of_lt_of_le l_sS l_rg)
            replace sJ := sJ.below (below_setCells (g := v3.heap.size) ((rdV e zs [p0, p1, p2, p3, p4, p5, p6, p7] n) : List Value) 0 X5 (Below.refl _ _) (Nat.le_refl _)) (Nat.lt_of_lt_of_le l_sJ l_rg)
            replace rh := Row.setCells_other rh (Nat.ne_of_gt lt_rg_rh) ((rdV e zs [p0, p1, p2, p3, p4, p5, p6, p7] n) : List Value) 0
            replace rg := rg.setCells (ys := ((rdV e zs [p0, p1, p2, p3, p4, p5, p6, p7] n) : List Value)) rfl
            replace bR := below_setCells ((rdV e zs [p0, p1, p2, p3, p4, p5, p6, p7] n) : List Value) 0 _ bR (g := v3.heap.size) l_rg
            have hS6 : (fun W' : World => Row W' w.heap.size 33 [.slice (some ⟨b, 0, none⟩) n cap, .slice (some ⟨g, 0, none⟩) m cap']) (X5.setCells (v3.heap.size) 0 ((rdV e zs [p0, p1, p2, p3, p4, p5, p6, p7] n) : List Value)) := rm
            refine hK _ _ ⟨hS6, ?_⟩
            try simp only [Act.put, List.setIfInBounds_toArray, List.set_cons_zero, List.set_cons_succ]
            obtain ⟨X6, hX6⟩ : ∃ X, X = X5.setCells (v3.heap.size) 0 ((rdV e zs [p0, p1, p2, p3, p4, p5, p6, p7] n) : List Value) := ⟨_, rfl⟩
            rw [← hX6] at rm sS sJ rg rh bR hS6 ⊢
            clear hX6 hK K hS5
            refine wpAnyH_all (rs := [12]) (by kernel_rfl) (by simp) ?_
            intro i hi; simp only [List.mem_cons, List.not_mem_nil, or_false] at hi
            subst hi
            refine wpOp_step rfl (fun K hK => ?_)
            rw [if_pos (by kernel_rfl)]
            refine wp_store_mid 65 (.tmp 8) (.tmp 19) rfl (X4.heap.size) 0 ([.int .u8 c0, .int .u8 c1, .int .u8 c2, .int .u8 c3, .int .u8 c4, .int .u8 c5, .int .u8 c6, .int .u8 c7] : List Value).toArray rfl rfl (rh.there 8 rfl) hd (all_oneCell_toArray (one_of8 ints8)) ?_
            replace rm := Row.setCells_other rm (Nat.ne_of_lt (Nat.lt_of_lt_of_le l_rm l_rh)) ([.int .u8 c0, .int .u8 c1, .int .u8 c2, .int .u8 c3, .int .u8 c4, .int .u8 c5, .int .u8 c6, .int .u8 c7] : List Value) 0
            replace sS := sS.below (below_setCells (g := X4.heap.size) ([.int .u8 c0, .int .u8 c1, .int .u8 c2, .int .u8 c3, .int .u8 c4, .int .u8 c5, .int .u8 c6, .int .u8 c7] : List Value) 0 X6 (Below.refl _ _) (Nat.le_refl _)) (Nat.lt_of_lt_of_le l_sS l_rh)
            replace sJ := sJ.below (below_setCells (g := X4.heap.size) ([.int .u8 c0, .int .u8 c1, .int .u8 c2, .int .u8 c3, .int .u8 c4, .int .u8 c5, .int .u8 c6, .int .u8 c7] : List Value) 0 X6 (Below.refl _ _) (Nat.le_refl _)) (Nat.lt_of_lt_of_le l_sJ l_rh)
            replace rg := Row.setCells_other rg (Nat.ne_of_lt lt_rg_rh) ([.int .u8 c0, .int .u8 c1, .int .u8 c2, .int .u8 c3, .int .u8 c4, .int .u8 c5, .int .u8 c6, .int .u8 c7] : List Value) 0
            replace rh := rh.setCells (ys := ([.int .u8 c0, .int .u8 c1, .int .u8 c2, .int .u8 c3, .int .u8 c4, .int .u8 c5, .int .u8 c6, .int .u8 c7] : List Value)) rfl
            replace bR := below_setCells ([.int .u8 c0, .int .u8 c1, .int .u8 c2, .int .u8 c3, .int .u8 c4, .int .u8 c5, .int .u8 c6, .int .u8 c7] : List Value) 0 _ bR (g := X4.heap.size) l_rh
            have hS7 : (fun W' : World => Row W' w.heap.size 33 [.slice (some ⟨b, 0, none⟩) n cap, .slice (some ⟨g, 0, none⟩) m cap']) (X6.setCells (X4.heap.size) 0 ([.int .u8 c0, .int .u8 c1, .int .u8 c2, .int .u8 c3, .int .u8 c4, .int .u8 c5, .int .u8 c6, .int .u8 c7] : List Value)) := rm
            refine hK _ _ ⟨hS7, ?_⟩
            try simp only [Act.put, List.setIfInBounds_toArray, List.set_cons_zero, List.set_cons_succ]
            obtain ⟨X7, hX7⟩ : ∃ X, X = X6.setCells (X4.heap.size) 0 ([.int .u8 c0, .int .u8 c1, .int .u8 c2, .int .u8 c3, .int .u8 c4, .int .u8 c5, .int .u8 c6, .int .u8 c7] : List Value) := ⟨_, rfl⟩
            rw [← hX7] at rm sS sJ rg rh bR hS7 ⊢
            clear hX7 hK K hS6
            refine wpAnyH_done (by kernel_rfl) ?_ _
            go_wp2_with fail
            go_meet
            exact ⟨v3.heap.size, X4.heap.size, _, rfl, rfl, rfl, rg, rh, rm, bW0.trans (bR.mono bW0.size)⟩
          · refine wpOp_step rfl (fun K hK => ?_)
            go_simp
            have rh := Row.new v3 65 [.int .u8 0, .int .u8 0, .int .u8 0, .int .u8 0, .int .u8 0, .int .u8 0, .int .u8 0, .int .u8 0]
            have hA : Below v3.heap.size v3 (v3.alloc (.cells #[.int .u8 0, .int .u8 0, .int .u8 0, .int .u8 0, .int .u8 0, .int .u8 0, .int .u8 0, .int .u8 0] 65)) := (Below.refl _ _).alloc (Nat.le_refl _) _
            replace rm := rm.below hA rm.lt
            replace sS := sS.below hA sS.1
            replace sJ := sJ.below hA sJ.1
            have l_rh := bR.size
            replace bR := bR.trans (hA.mono bR.size)
            have hS8 : (fun W' : World => Row W' w.heap.size 33 [.slice (some ⟨b, 0, none⟩) n cap, .slice (some ⟨g, 0, none⟩) m cap']) (v3.alloc (.cells #[.int .u8 0, .int .u8 0, .int .u8 0, .int .u8 0, .int .u8 0, .int .u8 0, .int .u8 0, .int .u8 0] 65)) := rm
            refine hK _ _ ⟨hS8, ?_⟩
            try simp only [Act.put, List.setIfInBounds_toArray, List.set_cons_zero, List.set_cons_succ]
            obtain ⟨X8, hX8⟩ : ∃ X, X = v3.alloc (.cells #[.int .u8 0, .int .u8 0, .int .u8 0, .int .u8 0, .int .u8 0, .int .u8 0, .int .u8 0, .int .u8 0] 65) := ⟨_, rfl⟩
            rw [← hX8] at rm sS sJ rh bR hS8 ⊢
            clear hX8 hA hK K hS3
            refine wpAnyH_all (rs := [9]) (by kernel_rfl) (by simp) ?_
            intro i hi; simp only [List.mem_cons, List.not_mem_nil, or_false] at hi
            subst hi
            refine wpOp_step rfl (fun K hK => ?_)
            go_simp
            have lt_rh_rg : v3.heap.size < X8.heap.size := rh.lt
            have rg := Row.new X8 65 [.int .u8 0, .int .u8 0, .int .u8 0, .int .u8 0, .int .u8 0, .int .u8 0, .int .u8 0, .int .u8 0]
            have hA : Below X8.heap.size X8 (X8.alloc (.cells #[.int .u8 0, .int .u8 0, .int .u8 0, .int .u8 0, .int .u8 0, .int .u8 0, .int .u8 0, .int .u8 0] 65)) := (Below.refl _ _).alloc (Nat.le_refl _) _
            replace rm := rm.below hA rm.lt
            replace sS := sS.below hA sS.1
            replace sJ := sJ.below hA sJ.1
            replace rh := rh.below hA rh.lt
            have l_rg := bR.size
            replace bR := bR.trans (hA.mono bR.size)
            have hS9 : (fun W' : World => Row W' w.heap.size 33 [.slice (some ⟨b, 0, none⟩) n cap, .slice (some ⟨g, 0, none⟩) m cap']) (X8.alloc (.cells #[.int .u8 0, .int .u8 0, .int .u8 0, .int .u8 0, .int .u8 0, .int .u8 0, .int .u8 0, .int .u8 0] 65)) := rm
            refine hK _ _ ⟨hS9, ?_⟩
            try simp only [Act.put, List.setIfInBounds_toArray, List.set_cons_zero, List.set_cons_succ]
            obtain ⟨X9, hX9⟩ : ∃ X, X = X8.alloc (.cells #[.int .u8 0, .int .u8 0, .int .u8 0, .int .u8 0, .int .u8 0, .int .u8 0, .int .u8 0, .int .u8 0] 65) := ⟨_, rfl⟩
            rw [← hX9] at rm sS sJ rh rg bR hS9 ⊢
            clear hX9 hA hK K hS8
            refine wpAnyH_all (rs := [11]) (by kernel_rfl) (by simp) ?_
            intro i hi; simp only [List.mem_cons, List.not_mem_nil, or_false] at hi
            subst hi
            refine wpOp_step rfl (fun K hK => ?_)
            rw [if_pos (by kernel_rfl)]
            refine wp_store_mid 65 (.tmp 7) (.tmp 16) rfl (X8.heap.size) 0 ((rdV e zs [p0, p1, p2, p3, p4, p5, p6, p7] n) : List Value).toArray rfl rfl (rg.there 8 rfl) hd (all_oneCell_toArray (one_of8 (ints_rd _ _ _ _))) ?_
            replace rm := Row.setCells_other rm (Nat.ne_of_lt (Nat.lt_of_lt_of_le l_rm l_rg)) ((rdV e zs [p0, p1, p2, p3, p4, p5, p6, p7] n) : List Value) 0
            replace sS := sS.below (below_setCells (g := X8.heap.size) ((rdV e zs [p0, p1, p2, p3, p4, p5, p6, p7] n) : List Value) 0 X9 (Below.refl _ _) (Nat.le_refl _)) (Nat.lt_of_lt_of_le l_sS l_rg)
            replace sJ := sJ.below (below_setCells (g := X8.heap.size) ((rdV e zs [p0, p1, p2, p3, p4, p5, p6, p7] n) : List Value) 0 X9 (Below.refl _ _) (Nat.le_refl _)) (Nat.lt_of_lt_of_le l_sJ l_rg)
            replace rh := Row.setCells_other rh (Nat.ne_of_lt lt_rh_rg) ((rdV e zs [p0, p1, p2, p3, p4, p5, p6, p7] n) : List Value) 0
            replace rg := rg.setCells (ys := ((rdV e zs [p0, p1, p2, p3, p4, p5, p6, p7] n) : List Value)) rfl
            replace bR := below_setCells ((rdV e zs [p0, p1, p2, p3, p4, p5, p6, p7] n) : List Value) 0 _ bR (g := X8.heap.size) l_rg
            have hS10 : (fun W' : World => Row W' w.heap.size 33 [.slice (some ⟨b, 0, none⟩) n cap, .slice (some ⟨g, 0, none⟩) m cap']) (X9.setCells (X8.heap.size) 0 ((rdV e zs [p0, p1, p2, p3, p4, p5, p6, p7] n) : List Value)) := rm
            refine hK _ _ ⟨hS10, ?_⟩
            try simp only [Act.put, List.setIfInBounds_toArray, List.set_cons_zero, List.set_cons_succ]
            obtain ⟨X10, hX10⟩ : ∃ X, X = X9.setCells (X8.heap.size) 0 ((rdV e zs [p0, p1, p2, p3, p4, p5, p6, p7] n) : List Value) := ⟨_, rfl⟩
            rw [← hX10] at rm sS sJ rh rg bR hS10 ⊢
            clear hX10 hK K hS9
            refine wpAnyH_all (rs := [12]) (by kernel_rfl) (by simp) ?_
            intro i hi; simp only [List.mem_cons, List.not_mem_nil, or_false] at hi
            subst hi
            refine wpOp_step rfl (fun K hK => ?_)
            rw [if_pos (by kernel_rfl)]
            refine wp_store_mid 65 (.tmp 8) (.tmp 19) rfl (v3.heap.size) 0 ([.int .u8 c0, .int .u8 c1, .int .u8 c2, .int .u8 c3, .int .u8 c4, .int .u8 c5, .int .u8 c6, .int .u8 c7] : List Value).toArray rfl rfl (rh.there 8 rfl) hd (all_oneCell_toArray (one_of8 ints8)) ?_
            replace rm := Row.setCells_other rm (Nat.ne_of_lt (Nat.lt_of_lt_of_le l_rm l_rh)) ([.int .u8 c0, .int .u8 c1, .int .u8 c2, .int .u8 c3, .int .u8 c4, .int .u8 c5, .int .u8 c6, .int .u8 c7] : List Value) 0
            replace sS := sS.below (below_setCells (g := v3.heap.size) ([.int .u8 c0, .int .u8 c1, .int .u8 c2, .int .u8 c3, .int .u8 c4, .int .u8 c5, .int .u8 c6, .int .u8 c7] : List Value) 0 X10 (Below.refl _ _) (Nat.le_refl _)) (Nat.lt_of_lt_of_le l_sS l_rh)
            replace sJ := sJ.below (below_setCells (g := v3.heap.size) ([.int .u8 c0, .int .u8 c1, .int .u8 c2, .int .u8 c3, .int .u8 c4, .int .u8 c5, .int .u8 c6, .int .u8 c7] : List Value) 0 X10 (Below.refl _ _) (Nat.le_refl _)) (Nat.lt_of_lt_of_le l_sJ l_rh)
            replace rg := Row.setCells_other rg (Nat.ne_of_gt lt_rh_rg) ([.int .u8 c0, .int .u8 c1, .int .u8 c2, .int .u8 c3, .int .u8 c4, .int .u8 c5, .int .u8 c6, .int .u8 c7] : List Value) 0
            replace rh := rh.setCells (ys := ([.int .u8 c0, .int .u8 c1, .int .u8 c2, .int .u8 c3, .int .u8 c4, .int .u8 c5, .int .u8 c6, .int .u8 c7] : List Value)) rfl
            replace bR := below_setCells ([.int .u8 c0, .int .u8 c1, .int .u8 c2, .int .u8 c3, .int .u8 c4, .int .u8 c5, .int .u8 c6, .int .u8 c7] : List Value) 0 _ bR (g := v3.heap.size) l_rh
            have hS11 : (fun W' : World => Row W' w.heap.size 33 [.slice (some ⟨b, 0, none⟩) n cap, .slice (some ⟨g, 0, none⟩) m cap']) (X10.setCells (v3.heap.size) 0 ([.int .u8 c0, .int .u8 c1, .int .u8 c2, .int .u8 c3, .int .u8 c4, .int .u8 c5, .int .u8 c6, .int .u8 c7] : List Value)) := rm
            refine hK _ _ ⟨hS11, ?_⟩
            try simp only [Act.put, List.setIfInBounds_toArray, List.set_cons_zero, List.set_cons_succ]
            obtain ⟨X11, hX11⟩ : ∃ X, X = X10.setCells (v3.heap.size) 0 ([.int .u8 c0, .int .u8 c1, .int .u8 c2, .int .u8 c3, .int .u8 c4, .int .u8 c5, .int .u8 c6, .int .u8 c7] : List Value) := ⟨_, rfl⟩
            rw [← hX11] at rm sS sJ rh rg bR hS11 ⊢
            clear hX11 hK K hS10
            refine wpAnyH_done (by kernel_rfl) ?_ _
            go_wp2_with fail
            go_meet
            exact ⟨X8.heap.size, v3.heap.size, _, rfl, rfl, rfl, rg, rh, rm, bW0.trans (bR.mono bW0.size)⟩
        · refine wpOp_step rfl (fun K hK => ?_)
          go_simp
          have rg := Row.new v2 65 [.int .u8 0, .int .u8 0, .int .u8 0, .int .u8 0, .int .u8 0, .int .u8 0, .int .u8 0, .int .u8 0]
          have hA : Below v2.heap.size v2 (v2.alloc (.cells #[.int .u8 0, .int .u8 0, .int .u8 0, .int .u8 0, .int .u8 0, .int .u8 0, .int .u8 0, .int .u8 0] 65)) := (Below.refl _ _).alloc (Nat.le_refl _) _
          replace rm := rm.below hA rm.lt
          replace sS := sS.below hA sS.1
          replace sJ := sJ.below hA sJ.1
          have l_rg := bR.size
          replace bR := bR.trans (hA.mono bR.size)
          have hS12 : (fun W' : World => Row W' w.heap.size 33 [.slice (some ⟨b, 0, none⟩) n cap, .slice (some ⟨g, 0, none⟩) m cap']) (v2.alloc (.cells #[.int .u8 0, .int .u8 0, .int .u8 0, .int .u8 0, .int .u8 0, .int .u8 0, .int .u8 0, .int .u8 0] 65)) := rm
          refine hK _ _ ⟨hS12, ?_⟩
          try simp only [Act.put, List.setIfInBounds_toArray, List.set_cons_zero, List.set_cons_succ]
          obtain ⟨X12, hX12⟩ : ∃ X, X = v2.alloc (.cells #[.int .u8 0, .int .u8 0, .int .u8 0, .int .u8 0, .int .u8 0, .int .u8 0, .int .u8 0, .int .u8 0] 65) := ⟨_, rfl⟩
          rw [← hX12] at rm sS sJ rg bR hS12 ⊢
          clear hX12 hA hK K hS2
          refine wpAnyH_all (rs := [8, 10]) (by kernel_rfl) (by simp) ?_
          intro i hi; simp only [List.mem_cons, List.not_mem_nil, or_false] at hi
          rcases hi with rfl | rfl
          · refine wpOp_step rfl (fun K hK => ?_)
            go_simp
            with_reducible refine (HD.out X12 sS).mono ?_
            rintro e v13 ⟨rfl, hB13⟩
            replace rm := rm.below hB13 rm.lt
            replace sS := sS.below hB13 sS.1
            replace sJ := sJ.below hB13 sJ.1
            replace rg := rg.below hB13 rg.lt
            replace bR := bR.trans (hB13.mono bR.size)
            have hS13 : (fun W' : World => Row W' w.heap.size 33 [.slice (some ⟨b, 0, none⟩) n cap, .slice (some ⟨g, 0, none⟩) m cap']) v13 := rm
            refine hK _ _ ⟨hS13, ?_⟩
            try simp only [Act.put, List.setIfInBounds_toArray, List.set_cons_zero, List.set_cons_succ]
            clear hB13 hK K hS12
            refine wpAnyH_all (rs := [10]) (by kernel_rfl) (by simp) ?_
            intro i hi; simp only [List.mem_cons, List.not_mem_nil, or_false] at hi
            subst hi
            refine wpOp_step rfl (fun K hK => ?_)
            go_simp
            have lt_rg_rh : v2.heap.size < v13.heap.size := rg.lt
            have rh := Row.new v13 65 [.int .u8 0, .int .u8 0, .int .u8 0, .int .u8 0, .int .u8 0, .int .u8 0, .int .u8 0, .int .u8 0]
            have hA : Below v13.heap.size v13 (v13.alloc (.cells #[.int .u8 0, .int .u8 0, .int .u8 0, .int .u8 0, .int .u8 0, .int .u8 0, .int .u8 0, .int .u8 0] 65)) := (Below.refl _ _).alloc (Nat.le_refl _) _
            replace rm := rm.below hA rm.lt
            replace sS := sS.below hA sS.1
            replace sJ := sJ.below hA sJ.1
            replace rg := rg.below hA rg.lt
            have l_rh := bR.size
            replace bR := bR.trans (hA.mono bR.size)
            have hS14 : (fun W' : World => Row W' w.heap.size 33 [.slice (some ⟨b, 0, none⟩) n cap, .slice (some ⟨g, 0, none⟩) m cap']) (v13.alloc (.cells #[.int .u8 0, .int .u8 0, .int .u8 0, .int .u8 0, .int .u8 0, .int .u8 0, .int .u8 0, .int .u8 0] 65)) := rm
            refine hK _ _ ⟨hS14, ?_⟩
            try simp only [Act.put, List.setIfInBounds_toArray, List.set_cons_zero, List.set_cons_succ]
            obtain ⟨X14, hX14⟩ : ∃ X, X = v13.alloc (.cells #[.int .u8 0, .int .u8 0, .int .u8 0, .int .u8 0, .int .u8 0, .int .u8 0, .int .u8 0, .int .u8 0] 65) := ⟨_, rfl⟩
            rw [← hX14] at rm sS sJ rg rh bR hS14 ⊢
            clear hX14 hA hK K hS13
            refine wpAnyH_all (rs := [11]) (by kernel_rfl) (by simp) ?_
            intro i hi; simp only [List.mem_cons, List.not_mem_nil, or_false] at hi
            subst hi
            refine wpOp_step rfl (fun K hK => ?_)
            rw [if_pos (by kernel_rfl)]
            refine wp_store_mid 65 (.tmp 7) (.tmp 16) rfl (v2.heap.size) 0 ((rdV e zs [p0, p1, p2, p3, p4, p5, p6, p7] n) : List Value).toArray rfl rfl (rg.there 8 rfl) hd (all_oneCell_toArray (one_of8 (ints_rd _ _ _ _))) ?_
            replace rm := Row.setCells_other rm (Nat.ne_of_lt (Nat.lt_of_lt_of_le l_rm l_rg)) ((rdV e zs [p0, p1, p2, p3, p4, p5, p6, p7] n) : List Value) 0
            replace sS := sS.below (below_setCells (g := v2.heap.size) ((rdV e zs [p0, p1, p2, p3, p4, p5, p6, p7] n) : List Value) 0 X14 (Below.refl _ _) (Nat.le_refl _)) (Nat.lt_of_lt_of_le l_sS l_rg)
            replace sJ := sJ.below (below_setCells (g := v2.heap.size) ((rdV e zs [p0, p1, p2, p3, p4, p5, p6, p7] n) : List Value) 0 X14 (Below.refl _ _) (Nat.le_refl _)) (Nat.lt_of_lt_of_le l_sJ l_rg)
            replace rh := Row.setCells_other rh (Nat.ne_of_gt lt_rg_rh) ((rdV e zs [p0, p1, p2, p3, p4, p5, p6, p7] n) : List Value) 0
            replace rg := rg.setCells (ys := ((rdV e zs [p0, p1, p2, p3, p4, p5, p6, p7] n) : List Value)) rfl
            replace bR := below_setCells ((rdV e zs [p0, p1, p2, p3, p4, p5, p6, p7] n) : List Value) 0 _ bR (g := v2.heap.size) l_rg
            have hS15 : (fun W' : World => Row W' w.heap.size 33 [.slice (some ⟨b, 0, none⟩) n cap, .slice (some ⟨g, 0, none⟩) m cap']) (X14.setCells (v2.heap.size) 0 ((rdV e zs [p0, p1, p2, p3, p4, p5, p6, p7] n) : List Value)) := rm
            refine hK _ _ ⟨hS15, ?_⟩
            try simp only [Act.put, List.setIfInBounds_toArray, List.set_cons_zero, List.set_cons_succ]
            obtain ⟨X15, hX15⟩ : ∃ X, X = X14.setCells (v2.heap.size) 0 ((rdV e zs [p0, p1, p2, p3, p4, p5, p6, p7] n) : List Value) := ⟨_, rfl⟩
            rw [← hX15] at rm sS sJ rg rh bR hS15 ⊢
            clear hX15 hK K hS14
            refine wpAnyH_all (rs := [12]) (by kernel_rfl) (by simp) ?_
            intro i hi; simp only [List.mem_cons, List.not_mem_nil, or_false] at hi
            subst hi
            refine wpOp_step rfl (fun K hK => ?_)
            rw [if_pos (by kernel_rfl)]
            refine wp_store_mid 65 (.tmp 8) (.tmp 19) rfl (v13.heap.size) 0 ([.int .u8 c0, .int .u8 c1, .int .u8 c2, .int .u8 c3, .int .u8 c4, .int .u8 c5, .int .u8 c6, .int .u8 c7] : List Value).toArray rfl rfl (rh.there 8 rfl) hd (all_oneCell_toArray (one_of8 ints8)) ?_
            replace rm := Row.setCells_other rm (Nat.ne_of_lt (Nat.lt_of_lt_of_le l_rm l_rh)) ([.int .u8 c0, .int .u8 c1, .int .u8 c2, .int .u8 c3, .int .u8 c4, .int .u8 c5, .int .u8 c6, .int .u8 c7] : List Value) 0
            replace sS := sS.below (below_setCells (g := v13.heap.size) ([.int .u8 c0, .int .u8 c1, .int .u8 c2, .int .u8 c3, .int .u8 c4, .int .u8 c5, .int .u8 c6, .int .u8 c7] : List Value) 0 X15 (Below.refl _ _) (Nat.le_refl _)) (Nat.lt_of_lt_of_le l_sS l_rh)
            replace sJ := sJ.below (below_setCells (g := v13.heap.size) ([.int .u8 c0, .int .u8 c1, .int .u8 c2, .int .u8 c3, .int .u8 c4, .int .u8 c5, .int .u8 c6, .int .u8 c7] : List Value) 0 X15 (Below.refl _ _) (Nat.le_refl _)) (Nat.lt_of_lt_of_le l_sJ l_rh)
            replace rg := Row.setCells_other rg (Nat.ne_of_lt lt_rg_rh) ([.int .u8 c0, .int .u8 c1, .int .u8 c2, .int .u8 c3, .int .u8 c4, .int .u8 c5, .int .u8 c6, .int .u8 c7] : List Value) 0
            replace rh := rh.setCells (ys := ([.int .u8 c0, .int .u8 c1, .int .u8 c2, .int .u8 c3, .int .u8 c4, .int .u8 c5, .int .u8 c6, .int .u8 c7] : List Value)) rfl
            replace bR := below_setCells ([.int .u8 c0, .int .u8 c1, .int .u8 c2, .int .u8 c3, .int .u8 c4, .int .u8 c5, .int .u8 c6, .int .u8 c7] : List Value) 0 _ bR (g := v13.heap.size) l_rh
            have hS16 : (fun W' : World => Row W' w.heap.size 33 [.slice (some ⟨b, 0, none⟩) n cap, .slice (some ⟨g, 0, none⟩) m cap']) (X15.setCells (v13.heap.size) 0 ([.int .u8 c0, .int .u8 c1, .int .u8 c2, .int .u8 c3, .int .u8 c4, .int .u8 c5, .int .u8 c6, .int .u8 c7] : List Value)) := rm
            refine hK _ _ ⟨hS16, ?_⟩
            try simp only [Act.put, List.setIfInBounds_toArray, List.set_cons_zero, List.set_cons_succ]
            obtain ⟨X16, hX16⟩ : ∃ X, X = X15.setCells (v13.heap.size) 0 ([.int .u8 c0, .int .u8 c1, .int .u8 c2, .int .u8 c3, .int .u8 c4, .int .u8 c5, .int .u8 c6, .int .u8 c7] : List Value) := ⟨_, rfl⟩
            rw [← hX16] at rm sS sJ rg rh bR hS16 ⊢
            clear hX16 hK K hS15
            refine wpAnyH_done (by kernel_rfl) ?_ _
            go_wp2_with fail
            go_meet
            exact ⟨v2.heap.size, v13.heap.size, _, rfl, rfl, rfl, rg, rh, rm, bW0.trans (bR.mono bW0.size)⟩
          · refine wpOp_step rfl (fun K hK => ?_)
            go_simp
            have lt_rg_rh : v2.heap.size < X12.heap.size := rg.lt
            have rh := Row.new X12 65 [.int .u8 0, .int .u8 0, .int .u8 0, .int .u8 0, .int .u8 0, .int .u8 0, .int .u8 0, .int .u8 0]
            have hA : Below X12.heap.size X12 (X12.alloc (.cells #[.int .u8 0, .int .u8 0, .int .u8 0, .int .u8 0, .int .u8 0, .int .u8 0, .int .u8 0, .int .u8 0] 65)) := (Below.refl _ _).alloc (Nat.le_refl _) _
            replace rm := rm.below hA rm.lt
            replace sS := sS.below hA sS.1
            replace sJ := sJ.below hA sJ.1
            replace rg := rg.below hA rg.lt
            have l_rh := bR.size
            replace bR := bR.trans (hA.mono bR.size)
            have hS17 : (fun W' : World => Row W' w.heap.size 33 [.slice (some ⟨b, 0, none⟩) n cap, .slice (some ⟨g, 0, none⟩) m cap']) (X12.alloc (.cells #[.int .u8 0, .int .u8 0, .int .u8 0, .int .u8 0, .int .u8 0, .int .u8 0, .int .u8 0, .int .u8 0] 65)) := rm
            refine hK _ _ ⟨hS17, ?_⟩
            try simp only [Act.put, List.setIfInBounds_toArray, List.set_cons_zero, List.set_cons_succ]
            obtain ⟨X17, hX17⟩ : ∃ X, X = X12.alloc (.cells #[.int .u8 0, .int .u8 0, .int .u8 0, .int .u8 0, .int .u8 0, .int .u8 0, .int .u8 0, .int .u8 0] 65) := ⟨_, rfl⟩
            rw [← hX17] at rm sS sJ rg rh bR hS17 ⊢
            clear hX17 hA hK K hS12
            refine wpAnyH_all (rs := [8]) (by kernel_rfl) (by simp) ?_
            intro i hi; simp only [List.mem_cons, List.not_mem_nil, or_false] at hi
            subst hi
            refine wpOp_step rfl (fun K hK => ?_)
            go_simp
            with_reducible refine (HD.out X17 sS).mono ?_
            rintro e v18 ⟨rfl, hB18⟩
            replace rm := rm.below hB18 rm.lt
            replace sS := sS.below hB18 sS.1
            replace sJ := sJ.below hB18 sJ.1
            replace rg := rg.below hB18 rg.lt
            replace rh := rh.below hB18 rh.lt
            replace bR := bR.trans (hB18.mono bR.size)
            have hS18 : (fun W' : World => Row W' w.heap.size 33 [.slice (some ⟨b, 0, none⟩) n cap, .slice (some ⟨g, 0, none⟩) m cap']) v18 := rm
            refine hK _ _ ⟨hS18, ?_⟩
            try simp only [Act.put, List.setIfInBounds_toArray, List.set_cons_zero, List.set_cons_succ]
            clear hB18 hK K hS17
            refine wpAnyH_all (rs := [11]) (by kernel_rfl) (by simp) ?_
            intro i hi; simp only [List.mem_cons, List.not_mem_nil, or_false] at hi
            subst hi
            refine wpOp_step rfl (fun K hK => ?_)
            rw [if_pos (by kernel_rfl)]
            refine wp_store_mid 65 (.tmp 7) (.tmp 16) rfl (v2.heap.size) 0 ((rdV e zs [p0, p1, p2, p3, p4, p5, p6, p7] n) : List Value).toArray rfl rfl (rg.there 8 rfl) hd (all_oneCell_toArray (one_of8 (ints_rd _ _ _ _))) ?_
            replace rm := Row.setCells_other rm (Nat.ne_of_lt (Nat.lt_of_lt_of_le l_rm l_rg)) ((rdV e zs [p0, p1, p2, p3, p4, p5, p6, p7] n) : List Value) 0
            replace sS := sS.below (below_setCells (g := v2.heap.size) ((rdV e zs [p0, p1, p2, p3, p4, p5, p6, p7] n) : List Value) 0 v18 (Below.refl _ _) (Nat.le_refl _)) (Nat.lt_of_lt_of_le l_sS l_rg)
            replace sJ := sJ.below (below_setCells (g := v2.heap.size) ((rdV e zs [p0, p1, p2, p3, p4, p5, p6, p7] n) : List Value) 0 v18 (Below.refl _ _) (Nat.le_refl _)) (Nat.lt_of_lt_of_le l_sJ l_rg)
            replace rh := Row.setCells_other rh (Nat.ne_of_gt lt_rg_rh) ((rdV e zs [p0, p1, p2, p3, p4, p5, p6, p7] n) : List Value) 0
            replace rg := rg.setCells (ys := ((rdV e zs [p0, p1, p2, p3, p4, p5, p6, p7] n) : List Value)) rfl
            replace bR := below_setCells ((rdV e zs [p0, p1, p2, p3, p4, p5, p6, p7] n) : List Value) 0 _ bR (g := v2.heap.size) l_rg
            have hS19 : (fun W' : World => Row W' w.heap.size 33 [.slice (some ⟨b, 0, none⟩) n cap, .slice (some ⟨g, 0, none⟩) m cap']) (v18.setCells (v2.heap.size) 0 ((rdV e zs [p0, p1, p2, p3, p4, p5, p6, p7] n) : List Value)) := rm
            refine hK _ _ ⟨hS19, ?_⟩
            try simp only [Act.put, List.setIfInBounds_toArray, List.set_cons_zero, List.set_cons_succ]
            obtain ⟨X19, hX19⟩ : ∃ X, X = v18.setCells (v2.heap.size) 0 ((rdV e zs [p0, p1, p2, p3, p4, p5, p6, p7] n) : List Value) := ⟨_, rfl⟩
            rw [← hX19] at rm sS sJ rg rh bR hS19 ⊢
            clear hX19 hK K hS18
            refine wpAnyH_all (rs := [12]) (by kernel_rfl) (by simp) ?_
            intro i hi; simp only [List.mem_cons, List.not_mem_nil, or_false] at hi
            subst hi
            refine wpOp_step rfl (fun K hK => ?_)
            rw [if_pos (by kernel_rfl)]
            refine wp_store_mid 65 (.tmp 8) (.tmp 19) rfl (X12.heap.size) 0 ([.int .u8 c0, .int .u8 c1, .int .u8 c2, .int .u8 c3, .int .u8 c4, .int .u8 c5, .int .u8 c6, .int .u8 c7] : List Value).toArray rfl rfl (rh.there 8 rfl) hd (all_oneCell_toArray (one_of8 ints8)) ?_
            replace rm := Row.setCells_other rm (Nat.ne_of_lt (Nat.lt_of_lt_of_le l_rm l_rh)) ([.int .u8 c0, .int .u8 c1, .int .u8 c2, .int .u8 c3, .int .u8 c4, .int .u8 c5, .int .u8 c6, .int .u8 c7] : List Value) 0
            replace sS := sS.below (below_setCells (g := X12.heap.size) ([.int .u8 c0, .int .u8 c1, .int .u8 c2, .int .u8 c3, .int .u8 c4, .int .u8 c5, .int .u8 c6, .int .u8 c7] : List Value) 0 X19 (Below.refl _ _) (Nat.le_refl _)) (Nat.lt_of_lt_of_le l_sS l_rh)
            replace sJ := sJ.below (below_setCells (g := X12.heap.size) ([.int .u8 c0, .int .u8 c1, .int .u8 c2, .int .u8 c3, .int .u8 c4, .int .u8 c5, .int .u8 c6, .int .u8 c7] : List Value) 0 X19 (Below.refl _ _) (Nat.le_refl _)) (Nat.lt_of_lt_of_le l_sJ l_rh)
            replace rg := Row.setCells_other rg (Nat.ne_of_lt lt_rg_rh) ([.int .u8 c0, .int .u8 c1, .int .u8 c2, .int .u8 c3, .int .u8 c4, .int .u8 c5, .int .u8 c6, .int .u8 c7] : List Value) 0
            replace rh := rh.setCells (ys := ([.int .u8 c0, .int .u8 c1, .int .u8 c2, .int .u8 c3, .int .u8 c4, .int .u8 c5, .int .u8 c6, .int .u8 c7] : List Value)) rfl
            replace bR := below_setCells ([.int .u8 c0, .int .u8 c1, .int .u8 c2, .int .u8 c3, .int .u8 c4, .int .u8 c5, .int .u8 c6, .int .u8 c7] : List Value) 0 _ bR (g := X12.heap.size) l_rh
            have hS20 : (fun W' : World => Row W' w.heap.size 33 [.slice (some ⟨b, 0, none⟩) n cap, .slice (some ⟨g, 0, none⟩) m cap']) (X19.setCells (X12.heap.size) 0 ([.int .u8 c0, .int .u8 c1, .int .u8 c2, .int .u8 c3, .int .u8 c4, .int .u8 c5, .int .u8 c6, .int .u8 c7] : List Value)) := rm
            refine hK _ _ ⟨hS20, ?_⟩
            try simp only [Act.put, List.setIfInBounds_toArray, List.set_cons_zero, List.set_cons_succ]
            obtain ⟨X20, hX20⟩ : ∃ X, X = X19.setCells (X12.heap.size) 0 ([.int .u8 c0, .int .u8 c1, .int .u8 c2, .int .u8 c3, .int .u8 c4, .int .u8 c5, .int .u8 c6, .int .u8 c7] : List Value) := ⟨_, rfl⟩
            rw [← hX20] at rm sS sJ rg rh bR hS20 ⊢
            clear hX20 hK K hS19
            refine wpAnyH_done (by kernel_rfl) ?_ _
            go_wp2_with fail
            go_meet
            exact ⟨v2.heap.size, X12.heap.size, _, rfl, rfl, rfl, rg, rh, rm, bW0.trans (bR.mono bW0.size)⟩
        · refine wpOp_step rfl (fun K hK => ?_)
          go_simp
          have rh := Row.new v2 65 [.int .u8 0, .int .u8 0, .int .u8 0, .int .u8 0, .int .u8 0, .int .u8 0, .int .u8 0, .int .u8 0]
          have hA : Below v2.heap.size v2 (v2.alloc (.cells #[.int .u8 0, .int .u8 0, .int .u8 0, .int .u8 0, .int .u8 0, .int .u8 0, .int .u8 0, .int .u8 0] 65)) := (Below.refl _ _).alloc (Nat.le_refl _) _
          replace rm := rm.below hA rm.lt
          replace sS := sS.below hA sS.1
          replace sJ := sJ.below hA sJ.1
          have l_rh := bR.size
          replace bR := bR.trans (hA.mono bR.size)
          have hS21 : (fun W' : World => Row W' w.heap.size 33 [.slice (some ⟨b, 0, none⟩) n cap, .slice (some ⟨g, 0, none⟩) m cap']) (v2.alloc (.cells #[.int .u8 0, .int .u8 0, .int .u8 0, .int .u8 0, .int .u8 0, .int .u8 0, .int .u8 0, .int .u8 0] 65)) := rm
          refine hK _ _ ⟨hS21, ?_⟩
          try simp only [Act.put, List.setIfInBounds_toArray, List.set_cons_zero, List.set_cons_succ]
          obtain ⟨X21, hX21⟩ : ∃ X, X = v2.alloc (.cells #[.int .u8 0, .int .u8 0, .int .u8 0, .int .u8 0, .int .u8 0, .int .u8 0, .int .u8 0, .int .u8 0] 65) := ⟨_, rfl⟩
          rw [← hX21] at rm sS sJ rh bR hS21 ⊢
          clear hX21 hA hK K hS2
          refine wpAnyH_all (rs := [8, 9]) (by kernel_rfl) (by simp) ?_
          intro i hi; simp only [List.mem_cons, List.not_mem_nil, or_false] at hi
          rcases hi with rfl | rfl
          · refine wpOp_step rfl (fun K hK => ?_)
            go_simp
            with_reducible refine (HD.out X21 sS).mono ?_
            rintro e v22 ⟨rfl, hB22⟩
            replace rm := rm.below hB22 rm.lt
            replace sS := sS.below hB22 sS.1
            replace sJ := sJ.below hB22 sJ.1
            replace rh := rh.below hB22 rh.lt
            replace bR := bR.trans (hB22.mono bR.size)
            have hS22 : (fun W' : World => Row W' w.heap.size 33 [.slice (some ⟨b, 0, none⟩) n cap, .slice (some ⟨g, 0, none⟩) m cap']) v22 := rm
            refine hK _ _ ⟨hS22, ?_⟩
            try simp only [Act.put, List.setIfInBounds_toArray, List.set_cons_zero, List.set_cons_succ]
            clear hB22 hK K hS21
            refine wpAnyH_all (rs := [9]) (by kernel_rfl) (by simp) ?_
            intro i hi; simp only [List.mem_cons, List.not_mem_nil, or_false] at hi
            subst hi
            refine wpOp_step rfl (fun K hK => ?_)
            go_simp
            have lt_rh_rg : v2.heap.size < v22.heap.size := rh.lt
            have rg := Row.new v22 65 [.int .u8 0, .int .u8 0, .int .u8 0, .int .u8 0, .int .u8 0, .int .u8 0, .int .u8 0, .int .u8 0]
            have hA : Below v22.heap.size v22 (v22.alloc (.cells #[.int .u8 0, .int .u8 0, .int .u8 0, .int .u8 0, .int .u8 0, .int .u8 0, .int .u8 0, .int .u8 0] 65)) := (Below.refl _ _).alloc (Nat.le_refl _) _
            replace rm := rm.below hA rm.lt
            replace sS := sS.below hA sS.1
            replace sJ := sJ.below hA sJ.1
            replace rh := rh.below hA rh.lt
            have l_rg := bR.size
            replace bR := bR.trans (hA.mono bR.size)
            have hS23 : (fun W' : World => Row W' w.heap.size 33 [.slice (some ⟨b, 0, none⟩) n cap, .slice (some ⟨g, 0, none⟩) m cap']) (v22.alloc (.cells #[.int .u8 0, .int .u8 0, .int .u8 0, .int .u8 0, .int .u8 0, .int .u8 0, .int .u8 0, .int .u8 0] 65)) := rm
            refine hK _ _ ⟨hS23, ?_⟩
            try simp only [Act.put, List.setIfInBounds_toArray, List.set_cons_zero, List.set_cons_succ]
            obtain ⟨X23, hX23⟩ : ∃ X, X = v22.alloc (.cells #[.int .u8 0, .int .u8 0, .int .u8 0, .int .u8 0, .int .u8 0, .int .u8 0, .int .u8 0, .int .u8 0] 65) := ⟨_, rfl⟩
            rw [← hX23] at rm sS sJ rh rg bR hS23 ⊢
            clear hX23 hA hK K hS22
            refine wpAnyH_all (rs := [11]) (by kernel_rfl) (by simp) ?_
            intro i hi; simp only [List.mem_cons, List.not_mem_nil, or_false] at hi
            subst hi
            refine wpOp_step rfl (fun K hK => ?_)
            rw [if_pos (by kernel_rfl)]
            refine wp_store_mid 65 (.tmp 7) (.tmp 16) rfl (v22.heap.size) 0 ((rdV e zs [p0, p1, p2, p3, p4, p5, p6, p7] n) : List Value).toArray rfl rfl (rg.there 8 rfl) hd (all_oneCell_toArray (one_of8 (ints_rd _ _ _ _))) ?_
            replace rm := Row.setCells_other rm (Nat.ne_of_lt (Nat.lt_of_lt_of_le l_rm l_rg)) ((rdV e zs [p0, p1, p2, p3, p4, p5, p6, p7] n) : List Value) 0
            replace sS := sS.below (below_setCells (g := v22.heap.size) ((rdV e zs [p0, p1, p2, p3, p4, p5, p6, p7] n) : List Value) 0 X23 (Below.refl _ _) (Nat.le_refl _)) (Nat.lt_of_lt_of_le l_sS l_rg)
            replace sJ := sJ.below (below_setCells (g := v22.heap.size) ((rdV e zs [p0, p1, p2, p3, p4, p5, p6, p7] n) : List Value) 0 X23 (Below.refl _ _) (Nat.le_refl _)) (Nat.lt_of_lt_of_le l_sJ l_rg)
            replace rh := Row.setCells_other rh (Nat.ne_of_lt lt_rh_rg) ((rdV e zs [p0, p1, p2, p3, p4, p5, p6, p7] n) : List Value) 0
            replace rg := rg.setCells (ys := ((rdV e zs [p0, p1, p2, p3, p4, p5, p6, p7] n) : List Value)) rfl
            replace bR := below_setCells ((rdV e zs [p0, p1, p2, p3, p4, p5, p6, p7] n) : List Value) 0 _ bR (g := v22.heap.size) l_rg
            have hS24 : (fun W' : World => Row W' w.heap.size 33 [.slice (some ⟨b, 0, none⟩) n cap, .slice (some ⟨g, 0, none⟩) m cap']) (X23.setCells (v22.heap.size) 0 ((rdV e zs [p0, p1, p2, p3, p4, p5, p6, p7] n) : List Value)) := rm
            refine hK _ _ ⟨hS24, ?_⟩
            try simp only [Act.put, List.setIfInBounds_toArray, List.set_cons_zero, List.set_cons_succ]
            obtain ⟨X24, hX24⟩ : ∃ X, X = X23.setCells (v22.heap.size) 0 ((rdV e zs [p0, p1, p2, p3, p4, p5, p6, p7] n) : List Value) := ⟨_, rfl⟩
            rw [← hX24] at rm sS sJ rh rg bR hS24 ⊢
            clear hX24 hK K hS23
            refine wpAnyH_all (rs := [12]) (by kernel_rfl) (by simp) ?_
            intro i hi; simp only [List.mem_cons, List.not_mem_nil, or_false] at hi
            subst hi
            refine wpOp_step rfl (fun K hK => ?_)
            rw [if_pos (by kernel_rfl)]
            refine wp_store_mid 65 (.tmp 8) (.tmp 19) rfl (v2.heap.size) 0 ([.int .u8 c0, .int .u8 c1, .int .u8 c2, .int .u8 c3, .int .u8 c4, .int .u8 c5, .int .u8 c6, .int .u8 c7] : List Value).toArray rfl rfl (rh.there 8 rfl) hd (all_oneCell_toArray (one_of8 ints8)) ?_
            replace rm := Row.setCells_other rm (Nat.ne_of_lt (Nat.lt_of_lt_of_le l_rm l_rh)) ([.int .u8 c0, .int .u8 c1, .int .u8 c2, .int .u8 c3, .int .u8 c4, .int .u8 c5, .int .u8 c6, .int .u8 c7] : List Value) 0
            replace sS := sS.below (below_setCells (g := v2.heap.size) ([.int .u8 c0, .int .u8 c1, .int .u8 c2, .int .u8 c3, .int .u8 c4, .int .u8 c5, .int .u8 c6, .int .u8 c7] : List Value) 0 X24 (Below.refl _ _) (Nat.le_refl _)) (Nat.lt_of_lt_of_le l_sS l_rh)
            replace sJ := sJ.below (below_setCells (g := v2.heap.size) ([.int .u8 c0, .int .u8 c1, .int .u8 c2, .int .u8 c3, .int .u8 c4, .int .u8 c5, .int .u8 c6, .int .u8 c7] : List Value) 0 X24 (Below.refl _ _) (Nat.le_refl _)) (Nat.lt_of_lt_of_le l_sJ l_rh)
            replace rg := Row.setCells_other rg (Nat.ne_of_gt lt_rh_rg) ([.int .u8 c0, .int .u8 c1, .int .u8 c2, .int .u8 c3, .int .u8 c4, .int .u8 c5, .int .u8 c6, .int .u8 c7] : List Value) 0
            replace rh := rh.setCells (ys := ([.int .u8 c0, .int .u8 c1, .int .u8 c2, .int .u8 c3, .int .u8 c4, .int .u8 c5, .int .u8 c6, .int .u8 c7] : List Value)) rfl
            replace bR := below_setCells ([.int .u8 c0, .int .u8 c1, .int .u8 c2, .int .u8 c3, .int .u8 c4, .int .u8 c5, .int .u8 c6, .int .u8 c7] : List Value) 0 _ bR (g := v2.heap.size) l_rh
            have hS25 : (fun W' : World => Row W' w.heap.size 33 [.slice (some ⟨b, 0, none⟩) n cap, .slice (some ⟨g, 0, none⟩) m cap']) (X24.setCells (v2.heap.size) 0 ([.int .u8 c0, .int .u8 c1, .int .u8 c2, .int .u8 c3, .int .u8 c4, .int .u8 c5, .int .u8 c6, .int .u8 c7] : List Value)) := rm
            refine hK _ _ ⟨hS25, ?_⟩
            try simp only [Act.put, List.setIfInBounds_toArray, List.set_cons_zero, List.set_cons_succ]
            obtain ⟨X25, hX25⟩ : ∃ X, X = X24.setCells (v2.heap.size) 0 ([.int .u8 c0, .int .u8 c1, .int .u8 c2, .int .u8 c3, .int .u8 c4, .int .u8 c5, .int .u8 c6, .int .u8 c7] : List Value) := ⟨_, rfl⟩
            rw [← hX25] at rm sS sJ rh rg bR hS25 ⊢
            clear hX25 hK K hS24
            refine wpAnyH_done (by kernel_rfl) ?_ _
            go_wp2_with fail
            go_meet
            exact ⟨v22.heap.size, v2.heap.size, _, rfl, rfl, rfl, rg, rh, rm, bW0.trans (bR.mono bW0.size)⟩
          · refine wpOp_step rfl (fun K hK => ?_)
            go_simp
            have lt_rh_rg : v2.heap.size < X21.heap.size := rh.lt
            have rg := Row.new X21 65 [.int .u8 0, .int .u8 0, .int .u8 0, .int .u8 0, .int .u8 0, .int .u8 0, .int .u8 0, .int .u8 0]
            have hA : Below X21.heap.size X21 (X21.alloc (.cells #[.int .u8 0, .int .u8 0, .int .u8 0, .int .u8 0, .int .u8 0, .int .u8 0, .int .u8 0, .int .u8 0] 65)) := (Below.refl _ _).alloc (Nat.le_refl _) _
            replace rm := rm.below hA rm.lt
            replace sS := sS.below hA sS.1
            replace sJ := sJ.below hA sJ.1
            replace rh := rh.below hA rh.lt
            have l_rg := bR.size
            replace bR := bR.trans (hA.mono bR.size)
            have hS26 : (fun W' : World => Row W' w.heap.size 33 [.slice (some ⟨b, 0, none⟩) n cap, .slice (some ⟨g, 0, none⟩) m cap']) (X21.alloc (.cells #[.int .u8 0, .int .u8 0, .int .u8 0, .int .u8 0, .int .u8 0, .int .u8 0, .int .u8 0, .int .u8 0] 65)) := rm
            refine hK _ _ ⟨hS26, ?_⟩
            try simp only [Act.put, List.setIfInBounds_toArray, List.set_cons_zero, List.set_cons_succ]
            obtain ⟨X26, hX26⟩ : ∃ X, X = X21.alloc (.cells #[.int .u8 0, .int .u8 0, .int .u8 0, .int .u8 0, .int .u8 0, .int .u8 0, .int .u8 0, .int .u8 0] 65) := ⟨_, rfl⟩
            rw [← hX26] at rm sS sJ rh rg bR hS26 ⊢
            clear hX26 hA hK K hS21
            refine wpAnyH_all (rs := [8]) (by kernel_rfl) (by simp) ?_
            intro i hi; simp only [List.mem_cons, List.not_mem_nil, or_false] at hi
            subst hi
            refine wpOp_step rfl (fun K hK => ?_)
            go_simp
            with_reducible refine (HD.out X26 sS).mono ?_
            rintro e v27 ⟨rfl, hB27⟩
            replace rm := rm.below hB27 rm.lt
            replace sS := sS.below hB27 sS.1
            replace sJ := sJ.below hB27 sJ.1
            replace rh := rh.below hB27 rh.lt
            replace rg := rg.below hB27 rg.lt
            replace bR := bR.trans (hB27.mono bR.size)
            have hS27 : (fun W' : World => Row W' w.heap.size 33 [.slice (some ⟨b, 0, none⟩) n cap, .slice (some ⟨g, 0, none⟩) m cap']) v27 := rm
            refine hK _ _ ⟨hS27, ?_⟩
            try simp only [Act.put, List.setIfInBounds_toArray, List.set_cons_zero, List.set_cons_succ]
            clear hB27 hK K hS26
            refine wpAnyH_all (rs := [11]) (by kernel_rfl) (by simp) ?_
            intro i hi; simp only [List.mem_cons, List.not_mem_nil, or_false] at hi
            subst hi
            refine wpOp_step rfl (fun K hK => ?_)
            rw [if_pos (by kernel_rfl)]
            refine wp_store_mid 65 (.tmp 7) (.tmp 16) rfl (X21.heap.size) 0 ((rdV e zs [p0, p1, p2, p3, p4, p5, p6, p7] n) : List Value).toArray rfl rfl (rg.there 8 rfl) hd (all_oneCell_toArray (one_of8 (ints_rd _ _ _ _))) ?_
            replace rm := Row.setCells_other rm (Nat.ne_of_lt (Nat.lt_of_lt_of_le l_rm l_rg)) ((rdV e zs [p0, p1, p2, p3, p4, p5, p6, p7] n) : List Value) 0
            replace sS := sS.below (below_setCells (g := X21.heap.size) ((rdV e zs [p0, p1, p2, p3, p4, p5, p6, p7] n) : List Value) 0 v27 (Below.refl _ _) (Nat.le_refl _)) (Nat.lt_of_lt_of_le l_sS l_rg)
            replace sJ := sJ.below (below_setCells (g := X21.heap.size) ((rdV e zs [p0, p1, p2, p3, p4, p5, p6, p7] n) : List Value) 0 v27 (Below.refl _ _) (Nat.le_refl _)) (Nat.lt_of_lt_of_le l_sJ l_rg)
            replace rh := Row.setCells_other rh (Nat.ne_of_lt lt_rh_rg) ((rdV e zs [p0, p1, p2, p3, p4, p5, p6, p7] n) : List Value) 0
            replace rg := rg.setCells (ys := ((rdV e zs [p0, p1, p2, p3, p4, p5, p6, p7] n) : List Value)) rfl
            replace bR := below_setCells ((rdV e zs [p0, p1, p2, p3, p4, p5, p6, p7] n) : List Value) 0 _ bR (g := X21.heap.size) l_rg
            have hS28 : (fun W' : World => Row W' w.heap.size 33 [.slice (some ⟨b, 0, none⟩) n cap, .slice (some ⟨g, 0, none⟩) m cap']) (v27.setCells (X21.heap.size) 0 ((rdV e zs [p0, p1, p2, p3, p4, p5, p6, p7] n) : List Value)) := rm
            refine hK _ _ ⟨hS28, ?_⟩
            try simp only [Act.put, List.setIfInBounds_toArray, List.set_cons_zero, List.set_cons_succ]
            obtain ⟨X28, hX28⟩ : ∃ X, X = v27.setCells (X21.heap.size) 0 ((rdV e zs [p0, p1, p2, p3, p4, p5, p6, p7] n) : List Value) := ⟨_, rfl⟩
            rw [← hX28] at rm sS sJ rh rg bR hS28 ⊢
            clear hX28 hK K hS27
            refine wpAnyH_all (rs := [12]) (by kernel_rfl) (by simp) ?_
            intro i hi; simp only [List.mem_cons, List.not_mem_nil, or_false] at hi
            subst hi
            refine wpOp_step rfl (fun K hK => ?_)
            rw [if_pos (by kernel_rfl)]
            refine wp_store_mid 65 (.tmp 8) (.tmp 19) rfl (v2.heap.size) 0 ([.int .u8 c0, .int .u8 c1, .int .u8 c2, .int .u8 c3, .int .u8 c4, .int .u8 c5, .int .u8 c6, .int .u8 c7] : List Value).toArray rfl rfl (rh.there 8 rfl) hd (all_oneCell_toArray (one_of8 ints8)) ?_
            replace rm := Row.setCells_other rm (Nat.ne_of_lt (Nat.lt_of_lt_of_le l_rm l_rh)) ([.int .u8 c0, .int .u8 c1, .int .u8 c2, .int .u8 c3, .int .u8 c4, .int .u8 c5, .int .u8 c6, .int .u8 c7] : List Value) 0
            replace sS := sS.below (below_setCells (g := v2.heap.size) ([.int .u8 c0, .int .u8 c1, .int .u8 c2, .int .u8 c3, .int .u8 c4, .int .u8 c5, .int .u8 c6, .int .u8 c7] : List Value) 0 X28 (Below.refl _ _) (Nat.le_refl _)) (Nat.lt_of_lt_of_le l_sS l_rh)
            replace sJ := sJ.below (below_setCells (g := v2.heap.size) ([.int .u8 c0, .int .u8 c1, .int .u8 c2, .int .u8 c3, .int .u8 c4, .int .u8 c5, .int .u8 c6, .int .u8 c7] : List Value) 0 X28 (Below.refl _ _) (Nat.le_refl _)) (Nat.lt_of_lt_of_le l_sJ l_rh)
            replace rg := Row.setCells_other rg (Nat.ne_of_gt lt_rh_rg) ([.int .u8 c0, .int .u8 c1, .int .u8 c2, .int .u8 c3, .int .u8 c4, .int .u8 c5, .int .u8 c6, .int .u8 c7] : List Value) 0
            replace rh := rh.setCells (ys := ([.int .u8 c0, .int .u8 c1, .int .u8 c2, .int .u8 c3, .int .u8 c4, .int .u8 c5, .int .u8 c6, .int .u8 c7] : List Value)) rfl
            replace bR := below_setCells ([.int .u8 c0, .int .u8 c1, .int .u8 c2, .int .u8 c3, .int .u8 c4, .int .u8 c5, .int .u8 c6, .int .u8 c7] : List Value) 0 _ bR (g := v2.heap.size) l_rh
            have hS29 : (fun W' : World => Row W' w.heap.size 33 [.slice (some ⟨b, 0, none⟩) n cap, .slice (some ⟨g, 0, none⟩) m cap']) (X28.setCells (v2.heap.size) 0 ([.int .u8 c0, .int .u8 c1, .int .u8 c2, .int .u8 c3, .int .u8 c4, .int .u8 c5, .int .u8 c6, .int .u8 c7] : List Value)) := rm
            refine hK _ _ ⟨hS29, ?_⟩
            try simp only [Act.put, List.setIfInBounds_toArray, List.set_cons_zero, List.set_cons_succ]
            obtain ⟨X29, hX29⟩ : ∃ X, X = X28.setCells (v2.heap.size) 0 ([.int .u8 c0, .int .u8 c1, .int .u8 c2, .int .u8 c3, .int .u8 c4, .int .u8 c5, .int .u8 c6, .int .u8 c7] : List Value) := ⟨_, rfl⟩
            rw [← hX29] at rm sS sJ rh rg bR hS29 ⊢
            clear hX29 hK K hS28
            refine wpAnyH_done (by kernel_rfl) ?_ _
            go_wp2_with fail
            go_meet
            exact ⟨X21.heap.size, v2.heap.size, _, rfl, rfl, rfl, rg, rh, rm, bW0.trans (bR.mono bW0.size)⟩
      · refine wpOp_step rfl (fun K hK => ?_)
        go_simp
        have rg := Row.new v1 65 [.int .u8 0, .int .u8 0, .int .u8 0, .int .u8 0, .int .u8 0, .int .u8 0, .int .u8 0, .int .u8 0]
        have hA : Below v1.heap.size v1 (v1.alloc (.cells #[.int .u8 0, .int .u8 0, .int .u8 0, .int .u8 0, .int .u8 0, .int .u8 0, .int .u8 0, .int .u8 0] 65)) := (Below.refl _ _).alloc (Nat.le_refl _) _
        replace rm := rm.below hA rm.lt
        replace sS := sS.below hA sS.1
        replace sJ := sJ.below hA sJ.1
        have l_rg := bR.size
        replace bR := bR.trans (hA.mono bR.size)
        have hS30 : (fun W' : World => Row W' w.heap.size 33 [.slice (some ⟨b, 0, none⟩) n cap, .slice (some ⟨g, 0, none⟩) m cap']) (v1.alloc (.cells #[.int .u8 0, .int .u8 0, .int .u8 0, .int .u8 0, .int .u8 0, .int .u8 0, .int .u8 0, .int .u8 0] 65)) := rm
        refine hK _ _ ⟨hS30, ?_⟩
        try simp only [Act.put, List.setIfInBounds_toArray, List.set_cons_zero, List.set_cons_succ]
        obtain ⟨X30, hX30⟩ : ∃ X, X = v1.alloc (.cells #[.int .u8 0, .int .u8 0, .int .u8 0, .int .u8 0, .int .u8 0, .int .u8 0, .int .u8 0, .int .u8 0] 65) := ⟨_, rfl⟩
        rw [← hX30] at rm sS sJ rg bR hS30 ⊢
        clear hX30 hA hK K hS1
        refine wpAnyH_all (rs := [5, 10]) (by kernel_rfl) (by simp) ?_
        intro i hi; simp only [List.mem_cons, List.not_mem_nil, or_false] at hi
        rcases hi with rfl | rfl
        · refine wpOp_step rfl (fun K hK => ?_)
          go_simp
          with_reducible refine (HR.out X30 sS sJ).mono ?_
          rintro e v31 ⟨rfl, hB31⟩
          replace rm := rm.below hB31 rm.lt
          replace sS := sS.below hB31 sS.1
          replace sJ := sJ.below hB31 sJ.1
          replace rg := rg.below hB31 rg.lt
          replace bR := bR.trans (hB31.mono bR.size)
          have hS31 : (fun W' : World => Row W' w.heap.size 33 [.slice (some ⟨b, 0, none⟩) n cap, .slice (some ⟨g, 0, none⟩) m cap']) v31 := rm
          refine hK _ _ ⟨hS31, ?_⟩
          try simp only [Act.put, List.setIfInBounds_toArray, List.set_cons_zero, List.set_cons_succ]
          clear hB31 hK K hS30
          refine wpAnyH_all (rs := [8, 10]) (by kernel_rfl) (by simp) ?_
          intro i hi; simp only [List.mem_cons, List.not_mem_nil, or_false] at hi
          rcases hi with rfl | rfl
          · refine wpOp_step rfl (fun K hK => ?_)
            go_simp
            with_reducible refine (HD.out v31 sS).mono ?_
            rintro e v32 ⟨rfl, hB32⟩
            replace rm := rm.below hB32 rm.lt
            replace sS := sS.below hB32 sS.1
            replace sJ := sJ.below hB32 sJ.1
            replace rg := rg.below hB32 rg.lt
            replace bR := bR.trans (hB32.mono bR.size)
            have hS32 : (fun W' : World => Row W' w.heap.size 33 [.slice (some ⟨b, 0, none⟩) n cap, .slice (some ⟨g, 0, none⟩) m cap']) v32 := rm
            refine hK _ _ ⟨hS32, ?_⟩
            try simp only [Act.put, List.setIfInBounds_toArray, List.set_cons_zero, List.set_cons_succ]
            clear hB32 hK K hS31
            refine wpAnyH_all (rs := [10]) (by kernel_rfl) (by simp) ?_
            intro i hi; simp only [List.mem_cons, List.not_mem_nil, or_false] at hi
            subst hi
            refine wpOp_step rfl (fun K hK => ?_)
            go_simp
            have lt_rg_rh : v1.heap.size < v32.heap.size := rg.lt
            have rh := Row.new v32 65 [.int .u8 0, .int .u8 0, .int .u8 0, .int .u8 0, .int .u8 0, .int .u8 0, .int .u8 0, .int .u8 0]
            have hA : Below v32.heap.size v32 (v32.alloc (.cells #[.int .u8 0, .int .u8 0, .int .u8 0, .int .u8 0, .int .u8 0, .int .u8 0, .int .u8 0, .int .u8 0] 65)) := (Below.refl _ _).alloc (Nat.le_refl _) _
            replace rm := rm.below hA rm.lt
            replace sS := sS.below hA sS.1
            replace sJ := sJ.below hA sJ.1
            replace rg := rg.below hA rg.lt
            have l_rh := bR.size
            replace bR := bR.trans (hA.mono bR.size)
            have hS33 : (fun W' : World => Row W' w.heap.size 33 [.slice (some ⟨b, 0, none⟩) n cap, .slice (some ⟨g, 0, none⟩) m cap']) (v32.alloc (.cells #[.int .u8 0, .int .u8 0, .int .u8 0, .int .u8 0, .int .u8 0, .int .u8 0, .int .u8 0, .int .u8 0] 65)) := rm
            refine hK _ _ ⟨hS33, ?_⟩
            try simp only [Act.put, List.setIfInBounds_toArray, List.set_cons_zero, List.set_cons_succ]
            obtain ⟨X33, hX33⟩ : ∃ X, X = v32.alloc (.cells #[.int .u8 0, .int .u8 0, .int .u8 0, .int .u8 0, .int .u8 0, .int .u8 0, .int .u8 0, .int .u8 0] 65) := ⟨_, rfl⟩
            rw [← hX33] at rm sS sJ rg rh bR hS33 ⊢
            clear hX33 hA hK K hS32
            refine wpAnyH_all (rs := [11]) (by kernel_rfl) (by simp) ?_
            intro i hi; simp only [List.mem_cons, List.not_mem_nil, or_false] at hi
            subst hi
            refine wpOp_step rfl (fun K hK => ?_)
            rw [if_pos (by kernel_rfl)]
            refine wp_store_mid 65 (.tmp 7) (.tmp 16) rfl (v1.heap.size) 0 ((rdV e zs [p0, p1, p2, p3, p4, p5, p6, p7] n) : List Value).toArray rfl rfl (rg.there 8 rfl) hd (all_oneCell_toArray (one_of8 (ints_rd _ _ _ _))) ?_
            replace rm := Row.setCells_other rm (Nat.ne_of_lt (Nat.lt_of_lt_of_le l_rm l_rg)) ((rdV e zs [p0, p1, p2, p3, p4, p5, p6, p7] n) : List Value) 0
            replace sS := sS.below (below_setCells (g := v1.heap.size) ((rdV e zs [p0, p1, p2, p3, p4, p5, p6, p7] n) : List Value) 0 X33 (Below.refl _ _) (Nat.le_refl _)) (Nat.lt_of_lt_of_le l_sS l_rg)
            replace sJ := sJ.below (below_setCells (g := v1.heap.size) ((rdV e zs [p0, p1, p2, p3, p4, p5, p6, p7] n) : List Value) 0 X33 (Below.refl _ _) (Nat.le_refl _)) (Nat.lt_of_lt_of_le l_sJ l_rg)
            replace rh := Row.setCells_other rh (Nat.ne_of_gt lt_rg_rh) ((rdV e zs [p0, p1, p2, p3, p4, p5, p6, p7] n) : List Value) 0
            replace rg := rg.setCells (ys := ((rdV e zs [p0, p1, p2, p3, p4, p5, p6, p7] n) : List Value)) rfl
            replace bR := below_setCells ((rdV e zs [p0, p1, p2, p3, p4, p5, p6, p7] n) : List Value) 0 _ bR (g := v1.heap.size) l_rg
            have hS34 : (fun W' : World => Row W' w.heap.size 33 [.slice (some ⟨b, 0, none⟩) n cap, .slice (some ⟨g, 0, none⟩) m cap']) (X33.setCells (v1.heap.size) 0 ((rdV e zs [p0, p1, p2, p3, p4, p5, p6, p7] n) : List Value)) := rm
            refine hK _ _ ⟨hS34, ?_⟩
            try simp only [Act.put, List.setIfInBounds_toArray, List.set_cons_zero, List.set_cons_succ]
            obtain ⟨X34, hX34⟩ : ∃ X, X = X33.setCells (v1.heap.size) 0 ((rdV e zs [p0, p1, p2, p3, p4, p5, p6, p7] n) : List Value) := ⟨_, rfl⟩
            rw [← hX34] at rm sS sJ rg rh bR hS34 ⊢
            clear hX34 hK K hS33
            refine wpAnyH_all (rs := [12]) (by kernel_rfl) (by simp) ?_
            intro i hi; simp only [List.mem_cons, List.not_mem_nil, or_false] at hi
            subst hi
            refine wpOp_step rfl (fun K hK => ?_)
            rw [if_pos (by kernel_rfl)]
            refine wp_store_mid 65 (.tmp 8) (.tmp 19) rfl (v32.heap.size) 0 ([.int .u8 c0, .int .u8 c1, .int .u8 c2, .int .u8 c3, .int .u8 c4, .int .u8 c5, .int .u8 c6, .int .u8 c7] : List Value).toArray rfl rfl (rh.there 8 rfl) hd (all_oneCell_toArray (one_of8 ints8)) ?_
            replace rm := Row.setCells_other rm (Nat.ne_of_lt (Nat.lt_of_lt_of_le l_rm l_rh)) ([.int .u8 c0, .int .u8 c1, .int .u8 c2, .int .u8 c3, .int .u8 c4, .int .u8 c5, .int .u8 c6, .int .u8 c7] : List Value) 0
            replace sS := sS.below (below_setCells (g := v32.heap.size) ([.int .u8 c0, .int .u8 c1, .int .u8 c2, .int .u8 c3, .int .u8 c4, .int .u8 c5, .int .u8 c6, .int .u8 c7] : List Value) 0 X34 (Below.refl _ _) (Nat.le_refl _)) (Nat.lt_of_lt_of_le l_sS l_rh)
            replace sJ := sJ.below (below_setCells (g := v32.heap.size) ([.int .u8 c0, .int .u8 c1, .int .u8 c2, .int .u8 c3, .int .u8 c4, .int .u8 c5, .int .u8 c6, .int .u8 c7] : List Value) 0 X34 (Below.refl _ _) (Nat.le_refl _)) (Nat.lt_of_lt_of_le l_sJ l_rh)
            replace rg := Row.setCells_other rg (Nat.ne_of_lt lt_rg_rh) ([.int .u8 c0, .int .u8 c1, .int .u8 c2, .int .u8 c3, .int .u8 c4, .int .u8 c5, .int .u8 c6, .int .u8 c7] : List Value) 0
            replace rh := rh.setCells (ys := ([.int .u8 c0, .int .u8 c1, .int .u8 c2, .int .u8 c3, .int .u8 c4, .int .u8 c5, .int .u8 c6, .int .u8 c7] : List Value)) rfl
            replace bR := below_setCells ([.int .u8 c0, .int .u8 c1, .int .u8 c2, .int .u8 c3, .int .u8 c4, .int .u8 c5, .int .u8 c6, .int .u8 c7] : List Value) 0 _ bR (g := v32.heap.size) l_rh
            have hS35 : (fun W' : World => Row W' w.heap.size 33 [.slice (some ⟨b, 0, none⟩) n cap, .slice (some ⟨g, 0, none⟩) m cap']) (X34.setCells (v32.heap.size) 0 ([.int .u8 c0, .int .u8 c1, .int .u8 c2, .int .u8 c3, .int .u8 c4, .int .u8 c5, .int .u8 c6, .int .u8 c7] : List Value)) := rm
            refine hK _ _ ⟨hS35, ?_⟩
            try simp only [Act.put, List.setIfInBounds_toArray, List.set_cons_zero, List.set_cons_succ]
            obtain ⟨X35, hX35⟩ : ∃ X, X = X34.setCells (v32.heap.size) 0 ([.int .u8 c0, .int .u8 c1, .int .u8 c2, .int .u8 c3, .int .u8 c4, .int .u8 c5, .int .u8 c6, .int .u8 c7] : List Value) := ⟨_, rfl⟩
            rw [← hX35] at rm sS sJ rg rh bR hS35 ⊢
            clear hX35 hK K hS34
            refine wpAnyH_done (by kernel_rfl) ?_ _
            go_wp2_with fail
            go_meet
            exact ⟨v1.heap.size, v32.heap.size, _, rfl, rfl, rfl, rg, rh, rm, bW0.trans (bR.mono bW0.size)⟩
          · refine wpOp_step rfl (fun K hK => ?_)
            go_simp
            have lt_rg_rh : v1.heap.size < v31.heap.size := rg.lt
            have rh := Row.new v31 65 [.int .u8 0, .int .u8 0, .int .u8 0, .int .u8 0, .int .u8 0, .int .u8 0, .int .u8 0, .int .u8 0]
            have hA : Below v31.heap.size v31 (v31.alloc (.cells #[.int .u8 0, .int .u8 0, .int .u8 0, .int .u8 0, .int .u8 0, .int .u8 0, .int .u8 0, .int .u8 0] 65)) := (Below.refl _ _).alloc (Nat.le_refl _) _
            replace rm := rm.below hA rm.lt
            replace sS := sS.below hA sS.1
            replace sJ := sJ.below hA sJ.1
            replace rg := rg.below hA rg.lt
            have l_rh := bR.size
            replace bR := bR.trans (hA.mono bR.size)
            have hS36 : (fun W' : World => Row W' w.heap.size 33 [.slice (some ⟨b, 0, none⟩) n cap, .slice (some ⟨g, 0, none⟩) m cap']) (v31.alloc (.cells #[.int .u8 0, .int .u8 0, .int .u8 0, .int .u8 0, .int .u8 0, .int .u8 0, .int .u8 0, .int .u8 0] 65)) := rm
            refine hK _ _ ⟨hS36, ?_⟩
            try simp only [Act.put, List.setIfInBounds_toArray, List.set_cons_zero, List.set_cons_succ]
            obtain ⟨X36, hX36⟩ : ∃ X, X = v31.alloc (.cells #[.int .u8 0, .int .u8 0, .int .u8 0, .int .u8 0, .int .u8 0, .int .u8 0, .int .u8 0, .int .u8 0] 65) := ⟨_, rfl⟩
            rw [← hX36] at rm sS sJ rg rh bR hS36 ⊢
            clear hX36 hA hK K hS31
            refine wpAnyH_all (rs := [8]) (by kernel_rfl) (by simp) ?_
            intro i hi; simp only [List.mem_cons, List.not_mem_nil, or_false] at hi
            subst hi
            refine wpOp_step rfl (fun K hK => ?_)
            go_simp
            with_reducible refine (HD.out X36 sS).mono ?_
            rintro e v37 ⟨rfl, hB37⟩
            replace rm := rm.below hB37 rm.lt
            replace sS := sS.below hB37 sS.1
            replace sJ := sJ.below hB37 sJ.1
            replace rg := rg.below hB37 rg.lt
            replace rh := rh.below hB37 rh.lt
            replace bR := bR.trans (hB37.mono bR.size)
            have hS37 : (fun W' : World => Row W' w.heap.size 33 [.slice (some ⟨b, 0, none⟩) n cap, .slice (some ⟨g, 0, none⟩) m cap']) v37 := rm
            refine hK _ _ ⟨hS37, ?_⟩
            try simp only [Act.put, List.setIfInBounds_toArray, List.set_cons_zero, List.set_cons_succ]
            clear hB37 hK K hS36
            refine wpAnyH_all (rs := [11]) (by kernel_rfl) (by simp) ?_
            intro i hi; simp only [List.mem_cons, List.not_mem_nil, or_false] at hi
            subst hi
            refine wpOp_step rfl (fun K hK => ?_)
            rw [if_pos (by kernel_rfl)]
            refine wp_store_mid 65 (.tmp 7) (.tmp 16) rfl (v1.heap.size) 0 ((rdV e zs [p0, p1, p2, p3, p4, p5, p6, p7] n) : List Value).toArray rfl rfl (rg.there 8 rfl) hd (all_oneCell_toArray (one_of8 (ints_rd _ _ _ _))) ?_
            replace rm := Row.setCells_other rm (Nat.ne_of_lt (Nat.lt_of_lt_of_le l_rm l_rg)) ((rdV e zs [p0, p1, p2, p3, p4, p5, p6, p7] n) : List Value) 0
            replace sS := sS.below (below_setCells (g := v1.heap.size) ((rdV e zs [p0, p1, p2, p3, p4, p5, p6, p7] n) : List Value) 0 v37 (Below.refl _ _) (Nat.le_refl _)) (Nat.lt_of_lt_of_le l_sS l_rg)
            replace sJ := sJ.below (below_setCells (g := v1.heap.size) ((rdV e zs [p0, p1, p2, p3, p4, p5, p6, p7] n) : List Value) 0 v37 (Below.refl _ _) (Nat.le_refl _)) (Nat.lt_of_lt_of_le l_sJ l_rg)
            replace rh := Row.setCells_other rh (Nat.ne_of_gt lt_rg_rh) ((rdV e zs [p0, p1, p2, p3, p4, p5, p6, p7] n) : List Value) 0
            replace rg := rg.setCells (ys := ((rdV e zs [p0, p1, p2, p3, p4, p5, p6, p7] n) : List Value)) rfl
            replace bR := below_setCells ((rdV e zs [p0, p1, p2, p3, p4, p5, p6, p7] n) : List Value) 0 _ bR (g := v1.heap.size) l_rg
            have hS38 : (fun W' : World => Row W' w.heap.size 33 [.slice (some ⟨b, 0, none⟩) n cap, .slice (some ⟨g, 0, none⟩) m cap']) (v37.setCells (v1.heap.size) 0 ((rdV e zs [p0, p1, p2, p3, p4, p5, p6, p7] n) : List Value)) := rm
            refine hK _ _ ⟨hS38, ?_⟩
            try simp only [Act.put, List.setIfInBounds_toArray, List.set_cons_zero, List.set_cons_succ]
            obtain ⟨X38, hX38⟩ : ∃ X, X = v37.setCells (v1.heap.size) 0 ((rdV e zs [p0, p1, p2, p3, p4, p5, p6, p7] n) : List Value) := ⟨_, rfl⟩
            rw [← hX38] at rm sS sJ rg rh bR hS38 ⊢
            clear hX38 hK K hS37
            refine wpAnyH_all (rs := [12]) (by kernel_rfl) (by simp) ?_
            intro i hi; simp only [List.mem_cons, List.not_mem_nil, or_false] at hi
            subst hi
            refine wpOp_step rfl (fun K hK => ?_)
            rw [if_pos (by kernel_rfl)]
            refine wp_store_mid 65 (.tmp 8) (.tmp 19) rfl (v31.heap.size) 0 ([.int .u8 c0, .int .u8 c1, .int .u8 c2, .int .u8 c3, .int .u8 c4, .int .u8 c5, .int .u8 c6, .int .u8 c7] : List Value).toArray rfl rfl (rh.there 8 rfl) hd (all_oneCell_toArray (one_of8 ints8)) ?_
            replace rm := Row.setCells_other rm (Nat.ne_of_lt (Nat.lt_of_lt_of_le l_rm l_rh)) ([.int .u8 c0, .int .u8 c1, .int .u8 c2, .int .u8 c3, .int .u8 c4, .int .u8 c5, .int .u8 c6, .int .u8 c7] : List Value) 0
            replace sS := sS.below (below_setCells (g := v31.heap.size) ([.int .u8 c0, .int .u8 c1, .int .u8 c2, .int .u8 c3, .int .u8 c4, .int .u8 c5, .int .u8 c6, .int .u8 c7] : List Value) 0 X38 (Below.refl _ _) (Nat.le_refl _)) (Nat.lt_of_lt_of_le l_sS l_rh)
            replace sJ := sJ.below (below_setCells (g := v31.heap.size) ([.int .u8 c0, .int .u8 c1, .int .u8 c2, .int .u8 c3, .int .u8 c4, .int .u8 c5, .int .u8 c6, .int .u8 c7] : List Value) 0 X38 (Below.refl _ _) (Nat.le_refl _)) (Nat.lt_of_lt_of_le l_sJ l_rh)
            replace rg := Row.setCells_other rg (Nat.ne_of_lt lt_rg_rh) ([.int .u8 c0, .int .u8 c1, .int .u8 c2, .int .u8 c3, .int .u8 c4, .int .u8 c5, .int .u8 c6, .int .u8 c7] : List Value) 0
            replace rh := rh.setCells (ys := ([.int .u8 c0, .int .u8 c1, .int .u8 c2, .int .u8 c3, .int .u8 c4, .int .u8 c5, .int .u8 c6, .int .u8 c7] : List Value)) rfl
            replace bR := below_setCells ([.int .u8 c0, .int .u8 c1, .int .u8 c2, .int .u8 c3, .int .u8 c4, .int .u8 c5, .int .u8 c6, .int .u8 c7] : List Value) 0 _ bR (g := v31.heap.size) l_rh
            have hS39 : (fun W' : World => Row W' w.heap.size 33 [.slice (some ⟨b, 0, none⟩) n cap, .slice (some ⟨g, 0, none⟩) m cap']) (X38.setCells (v31.heap.size) 0 ([.int .u8 c0, .int .u8 c1, .int .u8 c2, .int .u8 c3, .int .u8 c4, .int .u8 c5, .int .u8 c6, .int .u8 c7] : List Value)) := rm
            refine hK _ _ ⟨hS39, ?_⟩
            try simp only [Act.put, List.setIfInBounds_toArray, List.set_cons_zero, List.set_cons_succ]
            obtain ⟨X39, hX39⟩ : ∃ X, X = X38.setCells (v31.heap.size) 0 ([.int .u8 c0, .int .u8 c1, .int .u8 c2, .int .u8 c3, .int .u8 c4, .int .u8 c5, .int .u8 c6, .int .u8 c7] : List Value) := ⟨_, rfl⟩
            rw [← hX39] at rm sS sJ rg rh bR hS39 ⊢
            clear hX39 hK K hS38
            refine wpAnyH_done (by kernel_rfl) ?_ _
            go_wp2_with fail
            go_meet
            exact ⟨v1.heap.size, v31.heap.size, _, rfl, rfl, rfl, rg, rh, rm, bW0.trans (bR.mono bW0.size)⟩
        · refine wpOp_step rfl (fun K hK => ?_)
          go_simp
          have lt_rg_rh : v1.heap.size < X30.heap.size := rg.lt
          have rh := Row.new X30 65 [.int .u8 0, .int .u8 0, .int .u8 0, .int .u8 0, .int .u8 0, .int .u8 0, .int .u8 0, .int .u8 0]
          have hA : Below X30.heap.size X30 (X30.alloc (.cells #[.int .u8 0, .int .u8 0, .int .u8 0, .int .u8 0, .int .u8 0, .int .u8 0, .int .u8 0, .int .u8 0] 65)) := (Below.refl _ _).alloc (Nat.le_refl _) _
          replace rm := rm.below hA rm.lt
          replace sS := sS.below hA sS.1
          replace sJ := sJ.below hA sJ.1
          replace rg := rg.below hA rg.lt
          have l_rh := bR.size
          replace bR := bR.trans (hA.mono bR.size)
          have hS40 : (fun W' : World => Row W' w.heap.size 33 [.slice (some ⟨b, 0, none⟩) n cap, .slice (some ⟨g, 0, none⟩) m cap']) (X30.alloc (.cells #[.int .u8 0, .int .u8 0, .int .u8 0, .int .u8 0, .int .u8 0, .int .u8 0, .int .u8 0, .int .u8 0] 65)) := rm
          refine hK _ _ ⟨hS40, ?_⟩
          try simp only [Act.put, List.setIfInBounds_toArray, List.set_cons_zero, List.set_cons_succ]
          obtain ⟨X40, hX40⟩ : ∃ X, X = X30.alloc (.cells #[.int .u8 0, .int .u8 0, .int .u8 0, .int .u8 0, .int .u8 0, .int .u8 0, .int .u8 0, .int .u8 0] 65) := ⟨_, rfl⟩
          rw [← hX40] at rm sS sJ rg rh bR hS40 ⊢
          clear hX40 hA hK K hS30
          refine wpAnyH_all (rs := [5]) (by kernel_rfl) (by simp) ?_
          intro i hi; simp only [List.mem_cons, List.not_mem_nil, or_false] at hi
          subst hi
          refine wpOp_step rfl (fun K hK => ?_)
          go_simp
          with_reducible refine (HR.out X40 sS sJ).mono ?_
          rintro e v41 ⟨rfl, hB41⟩
          replace rm := rm.below hB41 rm.lt
          replace sS := sS.below hB41 sS.1
          replace sJ := sJ.below hB41 sJ.1
          replace rg := rg.below hB41 rg.lt
          replace rh := rh.below hB41 rh.lt
          replace bR := bR.trans (hB41.mono bR.size)
          have hS41 : (fun W' : World => Row W' w.heap.size 33 [.slice (some ⟨b, 0, none⟩) n cap, .slice (some ⟨g, 0, none⟩) m cap']) v41 := rm
          refine hK _ _ ⟨hS41, ?_⟩
          try simp only [Act.put, List.setIfInBounds_toArray, List.set_cons_zero, List.set_cons_succ]
          clear hB41 hK K hS40
          refine wpAnyH_all (rs := [8]) (by kernel_rfl) (by simp) ?_
          intro i hi; simp only [List.mem_cons, List.not_mem_nil, or_false] at hi
          subst hi
          refine wpOp_step rfl (fun K hK => ?_)
          go_simp
          with_reducible refine (HD.out v41 sS).mono ?_
          rintro e v42 ⟨rfl, hB42⟩
          replace rm := rm.below hB42 rm.lt
          replace sS := sS.below hB42 sS.1
          replace sJ := sJ.below hB42 sJ.1
          replace rg := rg.below hB42 rg.lt
          replace rh := rh.below hB42 rh.lt
          replace bR := bR.trans (hB42.mono bR.size)
          have hS42 : (fun W' : World => Row W' w.heap.size 33 [.slice (some ⟨b, 0, none⟩) n cap, .slice (some ⟨g, 0, none⟩) m cap']) v42 := rm
          refine hK _ _ ⟨hS42, ?_⟩
          try simp only [Act.put, List.setIfInBounds_toArray, List.set_cons_zero, List.set_cons_succ]
          clear hB42 hK K hS41
          refine wpAnyH_all (rs := [11]) (by kernel_rfl) (by simp) ?_
          intro i hi; simp only [List.mem_cons, List.not_mem_nil, or_false] at hi
          subst hi
          refine wpOp_step rfl (fun K hK => ?_)
          rw [if_pos (by kernel_rfl)]
          refine wp_store_mid 65 (.tmp 7) (.tmp 16) rfl (v1.heap.size) 0 ((rdV e zs [p0, p1, p2, p3, p4, p5, p6, p7] n) : List Value).toArray rfl rfl (rg.there 8 rfl) hd (all_oneCell_toArray (one_of8 (ints_rd _ _ _ _))) ?_
          replace rm := Row.setCells_other rm (Nat.ne_of_lt (Nat.lt_of_lt_of_le l_rm l_rg)) ((rdV e zs [p0, p1, p2, p3, p4, p5, p6, p7] n) : List Value) 0
          replace sS := sS.below (below_setCells (g := v1.heap.size) ((rdV e zs [p0, p1, p2, p3, p4, p5, p6, p7] n) : List Value) 0 v42 (Below.refl _ _) (Nat.le_refl _)) (Nat.lt_of_lt_of_le l_sS l_rg)
          replace sJ := sJ.below (below_setCells (g := v1.heap.size) ((rdV e zs [p0, p1, p2, p3, p4, p5, p6, p7] n) : List Value) 0 v42 (Below.refl _ _) (Nat.le_refl _)) (Nat.lt_of_lt_of_le l_sJ l_rg)
          replace rh := Row.setCells_other rh (Nat.ne_of_gt lt_rg_rh) ((rdV e zs [p0, p1, p2, p3, p4, p5, p6, p7] n) : List Value) 0
          replace rg := rg.setCells (ys := ((rdV e zs [p0, p1, p2, p3, p4, p5, p6, p7] n) : List Value)) rfl
          replace bR := below_setCells ((rdV e zs [p0, p1, p2, p3, p4, p5, p6, p7] n) : List Value) 0 _ bR (g := v1.heap.size) l_rg
          have hS43 : (fun W' : World => Row W' w.heap.size 33 [.slice (some ⟨b, 0, none⟩) n cap, .slice (some ⟨g, 0, none⟩) m cap']) (v42.setCells (v1.heap.size) 0 ((rdV e zs [p0, p1, p2, p3, p4, p5, p6, p7] n) : List Value)) := rm
          refine hK _ _ ⟨hS43, ?_⟩
          try simp only [Act.put, List.setIfInBounds_toArray, List.set_cons_zero, List.set_cons_succ]
          obtain ⟨X43, hX43⟩ : ∃ X, X = v42.setCells (v1.heap.size) 0 ((rdV e zs [p0, p1, p2, p3, p4, p5, p6, p7] n) : List Value) := ⟨_, rfl⟩
          rw [← hX43] at rm sS sJ rg rh bR hS43 ⊢
          clear hX43 hK K hS42
          refine wpAnyH_all (rs := [12]) (by kernel_rfl) (by simp) ?_
          intro i hi; simp only [List.mem_cons, List.not_mem_nil, or_false] at hi
          subst hi
          refine wpOp_step rfl (fun K hK => ?_)
          rw [if_pos (by kernel_rfl)]
          refine wp_store_mid 65 (.tmp 8) (.tmp 19) rfl (X30.heap.size) 0 ([.int .u8 c0, .int .u8 c1, .int .u8 c2, .int .u8 c3, .int .u8 c4, .int .u8 c5, .int .u8 c6, .int .u8 c7] : List Value).toArray rfl rfl (rh.there 8 rfl) hd (all_oneCell_toArray (one_of8 ints8)) ?_
          replace rm := Row.setCells_other rm (Nat.ne_of_lt (Nat.lt_of_lt_of_le l_rm l_rh)) ([.int .u8 c0, .int .u8 c1, .int .u8 c2, .int .u8 c3, .int .u8 c4, .int .u8 c5, .int .u8 c6, .int .u8 c7] : List Value) 0
          replace sS := sS.below (below_setCells (g := X30.heap.size) ([.int .u8 c0, .int .u8 c1, .int .u8 c2, .int .u8 c3, .int .u8 c4, .int .u8 c5, .int .u8 c6, .int .u8 c7] : List Value) 0 X43 (Below.refl _ _) (Nat.le_refl _)) (Nat.lt_of_lt_of_le l_sS l_rh)
          replace sJ := sJ.below (below_setCells (g := X30.heap.size) ([.int .u8 c0, .int .u8 c1, .int .u8 c2, .int .u8 c3, .int .u8 c4, .int .u8 c5, .int .u8 c6, .int .u8 c7] : List Value) 0 X43 (Below.refl _ _) (Nat.le_refl _)) (Nat.lt_of_lt_of_le l_sJ l_rh)
          replace rg := Row.setCells_other rg (Nat.ne_of_lt lt_rg_rh) ([.int .u8 c0, .int .u8 c1, .int .u8 c2, .int .u8 c3, .int .u8 c4, .int .u8 c5, .int .u8 c6, .int .u8 c7] : List Value) 0
          replace rh := rh.setCells (ys := ([.int .u8 c0, .int .u8 c1, .int .u8 c2, .int .u8 c3, .int .u8 c4, .int .u8 c5, .int .u8 c6, .int .u8 c7] : List Value)) rfl
          replace bR := below_setCells ([.int .u8 c0, .int .u8 c1, .int .u8 c2, .int .u8 c3, .int .u8 c4, .int .u8 c5, .int .u8 c6, .int .u8 c7] : List Value) 0 _ bR (g := X30.heap.size) l_rh
          have hS44 : (fun W' : World => Row W' w.heap.size 33 [.slice (some ⟨b, 0, none⟩) n cap, .slice (some ⟨g, 0, none⟩) m cap']) (X43.setCells (X30.heap.size) 0 ([.int .u8 c0, .int .u8 c1, .int .u8 c2, .int .u8 c3, .int .u8 c4, .int .u8 c5, .int .u8 c6, .int .u8 c7] : List Value)) := rm
          refine hK _ _ ⟨hS44, ?_⟩
          try simp only [Act.put, List.setIfInBounds_toArray, List.set_cons_zero, List.set_cons_succ]
          obtain ⟨X44, hX44⟩ : ∃ X, X = X43.setCells (X30.heap.size) 0 ([.int .u8 c0, .int .u8 c1, .int .u8 c2, .int .u8 c3, .int .u8 c4, .int .u8 c5, .int .u8 c6, .int .u8 c7] : List Value) := ⟨_, rfl⟩
          rw [← hX44] at rm sS sJ rg rh bR hS44 ⊢
          clear hX44 hK K hS43
          refine wpAnyH_done (by kernel_rfl) ?_ _
          go_wp2_with fail
          go_meet
          exact ⟨v1.heap.size, X30.heap.size, _, rfl, rfl, rfl, rg, rh, rm, bW0.trans (bR.mono bW0.size)⟩
      · refine wpOp_step rfl (fun K hK => ?_)
        go_simp
        have rh := Row.new v1 65 [.int .u8 0, .int .u8 0, .int .u8 0, .int .u8 0, .int .u8 0, .int .u8 0, .int .u8 0, .int .u8 0]
        have hA : Below v1.heap.size v1 (v1.alloc (.cells #[.int .u8 0, .int .u8 0, .int .u8 0, .int .u8 0, .int .u8 0, .int .u8 0, .int .u8 0, .int .u8 0] 65)) := (Below.refl _ _).alloc (Nat.le_refl _) _
        replace rm := rm.below hA rm.lt
        replace sS := sS.below hA sS.1
        replace sJ := sJ.below hA sJ.1
        have l_rh := bR.size
        replace bR := bR.trans (hA.mono bR.size)
        have hS45 : (fun W' : World => Row W' w.heap.size 33 [.slice (some ⟨b, 0, none⟩) n cap, .slice (some ⟨g, 0, none⟩) m cap']) (v1.alloc (.cells #[.int .u8 0, .int .u8 0, .int .u8 0, .int .u8 0, .int .u8 0, .int .u8 0, .int .u8 0, .int .u8 0] 65)) := rm
        refine hK _ _ ⟨hS45, ?_⟩
        try simp only [Act.put, List.setIfInBounds_toArray, List.set_cons_zero, List.set_cons_succ]
        obtain ⟨X45, hX45⟩ : ∃ X, X = v1.alloc (.cells #[.int .u8 0, .int .u8 0, .int .u8 0, .int .u8 0, .int .u8 0, .int .u8 0, .int .u8 0, .int .u8 0] 65) := ⟨_, rfl⟩
        rw [← hX45] at rm sS sJ rh bR hS45 ⊢
        clear hX45 hA hK K hS1
        refine wpAnyH_all (rs := [5, 9]) (by kernel_rfl) (by simp) ?_
        intro i hi; simp only [List.mem_cons, List.not_mem_nil, or_false] at hi
        rcases hi with rfl | rfl
        · refine wpOp_step rfl (fun K hK => ?_)
          go_simp
          with_reducible refine (HR.out X45 sS sJ).mono ?_
          rintro e v46 ⟨rfl, hB46⟩
          replace rm := rm.below hB46 rm.lt
          replace sS := sS.below hB46 sS.1
          replace sJ := sJ.below hB46 sJ.1
          replace rh := rh.below hB46 rh.lt
          replace bR := bR.trans (hB46.mono bR.size)
          have hS46 : (fun W' : World => Row W' w.heap.size 33 [.slice (some ⟨b, 0, none⟩) n cap, .slice (some ⟨g, 0, none⟩) m cap']) v46 := rm
          refine hK _ _ ⟨hS46, ?_⟩
          try simp only [Act.put, List.setIfInBounds_toArray, List.set_cons_zero, List.set_cons_succ]
          clear hB46 hK K hS45
          refine wpAnyH_all (rs := [8, 9]) (by kernel_rfl) (by simp) ?_
          intro i hi; simp only [List.mem_cons, List.not_mem_nil, or_false] at hi
          rcases hi with rfl | rfl
          · refine wpOp_step rfl (fun K hK => ?_)
            go_simp
            with_reducible refine (HD.out v46 sS).mono ?_
            rintro e v47 ⟨rfl, hB47⟩
            replace rm := rm.below hB47 rm.lt
            replace sS := sS.below hB47 sS.1
            replace sJ := sJ.below hB47 sJ.1
            replace rh := rh.below hB47 rh.lt
            replace bR := bR.trans (hB47.mono bR.size)
            have hS47 : (fun W' : World => Row W' w.heap.size 33 [.slice (some ⟨b, 0, none⟩) n cap, .slice (some ⟨g, 0, none⟩) m cap']) v47 := rm
            refine hK _ _ ⟨hS47, ?_⟩
            try simp only [Act.put, List.setIfInBounds_toArray, List.set_cons_zero, List.set_cons_succ]
            clear hB47 hK K hS46
            refine wpAnyH_all (rs := [9]) (by kernel_rfl) (by simp) ?_
            intro i hi; simp only [List.mem_cons, List.not_mem_nil, or_false] at hi
            subst hi
            refine wpOp_step rfl (fun K hK => ?_)
            go_simp
            have lt_rh_rg : v1.heap.size < v47.heap.size := rh.lt
            have rg := Row.new v47 65 [.int .u8 0, .int .u8 0, .int .u8 0, .int .u8 0, .int .u8 0, .int .u8 0, .int .u8 0, .int .u8 0]
            have hA : Below v47.heap.size v47 (v47.alloc (.cells #[.int .u8 0, .int .u8 0, .int .u8 0, .int .u8 0, .int .u8 0, .int .u8 0, .int .u8 0, .int .u8 0] 65)) := (Below.refl _ _).alloc (Nat.le_refl _) _
            replace rm := rm.below hA rm.lt
            replace sS := sS.below hA sS.1
            replace sJ := sJ.below hA sJ.1
            replace rh := rh.below hA rh.lt
            have l_rg := bR.size
            replace bR := bR.trans (hA.mono bR.size)
            have hS48 : (fun W' : World => Row W' w.heap.size 33 [.slice (some ⟨b, 0, none⟩) n cap, .slice (some ⟨g, 0, none⟩) m cap']) (v47.alloc (.cells #[.int .u8 0, .int .u8 0, .int .u8 0, .int .u8 0, .int .u8 0, .int .u8 0, .int .u8 0, .int .u8 0] 65)) := rm
            refine hK _ _ ⟨hS48, ?_⟩
            try simp only [Act.put, List.setIfInBounds_toArray, List.set_cons_zero, List.set_cons_succ]
            obtain ⟨X48, hX48⟩ : ∃ X, X = v47.alloc (.cells #[.int .u8 0, .int .u8 0, .int .u8 0, .int .u8 0, .int .u8 0, .int .u8 0, .int .u8 0, .int .u8 0] 65) := ⟨_, rfl⟩
            rw [← hX48] at rm sS sJ rh rg bR hS48 ⊢
            clear hX48 hA hK K hS47
            refine wpAnyH_all (rs := [11]) (by kernel_rfl) (by simp) ?_
            intro i hi; simp only [List.mem_cons, List.not_mem_nil, or_false] at hi
            subst hi
            refine wpOp_step rfl (fun K hK => ?_)
            rw [if_pos (by kernel_rfl)]
            refine wp_store_mid 65 (.tmp 7) (.tmp 16) rfl (v47.heap.size) 0 ((rdV e zs [p0, p1, p2, p3, p4, p5, p6, p7] n) : List Value).toArray rfl rfl (rg.there 8 rfl) hd (all_oneCell_toArray (one_of8 (ints_rd _ _ _ _))) ?_
            replace rm := Row.setCells_other rm (Nat.ne_of_lt (Nat.lt_of_lt_of_le l_rm l_rg)) ((rdV e zs [p0, p1, p2, p3, p4, p5, p6, p7] n) : List Value) 0
            replace sS := sS.below (below_setCells (g := v47.heap.size) ((rdV e zs [p0, p1, p2, p3, p4, p5, p6, p7] n) : List Value) 0 X48 (Below.refl _ _) (Nat.le_refl _)) (Nat.lt_of_lt_of_le l_sS l_rg)
            replace sJ := sJ.below (below_setCells (g := v47.heap.size) ((rdV e zs [p0, p1, p2, p3, p4, p5, p6, p7] n) : List Value) 0 X48 (Below.refl _ _) (Nat.le_refl _)) (Nat.lt_of_lt_of_le l_sJ l_rg)
            replace rh := Row.setCells_other rh (Nat.ne_of_lt lt_rh_rg) ((rdV e zs [p0, p1, p2, p3, p4, p5, p6, p7] n) : List Value) 0
            replace rg := rg.setCells (ys := ((rdV e zs [p0, p1, p2, p3, p4, p5, p6, p7] n) : List Value)) rfl
            replace bR := below_setCells ((rdV e zs [p0, p1, p2, p3, p4, p5, p6, p7] n) : List Value) 0 _ bR (g := v47.heap.size) l_rg
            have hS49 : (fun W' : World => Row W' w.heap.size 33 [.slice (some ⟨b, 0, none⟩) n cap, .slice (some ⟨g, 0, none⟩) m cap']) (X48.setCells (v47.heap.size) 0 ((rdV e zs [p0, p1, p2, p3, p4, p5, p6, p7] n) : List Value)) := rm
            refine hK _ _ ⟨hS49, ?_⟩
            try simp only [Act.put, List.setIfInBounds_toArray, List.set_cons_zero, List.set_cons_succ]
            obtain ⟨X49, hX49⟩ : ∃ X, X = X48.setCells (v47.heap.size) 0 ((rdV e zs [p0, p1, p2, p3, p4, p5, p6, p7] n) : List Value) := ⟨_, rfl⟩
            rw [← hX49] at rm sS sJ rh rg bR hS49 ⊢
            clear hX49 hK K hS48
            refine wpAnyH_all (rs := [12]) (by kernel_rfl) (by simp) ?_
            intro i hi; simp only [List.mem_cons, List.not_mem_nil, or_false] at hi
            subst hi
            refine wpOp_step rfl (fun K hK => ?_)
            rw [if_pos (by kernel_rfl)]
            refine wp_store_mid 65 (.tmp 8) (.tmp 19) rfl (v1.heap.size) 0 ([.int .u8 c0, .int .u8 c1, .int .u8 c2, .int .u8 c3, .int .u8 c4, .int .u8 c5, .int .u8 c6, .int .u8 c7] : List Value).toArray rfl rfl (rh.there 8 rfl) hd (all_oneCell_toArray (one_of8 ints8)) ?_
            replace rm := Row.setCells_other rm (Nat.ne_of_lt (Nat.lt_of_lt_of_le l_rm l_rh)) ([.int .u8 c0, .int .u8 c1, .int .u8 c2, .int .u8 c3, .int .u8 c4, .int .u8 c5, .int .u8 c6, .int .u8 c7] : List Value) 0
            replace sS := sS.below (below_setCells (g := v1.heap.size) ([.int .u8 c0, .int .u8 c1, .int .u8 c2, .int .u8 c3, .int .u8 c4, .int .u8 c5, .int .u8 c6, .int .u8 c7] : List Value) 0 X49 (Below.refl _ _) (Nat.le_refl _)) (Nat.lt_of_lt_of_le l_sS l_rh)
            replace sJ := sJ.below (below_setCells (g := v1.heap.size) ([.int .u8 c0, .int .u8 c1, .int .u8 c2, .int .u8 c3, .int .u8 c4, .int .u8 c5, .int .u8 c6, .int .u8 c7] : List Value) 0 X49 (Below.refl _ _) (Nat.le_refl _)) (Nat.lt_of_lt_of_le l_sJ l_rh)
            replace rg := Row.setCells_other rg (Nat.ne_of_gt lt_rh_rg) ([.int .u8 c0, .int .u8 c1, .int .u8 c2, .int .u8 c3, .int .u8 c4, .int .u8 c5, .int .u8 c6, .int .u8 c7] : List Value) 0
            replace rh := rh.setCells (ys := ([.int .u8 c0, .int .u8 c1, .int .u8 c2, .int .u8 c3, .int .u8 c4, .int .u8 c5, .int .u8 c6, .int .u8 c7] : List Value)) rfl
            replace bR := below_setCells ([.int .u8 c0, .int .u8 c1, .int .u8 c2, .int .u8 c3, .int .u8 c4, .int .u8 c5, .int .u8 c6, .int .u8 c7] : List Value) 0 _ bR (g := v1.heap.size) l_rh
            have hS50 : (fun W' : World => Row W' w.heap.size 33 [.slice (some ⟨b, 0, none⟩) n cap, .slice (some ⟨g, 0, none⟩) m cap']) (X49.setCells (v1.heap.size) 0 ([.int .u8 c0, .int .u8 c1, .int .u8 c2, .int .u8 c3, .int .u8 c4, .int .u8 c5, .int .u8 c6, .int .u8 c7] : List Value)) := rm
            refine hK _ _ ⟨hS50, ?_⟩
            try simp only [Act.put, List.setIfInBounds_toArray, List.set_cons_zero, List.set_cons_succ]
            obtain ⟨X50, hX50⟩ : ∃ X, X = X49.setCells (v1.heap.size) 0 ([.int .u8 c0, .int .u8 c1, .int .u8 c2, .int .u8 c3, .int .u8 c4, .int .u8 c5, .int .u8 c6, .int .u8 c7] : List Value) := ⟨_, rfl⟩
            rw [← hX50] at rm sS sJ rh rg bR hS50 ⊢
            clear hX50 hK K hS49
            refine wpAnyH_done (by kernel_rfl) ?_ _
            go_wp2_with fail
            go_meet
            exact ⟨v47.heap.size, v1.heap.size, _, rfl, rfl, rfl, rg, rh, rm, bW0.trans (bR.mono bW0.size)⟩
          · refine wpOp_step rfl (fun K hK => ?_)
            go_simp
            have lt_rh_rg : v1.heap.size < v46.heap.size := rh.lt
            have rg := Row.new v46 65 [.int .u8 0, .int .u8 0, .int .u8 0, .int .u8 0, .int .u8 0, .int .u8 0, .int .u8 0, .int .u8 0]
            have hA : Below v46.heap.size v46 (v46.alloc (.cells #[.int .u8 0, .int .u8 0, .int .u8 0, .int .u8 0, .int .u8 0, .int .u8 0, .int .u8 0, .int .u8 0] 65)) := (Below.refl _ _).alloc (Nat.le_refl _) _
            replace rm := rm.below hA rm.lt
            replace sS := sS.below hA sS.1
            replace sJ := sJ.below hA sJ.1
            replace rh := rh.below hA rh.lt
            have l_rg := bR.size
            replace bR := bR.trans (hA.mono bR.size)
            have hS51 : (fun W' : World => Row W' w.heap.size 33 [.slice (some ⟨b, 0, none⟩) n cap, .slice (some ⟨g, 0, none⟩) m cap']) (v46.alloc (.cells #[.int .u8 0, .int .u8 0, .int .u8 0, .int .u8 0, .int .u8 0, .int .u8 0, .int .u8 0, .int .u8 0] 65)) := rm
            refine hK _ _ ⟨hS51, ?_⟩
            try simp only [Act.put, List.setIfInBounds_toArray, List.set_cons_zero, List.set_cons_succ]
            obtain ⟨X51, hX51⟩ : ∃ X, X = v46.alloc (.cells #[.int .u8 0, .int .u8 0, .int .u8 0, .int .u8 0, .int .u8 0, .int .u8 0, .int .u8 0, .int .u8 0] 65) := ⟨_, rfl⟩
            rw [← hX51] at rm sS sJ rh rg bR hS51 ⊢
            clear hX51 hA hK K hS46
            refine wpAnyH_all (rs := [8]) (by kernel_rfl) (by simp) ?_
            intro i hi; simp only [List.mem_cons, List.not_mem_nil, or_false] at hi
            subst hi
            refine wpOp_step rfl (fun K hK => ?_)
            go_simp
            with_reducible refine (HD.out X51 sS).mono ?_
            rintro e v52 ⟨rfl, hB52⟩
            replace rm := rm.below hB52 rm.lt
            replace sS := sS.below hB52 sS.1
            replace sJ := sJ.below hB52 sJ.1
            replace rh := rh.below hB52 rh.lt
            replace rg := rg.below hB52 rg.lt
            replace bR := bR.trans (hB52.mono bR.size)
            have hS52 : (fun W' : World => Row W' w.heap.size 33 [.slice (some ⟨b, 0, none⟩) n cap, .slice (some ⟨g, 0, none⟩) m cap']) v52 := rm
            refine hK _ _ ⟨hS52, ?_⟩
            try simp only [Act.put, List.setIfInBounds_toArray, List.set_cons_zero, List.set_cons_succ]
            clear hB52 hK K hS51
            refine wpAnyH_all (rs := [11]) (by kernel_rfl) (by simp) ?_
            intro i hi; simp only [List.mem_cons, List.not_mem_nil, or_false] at hi
            subst hi
            refine wpOp_step rfl (fun K hK => ?_)
            rw [if_pos (by kernel_rfl)]
            refine wp_store_mid 65 (.tmp 7) (.tmp 16) rfl (v46.heap.size) 0 ((rdV e zs [p0, p1, p2, p3, p4, p5, p6, p7] n) : List Value).toArray rfl rfl (rg.there 8 rfl) hd (all_oneCell_toArray (one_of8 (ints_rd _ _ _ _))) ?_
            replace rm := Row.setCells_other rm (Nat.ne_of_lt (Nat.lt_of_lt_of_le l_rm l_rg)) ((rdV e zs [p0, p1, p2, p3, p4, p5, p6, p7] n) : List Value) 0
            replace sS := sS.below (below_setCells (g := v46.heap.size) ((rdV e zs [p0, p1, p2, p3, p4, p5, p6, p7] n) : List Value) 0 v52 (Below.refl _ _) (Nat.le_refl _)) (Nat.lt_of_lt_of_le l_sS l_rg)
            replace sJ := sJ.below (below_setCells (g := v46.heap.size) ((rdV e zs [p0, p1, p2, p3, p4, p5, p6, p7] n) : List Value) 0 v52 (Below.refl _ _) (Nat.le_refl _)) (Nat.lt_of_lt_of_le l_sJ l_rg)
            replace rh := Row.setCells_other rh (Nat.ne_of_lt lt_rh_rg) ((rdV e zs [p0, p1, p2, p3, p4, p5, p6, p7] n) : List Value) 0
            replace rg := rg.setCells (ys := ((rdV e zs [p0, p1, p2, p3, p4, p5, p6, p7] n) : List Value)) rfl
            replace bR := below_setCells ((rdV e zs [p0, p1, p2, p3, p4, p5, p6, p7] n) : List Value) 0 _ bR (g := v46.heap.size) l_rg
            have hS53 : (fun W' : World => Row W' w.heap.size 33 [.slice (some ⟨b, 0, none⟩) n cap, .slice (some ⟨g, 0, none⟩) m cap']) (v52.setCells (v46.heap.size) 0 ((rdV e zs [p0, p1, p2, p3, p4, p5, p6, p7] n) : List Value)) := rm
            refine hK _ _ ⟨hS53, ?_⟩
            try simp only [Act.put, List.setIfInBounds_toArray, List.set_cons_zero, List.set_cons_succ]
            obtain ⟨X53, hX53⟩ : ∃ X, X = v52.setCells (v46.heap.size) 0 ((rdV e zs [p0, p1, p2, p3, p4, p5, p6, p7] n) : List Value) := ⟨_, rfl⟩
            rw [← hX53] at rm sS sJ rh rg bR hS53 ⊢
            clear hX53 hK K hS52
            refine wpAnyH_all (rs := [12]) (by kernel_rfl) (by simp) ?_
            intro i hi; simp only [List.mem_cons, List.not_mem_nil, or_false] at hi
            subst hi
            refine wpOp_step rfl (fun K hK => ?_)
            rw [if_pos (by kernel_rfl)]
            refine wp_store_mid 65 (.tmp 8) (.tmp 19) rfl (v1.heap.size) 0 ([.int .u8 c0, .int .u8 c1, .int .u8 c2, .int .u8 c3, .int .u8 c4, .int .u8 c5, .int .u8 c6, .int .u8 c7] : List Value).toArray rfl rfl (rh.there 8 rfl) hd (all_oneCell_toArray (one_of8 ints8)) ?_
            replace rm := Row.setCells_other rm (Nat.ne_of_lt (Nat.lt_of_lt_of_le l_rm l_rh)) ([.int .u8 c0, .int .u8 c1, .int .u8 c2, .int .u8 c3, .int .u8 c4, .int .u8 c5, .int .u8 c6, .int .u8 c7] : List Value) 0
            replace sS := sS.below (below_setCells (g := v1.heap.size) ([.int .u8 c0, .int .u8 c1, .int .u8 c2, .int .u8 c3, .int .u8 c4, .int .u8 c5, .int .u8 c6, .int .u8 c7] : List Value) 0 X53 (Below.refl _ _) (Nat.le_refl _)) (Nat.lt_of_lt_of_le l_sS l_rh)
            replace sJ := sJ.below (below_setCells (g := v1.heap.size) ([.int .u8 c0, .int .u8 c1, .int .u8 c2, .int .u8 c3, .int .u8 c4, .int .u8 c5, .int .u8 c6, .int .u8 c7] : List Value) 0 X53 (Below.refl _ _) (Nat.le_refl _)) (Nat.lt_of_lt_of_le l_sJ l_rh)
            replace rg := Row.setCells_other rg (Nat.ne_of_gt lt_rh_rg) ([.int .u8 c0, .int .u8 c1, .int .u8 c2, .int .u8 c3, .int .u8 c4, .int .u8 c5, .int .u8 c6, .int .u8 c7] : List Value) 0
            replace rh := rh.setCells (ys := ([.int .u8 c0, .int .u8 c1, .int .u8 c2, .int .u8 c3, .int .u8 c4, .int .u8 c5, .int .u8 c6, .int .u8 c7] : List Value)) rfl
            replace bR := below_setCells ([.int .u8 c0, .int .u8 c1, .int .u8 c2, .int .u8 c3, .int .u8 c4, .int .u8 c5, .int .u8 c6, .int .u8 c7] : List Value) 0 _ bR (g := v1.heap.size) l_rh
            have hS54 : (fun W' : World => Row W' w.heap.size 33 [.slice (some ⟨b, 0, none⟩) n cap, .slice (some ⟨g, 0, none⟩) m cap']) (X53.setCells (v1.heap.size) 0 ([.int .u8 c0, .int .u8 c1, .int .u8 c2, .int .u8 c3, .int .u8 c4, .int .u8 c5, .int .u8 c6, .int .u8 c7] : List Value)) := rm
            refine hK _ _ ⟨hS54, ?_⟩
            try simp only [Act.put, List.setIfInBounds_toArray, List.set_cons_zero, List.set_cons_succ]
            obtain ⟨X54, hX54⟩ : ∃ X, X = X53.setCells (v1.heap.size) 0 ([.int .u8 c0, .int .u8 c1, .int .u8 c2, .int .u8 c3, .int .u8 c4, .int .u8 c5, .int .u8 c6, .int .u8 c7] : List Value) := ⟨_, rfl⟩
            rw [← hX54] at rm sS sJ rh rg bR hS54 ⊢
            clear hX54 hK K hS53
            refine wpAnyH_done (by kernel_rfl) ?_ _
            go_wp2_with fail
            go_meet
            exact ⟨v46.heap.size, v1.heap.size, _, rfl, rfl, rfl, rg, rh, rm, bW0.trans (bR.mono bW0.size)⟩
        · refine wpOp_step rfl (fun K hK => ?_)
          go_simp
          have lt_rh_rg : v1.heap.size < X45.heap.size := rh.lt
          have rg := Row.new X45 65 [.int .u8 0, .int .u8 0, .int .u8 0, .int .u8 0, .int .u8 0, .int .u8 0, .int .u8 0, .int .u8 0]
          have hA : Below X45.heap.size X45 (X45.alloc (.cells #[.int .u8 0, .int .u8 0, .int .u8 0, .int .u8 0, .int .u8 0, .int .u8 0, .int .u8 0, .int .u8 0] 65)) := (Below.refl _ _).alloc (Nat.le_refl _) _
          replace rm := rm.below hA rm.lt
          replace sS := sS.below hA sS.1
          replace sJ := sJ.below hA sJ.1
          replace rh := rh.below hA rh.lt
          have l_rg := bR.size
          replace bR := bR.trans (hA.mono bR.size)
          have hS55 : (fun W' : World => Row W' w.heap.size 33 [.slice (some ⟨b, 0, none⟩) n cap, .slice (some ⟨g, 0, none⟩) m cap']) (X45.alloc (.cells #[.int .u8 0, .int .u8 0, .int .u8 0, .int .u8 0, .int .u8 0, .int .u8 0, .int .u8 0, .int .u8 0] 65)) := rm
          refine hK _ _ ⟨hS55, ?_⟩
          try simp only [Act.put, List.setIfInBounds_toArray, List.set_cons_zero, List.set_cons_succ]
          obtain ⟨X55, hX55⟩ : ∃ X, X = X45.alloc (.cells #[.int .u8 0, .int .u8 0, .int .u8 0, .int .u8 0, .int .u8 0, .int .u8 0, .int .u8 0, .int .u8 0] 65) := ⟨_, rfl⟩
          rw [← hX55] at rm sS sJ rh rg bR hS55 ⊢
          clear hX55 hA hK K hS45
          refine wpAnyH_all (rs := [5]) (by kernel_rfl) (by simp) ?_
          intro i hi; simp only [List.mem_cons, List.not_mem_nil, or_false] at hi
          subst hi
          refine wpOp_step rfl (fun K hK => ?_)
          go_simp
          with_reducible refine (HR.out X55 sS sJ).mono ?_
          rintro e v56 ⟨rfl, hB56⟩
          replace rm := rm.below hB56 rm.lt
          replace sS := sS.below hB56 sS.1
          replace sJ := sJ.below hB56 sJ.1
          replace rh := rh.below hB56 rh.lt
          replace rg := rg.below hB56 rg.lt
          replace bR := bR.trans (hB56.mono bR.size)
          have hS56 : (fun W' : World => Row W' w.heap.size 33 [.slice (some ⟨b, 0, none⟩) n cap, .slice (some ⟨g, 0, none⟩) m cap']) v56 := rm
          refine hK _ _ ⟨hS56, ?_⟩
          try simp only [Act.put, List.setIfInBounds_toArray, List.set_cons_zero, List.set_cons_succ]
          clear hB56 hK K hS55
          refine wpAnyH_all (rs := [8]) (by kernel_rfl) (by simp) ?_
          intro i hi; simp only [List.mem_cons, List.not_mem_nil, or_false] at hi
          subst hi
          refine wpOp_step rfl (fun K hK => ?_)
          go_simp
          with_reducible refine (HD.out v56 sS).mono ?_
          rintro e v57 ⟨rfl, hB57⟩
          replace rm := rm.below hB57 rm.lt
          replace sS := sS.below hB57 sS.1
          replace sJ := sJ.below hB57 sJ.1
          replace rh := rh.below hB57 rh.lt
          replace rg := rg.below hB57 rg.lt
          replace bR := bR.trans (hB57.mono bR.size)
          have hS57 : (fun W' : World => Row W' w.heap.size 33 [.slice (some ⟨b, 0, none⟩) n cap, .slice (some ⟨g, 0, none⟩) m cap']) v57 := rm
          refine hK _ _ ⟨hS57, ?_⟩
          try simp only [Act.put, List.setIfInBounds_toArray, List.set_cons_zero, List.set_cons_succ]
          clear hB57 hK K hS56
          refine wpAnyH_all (rs := [11]) (by kernel_rfl) (by simp) ?_
          intro i hi; simp only [List.mem_cons, List.not_mem_nil, or_false] at hi
          subst hi
          refine wpOp_step rfl (fun K hK => ?_)
          rw [if_pos (by kernel_rfl)]
          refine wp_store_mid 65 (.tmp 7) (.tmp 16) rfl (X45.heap.size) 0 ((rdV e zs [p0, p1, p2, p3, p4, p5, p6, p7] n) : List Value).toArray rfl rfl (rg.there 8 rfl) hd (all_oneCell_toArray (one_of8 (ints_rd _ _ _ _))) ?_
          replace rm := Row.setCells_other rm (Nat.ne_of_lt (Nat.lt_of_lt_of_le l_rm l_rg)) ((rdV e zs [p0, p1, p2, p3, p4, p5, p6, p7] n) : List Value) 0
          replace sS := sS.below (below_setCells (g := X45.heap.size) ((rdV e zs [p0, p1, p2, p3, p4, p5, p6, p7] n) : List Value) 0 v57 (Below.refl _ _) (Nat.le_refl _)) (Nat.lt_of_lt_of_le l_sS l_rg)
          replace sJ := sJ.below (below_setCells (g := X45.heap.size) ((rdV e zs [p0, p1, p2, p3, p4, p5, p6, p7] n) : List Value) 0 v57 (Below.refl _ _) (Nat.le_refl _)) (Nat.lt_of_lt_of_le l_sJ l_rg)
          replace rh := Row.setCells_other rh (Nat.ne_of_lt lt_rh_rg) ((rdV e zs [p0, p1, p2, p3, p4, p5, p6, p7] n) : List Value) 0
          replace rg := rg.setCells (ys := ((rdV e zs [p0, p1, p2, p3, p4, p5, p6, p7] n) : List Value)) rfl
          replace bR := below_setCells ((rdV e zs [p0, p1, p2, p3, p4, p5, p6, p7] n) : List Value) 0 _ bR (g := X45.heap.size) l_rg
          have hS58 : (fun W' : World => Row W' w.heap.size 33 [.slice (some ⟨b, 0, none⟩) n cap, .slice (some ⟨g, 0, none⟩) m cap']) (v57.setCells (X45.heap.size) 0 ((rdV e zs [p0, p1, p2, p3, p4, p5, p6, p7] n) : List Value)) := rm
          refine hK _ _ ⟨hS58, ?_⟩
          try simp only [Act.put, List.setIfInBounds_toArray, List.set_cons_zero, List.set_cons_succ]
          obtain ⟨X58, hX58⟩ : ∃ X, X = v57.setCells (X45.heap.size) 0 ((rdV e zs [p0, p1, p2, p3, p4, p5, p6, p7] n) : List Value) := ⟨_, rfl⟩
          rw [← hX58] at rm sS sJ rh rg bR hS58 ⊢
          clear hX58 hK K hS57
          refine wpAnyH_all (rs := [12]) (by kernel_rfl) (by simp) ?_
          intro i hi; simp only [List.mem_cons, List.not_mem_nil, or_false] at hi
          subst hi
          refine wpOp_step rfl (fun K hK => ?_)
          rw [if_pos (by kernel_rfl)]
          refine wp_store_mid 65 (.tmp 8) (.tmp 19) rfl (v1.heap.size) 0 ([.int .u8 c0, .int .u8 c1, .int .u8 c2, .int .u8 c3, .int .u8 c4, .int .u8 c5, .int .u8 c6, .int .u8 c7] : List Value).toArray rfl rfl (rh.there 8 rfl) hd (all_oneCell_toArray (one_of8 ints8)) ?_
          replace rm := Row.setCells_other rm (Nat.ne_of_lt (Nat.lt_of_lt_of_le l_rm l_rh)) ([.int .u8 c0, .int .u8 c1, .int .u8 c2, .int .u8 c3, .int .u8 c4, .int .u8 c5, .int .u8 c6, .int .u8 c7] : List Value) 0
          replace sS := sS.below (below_setCells (g := v1.heap.size) ([.int .u8 c0, .int .u8 c1, .int .u8 c2, .int .u8 c3, .int .u8 c4, .int .u8 c5, .int .u8 c6, .int .u8 c7] : List Value) 0 X58 (Below.refl _ _) (Nat.le_refl _)) (Nat.lt_of_lt_of_le l_sS l_rh)
          replace sJ := sJ.below (below_setCells (g := v1.heap.size) ([.int .u8 c0, .int .u8 c1, .int .u8 c2, .int .u8 c3, .int .u8 c4, .int .u8 c5, .int .u8 c6, .int .u8 c7] : List Value) 0 X58 (Below.refl _ _) (Nat.le_refl _)) (Nat.lt_of_lt_of_le l_sJ l_rh)
          replace rg := Row.setCells_other rg (Nat.ne_of_gt lt_rh_rg) ([.int .u8 c0, .int .u8 c1, .int .u8 c2, .int .u8 c3, .int .u8 c4, .int .u8 c5, .int .u8 c6, .int .u8 c7] : List Value) 0
          replace rh := rh.setCells (ys := ([.int .u8 c0, .int .u8 c1, .int .u8 c2, .int .u8 c3, .int .u8 c4, .int .u8 c5, .int .u8 c6, .int .u8 c7] : List Value)) rfl
          replace bR := below_setCells ([.int .u8 c0, .int .u8 c1, .int .u8 c2, .int .u8 c3, .int .u8 c4, .int .u8 c5, .int .u8 c6, .int .u8 c7] : List Value) 0 _ bR (g := v1.heap.size) l_rh
          have hS59 : (fun W' : World => Row W' w.heap.size 33 [.slice (some ⟨b, 0, none⟩) n cap, .slice (some ⟨g, 0, none⟩) m cap']) (X58.setCells (v1.heap.size) 0 ([.int .u8 c0, .int .u8 c1, .int .u8 c2, .int .u8 c3, .int .u8 c4, .int .u8 c5, .int .u8 c6, .int .u8 c7] : List Value)) := rm
          refine hK _ _ ⟨hS59, ?_⟩
          try simp only [Act.put, List.setIfInBounds_toArray, List.set_cons_zero, List.set_cons_succ]
          obtain ⟨X59, hX59⟩ : ∃ X, X = X58.setCells (v1.heap.size) 0 ([.int .u8 c0, .int .u8 c1, .int .u8 c2, .int .u8 c3, .int .u8 c4, .int .u8 c5, .int .u8 c6, .int .u8 c7] : List Value) := ⟨_, rfl⟩
          rw [← hX59] at rm sS sJ rh rg bR hS59 ⊢
          clear hX59 hK K hS58
          refine wpAnyH_done (by kernel_rfl) ?_ _
          go_wp2_with fail
          go_meet
          exact ⟨X45.heap.size, v1.heap.size, _, rfl, rfl, rfl, rg, rh, rm, bW0.trans (bR.mono bW0.size)⟩
    · refine wpOp_step rfl (fun K hK => ?_)
      go_simp
      have rg := Row.new W0 65 [.int .u8 0, .int .u8 0, .int .u8 0, .int .u8 0, .int .u8 0, .int .u8 0, .int .u8 0, .int .u8 0]
      have hA : Below W0.heap.size W0 (W0.alloc (.cells #[.int .u8 0, .int .u8 0, .int .u8 0, .int .u8 0, .int .u8 0, .int .u8 0, .int .u8 0, .int .u8 0] 65)) := (Below.refl _ _).alloc (Nat.le_refl _) _
      replace rm := rm.below hA rm.lt
      replace sS := sS.below hA sS.1
      replace sJ := sJ.below hA sJ.1
      have l_rg := bR.size
      replace bR := bR.trans (hA.mono bR.size)
      have hS60 : (fun W' : World => Row W' w.heap.size 33 [.slice (some ⟨b, 0, none⟩) n cap, .slice (some ⟨g, 0, none⟩) m cap']) (W0.alloc (.cells #[.int .u8 0, .int .u8 0, .int .u8 0, .int .u8 0, .int .u8 0, .int .u8 0, .int .u8 0, .int .u8 0] 65)) := rm
      refine hK _ _ ⟨hS60, ?_⟩
      try simp only [Act.put, List.setIfInBounds_toArray, List.set_cons_zero, List.set_cons_succ]
      obtain ⟨X60, hX60⟩ : ∃ X, X = W0.alloc (.cells #[.int .u8 0, .int .u8 0, .int .u8 0, .int .u8 0, .int .u8 0, .int .u8 0, .int .u8 0, .int .u8 0] 65) := ⟨_, rfl⟩
      rw [← hX60] at rm sS sJ rg bR hS60 ⊢
      clear hX60 hA hK K hS0
      refine wpAnyH_all (rs := [3, 10]) (by kernel_rfl) (by simp) ?_
      intro i hi; simp only [List.mem_cons, List.not_mem_nil, or_false] at hi
      rcases hi with rfl | rfl
      · refine wpOp_step rfl (fun K hK => ?_)
        go_simp
        with_reducible refine (HP.out X60 sS sJ).mono ?_
        rintro e v61 ⟨rfl, hB61⟩
        replace rm := rm.below hB61 rm.lt
        replace sS := sS.below hB61 sS.1
        replace sJ := sJ.below hB61 sJ.1
        replace rg := rg.below hB61 rg.lt
        replace bR := bR.trans (hB61.mono bR.size)
        have hS61 : (fun W' : World => Row W' w.heap.size 33 [.slice (some ⟨b, 0, none⟩) n cap, .slice (some ⟨g, 0, none⟩) m cap']) v61 := rm
        refine hK _ _ ⟨hS61, ?_⟩
        try simp only [Act.put, List.setIfInBounds_toArray, List.set_cons_zero, List.set_cons_succ]
        clear hB61 hK K hS60
        refine wpAnyH_all (rs := [5, 10]) (by kernel_rfl) (by simp) ?_
        intro i hi; simp only [List.mem_cons, List.not_mem_nil, or_false] at hi
        rcases hi with rfl | rfl
        · refine wpOp_step rfl (fun K hK => ?_)
          go_simp
          with_reducible refine (HR.out v61 sS sJ).mono ?_
          rintro e v62 ⟨rfl, hB62⟩
          replace rm := rm.below hB62 rm.lt
          replace sS := sS.below hB62 sS.1
          replace sJ := sJ.below hB62 sJ.1
          replace rg := rg.below hB62 rg.lt
          replace bR := bR.trans (hB62.mono bR.size)
          have hS62 : (fun W' : World => Row W' w.heap.size 33 [.slice (some ⟨b, 0, none⟩) n cap, .slice (some ⟨g, 0, none⟩) m cap']) v62 := rm
          refine hK _ _ ⟨hS62, ?_⟩
          try simp only [Act.put, List.setIfInBounds_toArray, List.set_cons_zero, List.set_cons_succ]
          clear hB62 hK K hS61
          refine wpAnyH_all (rs := [8, 10]) (by kernel_rfl) (by simp) ?_
          intro i hi; simp only [List.mem_cons, List.not_mem_nil, or_false] at hi
          rcases hi with rfl | rfl
          · refine wpOp_step rfl (fun K hK => ?_)
            go_simp
            with_reducible refine (HD.out v62 sS).mono ?_
            rintro e v63 ⟨rfl, hB63⟩
            replace rm := rm.below hB63 rm.lt
            replace sS := sS.below hB63 sS.1
            replace sJ := sJ.below hB63 sJ.1
            replace rg := rg.below hB63 rg.lt
            replace bR := bR.trans (hB63.mono bR.size)
            have hS63 : (fun W' : World => Row W' w.heap.size 33 [.slice (some ⟨b, 0, none⟩) n cap, .slice (some ⟨g, 0, none⟩) m cap']) v63 := rm
            refine hK _ _ ⟨hS63, ?_⟩
            try simp only [Act.put, List.setIfInBounds_toArray, List.set_cons_zero, List.set_cons_succ]
            clear hB63 hK K hS62
            refine wpAnyH_all (rs := [10]) (by kernel_rfl) (by simp) ?_
            intro i hi; simp only [List.mem_cons, List.not_mem_nil, or_false] at hi
            subst hi
            refine wpOp_step rfl (fun K hK => ?_)
            go_simp
            have lt_rg_rh : W0.heap.size < v63.heap.size := rg.lt
            have rh := Row.new v63 65 [.int .u8 0, .int .u8 0, .int .u8 0, .int .u8 0, .int .u8 0, .int .u8 0, .int .u8 0, .int .u8 0]
            have hA : Below v63.heap.size v63 (v63.alloc (.cells #[.int .u8 0, .int .u8 0, .int .u8 0, .int .u8 0, .int .u8 0, .int .u8 0, .int .u8 0, .int .u8 0] 65)) := (Below.refl _ _).alloc (Nat.le_refl _) _
            replace rm := rm.below hA rm.lt
            replace sS := sS.below hA sS.1
            replace sJ := sJ.below hA sJ.1
            replace rg := rg.below hA rg.lt
            have l_rh := bR.size
            replace bR := bR.trans (hA.mono bR.size)
            have hS64 : (fun W' : World => Row W' w.heap.size 33 [.slice (some ⟨b, 0, none⟩) n cap, .slice (some ⟨g, 0, none⟩) m cap']) (v63.alloc (.cells #[.int .u8 0, .int .u8 0, .int .u8 0, .int .u8 0, .int .u8 0, .int .u8 0, .int .u8 0, .int .u8 0] 65)) := rm
            refine hK _ _ ⟨hS64, ?_⟩
            try simp only [Act.put, List.setIfInBounds_toArray, List.set_cons_zero, List.set_cons_succ]
            obtain ⟨X64, hX64⟩ : ∃ X, X = v63.alloc (.cells #[.int .u8 0, .int .u8 0, .int .u8 0, .int .u8 0, .int .u8 0, .int .u8 0, .int .u8 0, .int .u8 0] 65) := ⟨_, rfl⟩
            rw [← hX64] at rm sS sJ rg rh bR hS64 ⊢
            clear hX64 hA hK K hS63
            refine wpAnyH_all (rs := [11]) (by kernel_rfl) (by simp) ?_
            intro i hi; simp only [List.mem_cons, List.not_mem_nil, or_false] at hi
            subst hi
            refine wpOp_step rfl (fun K hK => ?_)
            rw [if_pos (by kernel_rfl)]
            refine wp_store_mid 65 (.tmp 7) (.tmp 16) rfl (W0.heap.size) 0 ((rdV e zs [p0, p1, p2, p3, p4, p5, p6, p7] n) : List Value).toArray rfl rfl (rg.there 8 rfl) hd (all_oneCell_toArray (one_of8 (ints_rd _ _ _ _))) ?_
            replace rm := Row.setCells_other rm (Nat.ne_of_lt (Nat.lt_of_lt_of_le l_rm l_rg)) ((rdV e zs [p0, p1, p2, p3, p4, p5, p6, p7] n) : List Value) 0
            replace sS := sS.below (below_setCells (g := W0.heap.size) ((rdV e zs [p0, p1, p2, p3, p4, p5, p6, p7] n) : List Value) 0 X64 (Below.refl _ _) (Nat.le_refl _)) (Nat.lt_of_lt_of_le l_sS l_rg)
            replace sJ := sJ.below (below_setCells (g := W0.heap.size) ((rdV e zs [p0, p1, p2, p3, p4, p5, p6, p7] n) : List Value) 0 X64 (Below.refl _ _) (Nat.le_refl _)) (Nat.lt_of_lt_of_le l_sJ l_rg)
            replace rh := Row.setCells_other rh (Nat.ne_of_gt lt_rg_rh) ((rdV e zs [p0, p1, p2, p3, p4, p5, p6, p7] n) : List Value) 0
            replace rg := rg.setCells (ys := ((rdV e zs [p0, p1, p2, p3, p4, p5, p6, p7] n) : List Value)) rfl
            replace bR := below_setCells ((rdV e zs [p0, p1, p2, p3, p4, p5, p6, p7] n) : List Value) 0 _ bR (g := W0.heap.size) l_rg
            have hS65 : (fun W' : World => Row W' w.heap.size 33 [.slice (some ⟨b, 0, none⟩) n cap, .slice (some ⟨g, 0, none⟩) m cap']) (X64.setCells (W0.heap.size) 0 ((rdV e zs [p0, p1, p2, p3, p4, p5, p6, p7] n) : List Value)) := rm
            refine hK _ _ ⟨hS65, ?_⟩
            try simp only [Act.put, List.setIfInBounds_toArray, List.set_cons_zero, List.set_cons_succ]
            obtain ⟨X65, hX65⟩ : ∃ X, X = X64.setCells (W0.heap.size) 0 ((rdV e zs [p0, p1, p2, p3, p4, p5, p6, p7] n) : List Value) := ⟨_, rfl⟩
            rw [← hX65] at rm sS sJ rg rh bR hS65 ⊢
            clear hX65 hK K hS64
            refine wpAnyH_all (rs := [12]) (by kernel_rfl) (by simp) ?_
            intro i hi; simp only [List.mem_cons, List.not_mem_nil, or_false] at hi
            subst hi
            refine wpOp_step rfl (fun K hK => ?_)
            rw [if_pos (by kernel_rfl)]
            refine wp_store_mid 65 (.tmp 8) (.tmp 19) rfl (v63.heap.size) 0 ([.int .u8 c0, .int .u8 c1, .int .u8 c2, .int .u8 c3, .int .u8 c4, .int .u8 c5, .int .u8 c6, .int .u8 c7] : List Value).toArray rfl rfl (rh.there 8 rfl) hd (all_oneCell_toArray (one_of8 ints8)) ?_
            replace rm := Row.setCells_other rm (Nat.ne_of_lt (Nat.lt_of_lt_of_le l_rm l_rh)) ([.int .u8 c0, .int .u8 c1, .int .u8 c2, .int .u8 c3, .int .u8 c4, .int .u8 c5, .int .u8 c6, .int .u8 c7] : List Value) 0
            replace sS := sS.below (below_setCells (g := v63.heap.size) ([.int .u8 c0, .int .u8 c1, .int .u8 c2, .int .u8 c3, .int .u8 c4, .int .u8 c5, .int .u8 c6, .int .u8 c7] : List Value) 0 X65 (Below.refl _ _) (Nat.le_refl _)) (Nat.lt_of_lt_of_le l_sS l_rh)
            replace sJ := sJ.below (below_setCells (g := v63.heap.size) ([.int .u8 c0, .int .u8 c1, .int .u8 c2, .int .u8 c3, .int .u8 c4, .int .u8 c5, .int .u8 c6, .int .u8 c7] : List Value) 0 X65 (Below.refl _ _) (Nat.le_refl _)) (Nat.lt_of_lt_of_le l_sJ l_rh)
            replace rg := Row.setCells_other rg (Nat.ne_of_lt lt_rg_rh) ([.int .u8 c0, .int .u8 c1, .int .u8 c2, .int .u8 c3, .int .u8 c4, .int .u8 c5, .int .u8 c6, .int .u8 c7] : List Value) 0
            replace rh := rh.setCells (ys := ([.int .u8 c0, .int .u8 c1, .int .u8 c2, .int .u8 c3, .int .u8 c4, .int .u8 c5, .int .u8 c6, .int .u8 c7] : List Value)) rfl
            replace bR := below_setCells ([.int .u8 c0, .int .u8 c1, .int .u8 c2, .int .u8 c3, .int .u8 c4, .int .u8 c5, .int .u8 c6, .int .u8 c7] : List Value) 0 _ bR (g := v63.heap.size) l_rh
            have hS66 : (fun W' : World => Row W' w.heap.size 33 [.slice (some ⟨b, 0, none⟩) n cap, .slice (some ⟨g, 0, none⟩) m cap']) (X65.setCells (v63.heap.size) 0 ([.int .u8 c0, .int .u8 c1, .int .u8 c2, .int .u8 c3, .int .u8 c4, .int .u8 c5, .int .u8 c6, .int .u8 c7] : List Value)) := rm
            refine hK _ _ ⟨hS66, ?_⟩
            try simp only [Act.put, List.setIfInBounds_toArray, List.set_cons_zero, List.set_cons_succ]
            obtain ⟨X66, hX66⟩ : ∃ X, X = X65.setCells (v63.heap.size) 0 ([.int .u8 c0, .int .u8 c1, .int .u8 c2, .int .u8 c3, .int .u8 c4, .int .u8 c5, .int .u8 c6, .int .u8 c7] : List Value) := ⟨_, rfl⟩
            rw [← hX66] at rm sS sJ rg rh bR hS66 ⊢
            clear hX66 hK K hS65
            refine wpAnyH_done (by kernel_rfl) ?_ _
            go_wp2_with fail
            go_meet
            exact ⟨W0.heap.size, v63.heap.size, _, rfl, rfl, rfl, rg, rh, rm, bW0.trans (bR.mono bW0.size)⟩
          · refine wpOp_step rfl (fun K hK => ?_)
            go_simp
            have lt_rg_rh : W0.heap.size < v62.heap.size := rg.lt
            have rh := Row.new v62 65 [.int .u8 0, .int .u8 0, .int .u8 0, .int .u8 0, .int .u8 0, .int .u8 0, .int .u8 0, .int .u8 0]
            have hA : Below v62.heap.size v62 (v62.alloc (.cells #[.int .u8 0, .int .u8 0, .int .u8 0, .int .u8 0, .int .u8 0, .int .u8 0, .int .u8 0, .int .u8 0] 65)) := (Below.refl _ _).alloc (Nat.le_refl _) _
            replace rm := rm.below hA rm.lt
            replace sS := sS.below hA sS.1
            replace sJ := sJ.below hA sJ.1
            replace rg := rg.below hA rg.lt
            have l_rh := bR.size
            replace bR := bR.trans (hA.mono bR.size)
            have hS67 : (fun W' : World => Row W' w.heap.size 33 [.slice (some ⟨b, 0, none⟩) n cap, .slice (some ⟨g, 0, none⟩) m cap']) (v62.alloc (.cells #[.int .u8 0, .int .u8 0, .int .u8 0, .int .u8 0, .int .u8 0, .int .u8 0, .int .u8 0, .int .u8 0] 65)) := rm
            refine hK _ _ ⟨hS67, ?_⟩
            try simp only [Act.put, List.setIfInBounds_toArray, List.set_cons_zero, List.set_cons_succ]
            obtain ⟨X67, hX67⟩ : ∃ X, X = v62.alloc (.cells #[.int .u8 0, .int .u8 0, .int .u8 0, .int .u8 0, .int .u8 0, .int .u8 0, .int .u8 0, .int .u8 0] 65) := ⟨_, rfl⟩
            rw [← hX67] at rm sS sJ rg rh bR hS67 ⊢
            clear hX67 hA hK K hS62
            refine wpAnyH_all (rs := [8]) (by kernel_rfl) (by simp) ?_
            intro i hi; simp only [List.mem_cons, List.not_mem_nil, or_false] at hi
            subst hi
            refine wpOp_step rfl (fun K hK => ?_)
            go_simp
            with_reducible refine (HD.out X67 sS).mono ?_
            rintro e v68 ⟨rfl, hB68⟩
            replace rm := rm.below hB68 rm.lt
            replace sS := sS.below hB68 sS.1
            replace sJ := sJ.below hB68 sJ.1
            replace rg := rg.below hB68 rg.lt
            replace rh := rh.below hB68 rh.lt
            replace bR := bR.trans (hB68.mono bR.size)
            have hS68 : (fun W' : World => Row W' w.heap.size 33 [.slice (some ⟨b, 0, none⟩) n cap, .slice (some ⟨g, 0, none⟩) m cap']) v68 := rm
            refine hK _ _ ⟨hS68, ?_⟩
            try simp only [Act.put, List.setIfInBounds_toArray, List.set_cons_zero, List.set_cons_succ]
            clear hB68 hK K hS67
            refine wpAnyH_all (rs := [11]) (by kernel_rfl) (by simp) ?_
            intro i hi; simp only [List.mem_cons, List.not_mem_nil, or_false] at hi
            subst hi
            refine wpOp_step rfl (fun K hK => ?_)
            rw [if_pos (by kernel_rfl)]
            refine wp_store_mid 65 (.tmp 7) (.tmp 16) rfl (W0.heap.size) 0 ((rdV e zs [p0, p1, p2, p3, p4, p5, p6, p7] n) : List Value).toArray rfl rfl (rg.there 8 rfl) hd (all_oneCell_toArray (one_of8 (ints_rd _ _ _ _))) ?_
            replace rm := Row.setCells_other rm (Nat.ne_of_lt (Nat.lt_of_lt_of_le l_rm l_rg)) ((rdV e zs [p0, p1, p2, p3, p4, p5, p6, p7] n) : List Value) 0
            replace sS := sS.below (below_setCells (g := W0.heap.size) ((rdV e zs [p0, p1, p2, p3, p4, p5, p6, p7] n) : List Value) 0 v68 (Below.refl _ _) (Nat.le_refl _)) (Nat.lt_of_lt_of_le l_sS l_rg)
            replace sJ := sJ.below (below_setCells (g := W0.heap.size) ((rdV e zs [p0, p1, p2, p3, p4, p5, p6, p7] n) : List Value) 0 v68 (Below.refl _ _) (Nat.le_refl _)) (Nat.lt_of_lt_of_le l_sJ l_rg)
            replace rh := Row.setCells_other rh (Nat.ne_of_gt lt_rg_rh) ((rdV e zs [p0, p1, p2, p3, p4, p5, p6, p7] n) : List Value) 0
            replace rg := rg.setCells (ys := ((rdV e zs [p0, p1, p2, p3, p4, p5, p6, p7] n) : List Value)) rfl
            replace bR := below_setCells ((rdV e zs [p0, p1, p2, p3, p4, p5, p6, p7] n) : List Value) 0 _ bR (g := W0.heap.size) l_rg
            have hS69 : (fun W' : World => Row W' w.heap.size 33 [.slice (some ⟨b, 0, none⟩) n cap, .slice (some ⟨g, 0, none⟩) m cap']) (v68.setCells (W0.heap.size) 0 ((rdV e zs [p0, p1, p2, p3, p4, p5, p6, p7] n) : List Value)) := rm
            refine hK _ _ ⟨hS69, ?_⟩
            try simp only [Act.put, List.setIfInBounds_toArray, List.set_cons_zero, List.set_cons_succ]
            obtain ⟨X69, hX69⟩ : ∃ X, X = v68.setCells (W0.heap.size) 0 ((rdV e zs [p0, p1, p2, p3, p4, p5, p6, p7] n) : List Value) := ⟨_, rfl⟩
            rw [← hX69] at rm sS sJ rg rh bR hS69 ⊢
            clear hX69 hK K hS68
            refine wpAnyH_all (rs := [12]) (by kernel_rfl) (by simp) ?_
            intro i hi; simp only [List.mem_cons, List.not_mem_nil, or_false] at hi
            subst hi
            refine wpOp_step rfl (fun K hK => ?_)
            rw [if_pos (by kernel_rfl)]
            refine wp_store_mid 65 (.tmp 8) (.tmp 19) rfl (v62.heap.size) 0 ([.int .u8 c0, .int .u8 c1, .int .u8 c2, .int .u8 c3, .int .u8 c4, .int .u8 c5, .int .u8 c6, .int .u8 c7] : List Value).toArray rfl rfl (rh.there 8 rfl) hd (all_oneCell_toArray (one_of8 ints8)) ?_
            replace rm := Row.setCells_other rm (Nat.ne_of_lt (Nat.lt_of_lt_of_le l_rm l_rh)) ([.int .u8 c0, .int .u8 c1, .int .u8 c2, .int .u8 c3, .int .u8 c4, .int .u8 c5, .int .u8 c6, .int .u8 c7] : List Value) 0
            replace sS := sS.below (below_setCells (g := v62.heap.size) ([.int .u8 c0, .int .u8 c1, .int .u8 c2, .int .u8 c3, .int .u8 c4, .int .u8 c5, .int .u8 c6, .int .u8 c7] : List Value) 0 X69 (Below.refl _ _) (Nat.le_refl _)) (Nat.lt_of_lt_of_le l_sS l_rh)
            replace sJ := sJ.below (below_setCells (g := v62.heap.size) ([.int .u8 c0, .int .u8 c1, .int .u8 c2, .int .u8 c3, .int .u8 c4, .int .u8 c5, .int .u8 c6, .int .u8 c7] : List Value) 0 X69 (Below.refl _ _) (Nat.le_refl _)) (Nat.lt_of_lt_of_le l_sJ l_rh)
            replace rg := Row.setCells_other rg (Nat.ne_of_lt lt_rg_rh) ([.int .u8 c0, .int .u8 c1, .int .u8 c2, .int .u8 c3, .int .u8 c4, .int .u8 c5, .int .u8 c6, .int .u8 c7] : List Value) 0
            replace rh := rh.setCells (ys := ([.int .u8 c0, .int .u8 c1, .int .u8 c2, .int .u8 c3, .int .u8 c4, .int .u8 c5, .int .u8 c6, .int .u8 c7] : List Value)) rfl
            replace bR := below_setCells ([.int .u8 c0, .int .u8 c1, .int .u8 c2, .int .u8 c3, .int .u8 c4, .int .u8 c5, .int .u8 c6, .int .u8 c7] : List Value) 0 _ bR (g := v62.heap.size) l_rh
            have hS70 : (fun W' : World => Row W' w.heap.size 33 [.slice (some ⟨b, 0, none⟩) n cap, .slice (some ⟨g, 0, none⟩) m cap']) (X69.setCells (v62.heap.size) 0 ([.int .u8 c0, .int .u8 c1, .int .u8 c2, .int .u8 c3, .int .u8 c4, .int .u8 c5, .int .u8 c6, .int .u8 c7] : List Value)) := rm
            refine hK _ _ ⟨hS70, ?_⟩
            try simp only [Act.put, List.setIfInBounds_toArray, List.set_cons_zero, List.set_cons_succ]
            obtain ⟨X70, hX70⟩ : ∃ X, X = X69.setCells (v62.heap.size) 0 ([.int .u8 c0, .int .u8 c1, .int .u8 c2, .int .u8 c3, .int .u8 c4, .int .u8 c5, .int .u8 c6, .int .u8 c7] : List Value) := ⟨_, rfl⟩
            rw [← hX70] at rm sS sJ rg rh bR hS70 ⊢
            clear hX70 hK K hS69
            refine wpAnyH_done (by kernel_rfl) ?_ _
            go_wp2_with fail
            go_meet
            exact ⟨W0.heap.size, v62.heap.size, _, rfl, rfl, rfl, rg, rh, rm, bW0.trans (bR.mono bW0.size)⟩
        · refine wpOp_step rfl (fun K hK => ?_)
          go_simp
          have lt_rg_rh : W0.heap.size < v61.heap.size := rg.lt
          have rh := Row.new v61 65 [.int .u8 0, .int .u8 0, .int .u8 0, .int .u8 0, .int .u8 0, .int .u8 0, .int .u8 0, .int .u8 0]
          have hA : Below v61.heap.size v61 (v61.alloc (.cells #[.int .u8 0, .int .u8 0, .int .u8 0, .int .u8 0, .int .u8 0, .int .u8 0, .int .u8 0, .int .u8 0] 65)) := (Below.refl _ _).alloc (Nat.le_refl _) _
          replace rm := rm.below hA rm.lt
          replace sS := sS.below hA sS.1
          replace sJ := sJ.below hA sJ.1
          replace rg := rg.below hA rg.lt
          have l_rh := bR.size
          replace bR := bR.trans (hA.mono bR.size)
          have hS71 : (fun W' : World => Row W' w.heap.size 33 [.slice (some ⟨b, 0, none⟩) n cap, .slice (some ⟨g, 0, none⟩) m cap']) (v61.alloc (.cells #[.int .u8 0, .int .u8 0, .int .u8 0, .int .u8 0, .int .u8 0, .int .u8 0, .int .u8 0, .int .u8 0] 65)) := rm
          refine hK _ _ ⟨hS71, ?_⟩
          try simp only [Act.put, List.setIfInBounds_toArray, List.set_cons_zero, List.set_cons_succ]
          obtain ⟨X71, hX71⟩ : ∃ X, X = v61.alloc (.cells #[.int .u8 0, .int .u8 0, .int .u8 0, .int .u8 0, .int .u8 0, .int .u8 0, .int .u8 0, .int .u8 0] 65) := ⟨_, rfl⟩
          rw [← hX71] at rm sS sJ rg rh bR hS71 ⊢
          clear hX71 hA hK K hS61
          refine wpAnyH_all (rs := [5]) (by kernel_rfl) (by simp) ?_
          intro i hi; simp only [List.mem_cons, List.not_mem_nil, or_false] at hi
          subst hi
          refine wpOp_step rfl (fun K hK => ?_)
          go_simp
          with_reducible refine (HR.out X71 sS sJ).mono ?_
          rintro e v72 ⟨rfl, hB72⟩
          replace rm := rm.below hB72 rm.lt
          replace sS := sS.below hB72 sS.1
          replace sJ := sJ.below hB72 sJ.1
          replace rg := rg.below hB72 rg.lt
          replace rh := rh.below hB72 rh.lt
          replace bR := bR.trans (hB72.mono bR.size)
          have hS72 : (fun W' : World => Row W' w.heap.size 33 [.slice (some ⟨b, 0, none⟩) n cap, .slice (some ⟨g, 0, none⟩) m cap']) v72 := rm
          refine hK _ _ ⟨hS72, ?_⟩
          try simp only [Act.put, List.setIfInBounds_toArray, List.set_cons_zero, List.set_cons_succ]
          clear hB72 hK K hS71
          refine wpAnyH_all (rs := [8]) (by kernel_rfl) (by simp) ?_
          intro i hi; simp only [List.mem_cons, List.not_mem_nil, or_false] at hi
          subst hi
          refine wpOp_step rfl (fun K hK => ?_)
          go_simp
          with_reducible refine (HD.out v72 sS).mono ?_
          rintro e v73 ⟨rfl, hB73⟩
          replace rm := rm.below hB73 rm.lt
          replace sS := sS.below hB73 sS.1
          replace sJ := sJ.below hB73 sJ.1
          replace rg := rg.below hB73 rg.lt
          replace rh := rh.below hB73 rh.lt
          replace bR := bR.trans (hB73.mono bR.size)
          have hS73 : (fun W' : World => Row W' w.heap.size 33 [.slice (some ⟨b, 0, none⟩) n cap, .slice (some ⟨g, 0, none⟩) m cap']) v73 := rm
          refine hK _ _ ⟨hS73, ?_⟩
          try simp only [Act.put, List.setIfInBounds_toArray, List.set_cons_zero, List.set_cons_succ]
          clear hB73 hK K hS72
          refine wpAnyH_all (rs := [11]) (by kernel_rfl) (by simp) ?_
          intro i hi; simp only [List.mem_cons, List.not_mem_nil, or_false] at hi
          subst hi
          refine wpOp_step rfl (fun K hK => ?_)
          rw [if_pos (by kernel_rfl)]
          refine wp_store_mid 65 (.tmp 7) (.tmp 16) rfl (W0.heap.size) 0 ((rdV e zs [p0, p1, p2, p3, p4, p5, p6, p7] n) : List Value).toArray rfl rfl (rg.there 8 rfl) hd (all_oneCell_toArray (one_of8 (ints_rd _ _ _ _))) ?_
          replace rm := Row.setCells_other rm (Nat.ne_of_lt (Nat.lt_of_lt_of_le l_rm l_rg)) ((rdV e zs [p0, p1, p2, p3, p4, p5, p6, p7] n) : List Value) 0
          replace sS := sS.below (below_setCells (g := W0.heap.size) ((rdV e zs [p0, p1, p2, p3, p4, p5, p6, p7] n) : List Value) 0 v73 (Below.refl _ _) (Nat.le_refl _)) (Nat.lt_of_lt_of_le l_sS l_rg)
          replace sJ := sJ.below (below_setCells (g := W0.heap.size) ((rdV e zs [p0, p1, p2, p3, p4, p5, p6, p7] n) : List Value) 0 v73 (Below.refl _ _) (Nat.le_refl _)) (Nat.lt_of_lt_of_le l_sJ l_rg)
          replace rh := Row.setCells_other rh (Nat.ne_of_gt lt_rg_rh) ((rdV e zs [p0, p1, p2, p3, p4, p5, p6, p7] n) : List Value) 0
          replace rg := rg.setCells (ys := ((rdV e zs [p0, p1, p2, p3, p4, p5, p6, p7] n) : List Value)) rfl
          replace bR := below_setCells ((rdV e zs [p0, p1, p2, p3, p4, p5, p6, p7] n) : List Value) 0 _ bR (g := W0.heap.size) l_rg
          have hS74 : (fun W' : World => Row W' w.heap.size 33 [.slice (some ⟨b, 0, none⟩) n cap, .slice (some ⟨g, 0, none⟩) m cap']) (v73.setCells (W0.heap.size) 0 ((rdV e zs [p0, p1, p2, p3, p4, p5, p6, p7] n) : List Value)) := rm
          refine hK _ _ ⟨hS74, ?_⟩
          try simp only [Act.put, List.setIfInBounds_toArray, List.set_cons_zero, List.set_cons_succ]
          obtain ⟨X74, hX74⟩ : ∃ X, X = v73.setCells (W0.heap.size) 0 ((rdV e zs [p0, p1, p2, p3, p4, p5, p6, p7] n) : List Value) := ⟨_, rfl⟩
          rw [← hX74] at rm sS sJ rg rh bR hS74 ⊢
          clear hX74 hK K hS73
          refine wpAnyH_all (rs := [12]) (by kernel_rfl) (by simp) ?_
          intro i hi; simp only [List.mem_cons, List.not_mem_nil, or_false] at hi
          subst hi
          refine wpOp_step rfl (fun K hK => ?_)
          rw [if_pos (by kernel_rfl)]
          refine wp_store_mid 65 (.tmp 8) (.tmp 19) rfl (v61.heap.size) 0 ([.int .u8 c0, .int .u8 c1, .int .u8 c2, .int .u8 c3, .int .u8 c4, .int .u8 c5, .int .u8 c6, .int .u8 c7] : List Value).toArray rfl rfl (rh.there 8 rfl) hd (all_oneCell_toArray (one_of8 ints8)) ?_
          replace rm := Row.setCells_other rm (Nat.ne_of_lt (Nat.lt_of_lt_of_le l_rm l_rh)) ([.int .u8 c0, .int .u8 c1, .int .u8 c2, .int .u8 c3, .int .u8 c4, .int .u8 c5, .int .u8 c6, .int .u8 c7] : List Value) 0
          replace sS := sS.below (below_setCells (g := v61.heap.size) ([.int .u8 c0, .int .u8 c1, .int .u8 c2, .int .u8 c3, .int .u8 c4, .int .u8 c5, .int .u8 c6, .int .u8 c7] : List Value) 0 X74 (Below.refl _ _) (Nat.le_refl _)) (Nat.lt_of_lt_of_le l_sS l_rh)
          replace sJ := sJ.below (below_setCells (g := v61.heap.size) ([.int .u8 c0, .int .u8 c1, .int .u8 c2, .int .u8 c3, .int .u8 c4, .int .u8 c5, .int .u8 c6, .int .u8 c7] : List Value) 0 X74 (Below.refl _ _) (Nat.le_refl _)) (Nat.lt_of_lt_of_le l_sJ l_rh)
          replace rg := Row.setCells_other rg (Nat.ne_of_lt lt_rg_rh) ([.int .u8 c0, .int .u8 c1, .int .u8 c2, .int .u8 c3, .int .u8 c4, .int .u8 c5, .int .u8 c6, .int .u8 c7] : List Value) 0
          replace rh := rh.setCells (ys := ([.int .u8 c0, .int .u8 c1, .int .u8 c2, .int .u8 c3, .int .u8 c4, .int .u8 c5, .int .u8 c6, .int .u8 c7] : List Value)) rfl
          replace bR := below_setCells ([.int .u8 c0, .int .u8 c1, .int .u8 c2, .int .u8 c3, .int .u8 c4, .int .u8 c5, .int .u8 c6, .int .u8 c7] : List Value) 0 _ bR (g := v61.heap.size) l_rh
          have hS75 : (fun W' : World => Row W' w.heap.size 33 [.slice (some ⟨b, 0, none⟩) n cap, .slice (some ⟨g, 0, none⟩) m cap']) (X74.setCells (v61.heap.size) 0 ([.int .u8 c0, .int .u8 c1, .int .u8 c2, .int .u8 c3, .int .u8 c4, .int .u8 c5, .int .u8 c6, .int .u8 c7] : List Value)) := rm
          refine hK _ _ ⟨hS75, ?_⟩
          try simp only [Act.put, List.setIfInBounds_toArray, List.set_cons_zero, List.set_cons_succ]
          obtain ⟨X75, hX75⟩ : ∃ X, X = X74.setCells (v61.heap.size) 0 ([.int .u8 c0, .int .u8 c1, .int .u8 c2, .int .u8 c3, .int .u8 c4, .int .u8 c5, .int .u8 c6, .int .u8 c7] : List Value) := ⟨_, rfl⟩
          rw [← hX75] at rm sS sJ rg rh bR hS75 ⊢
          clear hX75 hK K hS74
          refine wpAnyH_done (by kernel_rfl) ?_ _
          go_wp2_with fail
          go_meet
          exact ⟨W0.heap.size, v61.heap.size, _, rfl, rfl, rfl, rg, rh, rm, bW0.trans (bR.mono bW0.size)⟩
      · refine wpOp_step rfl (fun K hK => ?_)
        go_simp
        have lt_rg_rh : W0.heap.size < X60.heap.size := rg.lt
        have rh := Row.new X60 65 [.int .u8 0, .int .u8 0, .int .u8 0, .int .u8 0, .int .u8 0, .int .u8 0, .int .u8 0, .int .u8 0]
        have hA : Below X60.heap.size X60 (X60.alloc (.cells #[.int .u8 0, .int .u8 0, .int .u8 0, .int .u8 0, .int .u8 0, .int .u8 0, .int .u8 0, .int .u8 0] 65)) := (Below.refl _ _).alloc (Nat.le_refl _) _
        replace rm := rm.below hA rm.lt
        replace sS := sS.below hA sS.1
        replace sJ := sJ.below hA sJ.1
        replace rg := rg.below hA rg.lt
        have l_rh := bR.size
        replace bR := bR.trans (hA.mono bR.size)
        have hS76 : (fun W' : World => Row W' w.heap.size 33 [.slice (some ⟨b, 0, none⟩) n cap, .slice (some ⟨g, 0, none⟩) m cap']) (X60.alloc (.cells #[.int .u8 0, .int .u8 0, .int .u8 0, .int .u8 0, .int .u8 0, .int .u8 0, .int .u8 0, .int .u8 0] 65)) := rm
        refine hK _ _ ⟨hS76, ?_⟩
        try simp only [Act.put, List.setIfInBounds_toArray, List.set_cons_zero, List.set_cons_succ]
        obtain ⟨X76, hX76⟩ : ∃ X, X = X60.alloc (.cells #[.int .u8 0, .int .u8 0, .int .u8 0, .int .u8 0, .int .u8 0, .int .u8 0, .int .u8 0, .int .u8 0] 65) := ⟨_, rfl⟩
        rw [← hX76] at rm sS sJ rg rh bR hS76 ⊢
        clear hX76 hA hK K hS60
        refine wpAnyH_all (rs := [3]) (by kernel_rfl) (by simp) ?_
        intro i hi; simp only [List.mem_cons, List.not_mem_nil, or_false] at hi
        subst hi
        refine wpOp_step rfl (fun K hK => ?_)
        go_simp
        with_reducible refine (HP.out X76 sS sJ).mono ?_
        rintro e v77 ⟨rfl, hB77⟩
        replace rm := rm.below hB77 rm.lt
        replace sS := sS.below hB77 sS.1
        replace sJ := sJ.below hB77 sJ.1
        replace rg := rg.below hB77 rg.lt
        replace rh := rh.below hB77 rh.lt
        replace bR := bR.trans (hB77.mono bR.size)
        have hS77 : (fun W' : World => Row W' w.heap.size 33 [.slice (some ⟨b, 0, none⟩) n cap, .slice (some ⟨g, 0, none⟩) m cap']) v77 := rm
        refine hK _ _ ⟨hS77, ?_⟩
        try simp only [Act.put, List.setIfInBounds_toArray, List.set_cons_zero, List.set_cons_succ]
        clear hB77 hK K hS76
        refine wpAnyH_all (rs := [5]) (by kernel_rfl) (by simp) ?_
        intro i hi; simp only [List.mem_cons, List.not_mem_nil, or_false] at hi
        subst hi
        refine wpOp_step rfl (fun K hK => ?_)
        go_simp
        with_reducible refine (HR.out v77 sS sJ).mono ?_
        rintro e v78 ⟨rfl, hB78⟩
        replace rm := rm.below hB78 rm.lt
        replace sS := sS.below hB78 sS.1
        replace sJ := sJ.below hB78 sJ.1
        replace rg := rg.below hB78 rg.lt
        replace rh := rh.below hB78 rh.lt
        replace bR := bR.trans (hB78.mono bR.size)
        have hS78 : (fun W' : World => Row W' w.heap.size 33 [.slice (some ⟨b, 0, none⟩) n cap, .slice (some ⟨g, 0, none⟩) m cap']) v78 := rm
        refine hK _ _ ⟨hS78, ?_⟩
        try simp only [Act.put, List.setIfInBounds_toArray, List.set_cons_zero, List.set_cons_succ]
        clear hB78 hK K hS77
        refine wpAnyH_all (rs := [8]) (by kernel_rfl) (by simp) ?_
        intro i hi; simp only [List.mem_cons, List.not_mem_nil, or_false] at hi
        subst hi
        refine wpOp_step rfl (fun K hK => ?_)
        go_simp
        with_reducible refine (HD.out v78 sS).mono ?_
        rintro e v79 ⟨rfl, hB79⟩
        replace rm := rm.below hB79 rm.lt
        replace sS := sS.below hB79 sS.1
        replace sJ := sJ.below hB79 sJ.1
        replace rg := rg.below hB79 rg.lt
        replace rh := rh.below hB79 rh.lt
        replace bR := bR.trans (hB79.mono bR.size)
        have hS79 : (fun W' : World => Row W' w.heap.size 33 [.slice (some ⟨b, 0, none⟩) n cap, .slice (some ⟨g, 0, none⟩) m cap']) v79 := rm
        refine hK _ _ ⟨hS79, ?_⟩
        try simp only [Act.put, List.setIfInBounds_toArray, List.set_cons_zero, List.set_cons_succ]
        clear hB79 hK K hS78
        refine wpAnyH_all (rs := [11]) (by kernel_rfl) (by simp) ?_
        intro i hi; simp only [List.mem_cons, List.not_mem_nil, or_false] at hi
        subst hi
        refine wpOp_step rfl (fun K hK => ?_)
        rw [if_pos (by kernel_rfl)]
        refine wp_store_mid 65 (.tmp 7) (.tmp 16) rfl (W0.heap.size) 0 ((rdV e zs [p0, p1, p2, p3, p4, p5, p6, p7] n) : List Value).toArray rfl rfl (rg.there 8 rfl) hd (all_oneCell_toArray (one_of8 (ints_rd _ _ _ _))) ?_
        replace rm := Row.setCells_other rm (Nat.ne_of_lt (Nat.lt_of_lt_of_le l_rm l_rg)) ((rdV e zs [p0, p1, p2, p3, p4, p5, p6, p7] n) : List Value) 0
        replace sS := sS.below (below_setCells (g := W0.heap.size) ((rdV e zs [p0, p1, p2, p3, p4, p5, p6, p7] n) : List Value) 0 v79 (Below.refl _ _) (Nat.le_refl _)) (Nat.lt_of_lt_of_le l_sS l_rg)
        replace sJ := sJ.below (below_setCells (g := W0.heap.size) ((rdV e zs [p0, p1, p2, p3, p4, p5, p6, p7] n) : List Value) 0 v79 (Below.refl _ _) (Nat.le_refl _)) (Nat.lt_of_lt_of_le l_sJ l_rg)
        replace rh := Row.setCells_other rh (Nat.ne_of_gt lt_rg_rh) ((rdV e zs [p0, p1, p2, p3, p4, p5, p6, p7] n) : List Value) 0
        replace rg := rg.setCells (ys := ((rdV e zs [p0, p1, p2, p3, p4, p5, p6, p7] n) : List Value)) rfl
        replace bR := below_setCells ((rdV e zs [p0, p1, p2, p3, p4, p5, p6, p7] n) : List Value) 0 _ bR (g := W0.heap.size) l_rg
        have hS80 : (fun W' : World => Row W' w.heap.size 33 [.slice (some ⟨b, 0, none⟩) n cap, .slice (some ⟨g, 0, none⟩) m cap']) (v79.setCells (W0.heap.size) 0 ((rdV e zs [p0, p1, p2, p3, p4, p5, p6, p7] n) : List Value)) := rm
        refine hK _ _ ⟨hS80, ?_⟩
        try simp only [Act.put, List.setIfInBounds_toArray, List.set_cons_zero, List.set_cons_succ]
        obtain ⟨X80, hX80⟩ : ∃ X, X = v79.setCells (W0.heap.size) 0 ((rdV e zs [p0, p1, p2, p3, p4, p5, p6, p7] n) : List Value) := ⟨_, rfl⟩
        rw [← hX80] at rm sS sJ rg rh bR hS80 ⊢
        clear hX80 hK K hS79
        refine wpAnyH_all (rs := [12]) (by kernel_rfl) (by simp) ?_
        intro i hi; simp only [List.mem_cons, List.not_mem_nil, or_false] at hi
        subst hi
        refine wpOp_step rfl (fun K hK => ?_)
        rw [if_pos (by kernel_rfl)]
        refine wp_store_mid 65 (.tmp 8) (.tmp 19) rfl (X60.heap.size) 0 ([.int .u8 c0, .int .u8 c1, .int .u8 c2, .int .u8 c3, .int .u8 c4, .int .u8 c5, .int .u8 c6, .int .u8 c7] : List Value).toArray rfl rfl (rh.there 8 rfl) hd (all_oneCell_toArray (one_of8 ints8)) ?_
        replace rm := Row.setCells_other rm (Nat.ne_of_lt (Nat.lt_of_lt_of_le l_rm l_rh)) ([.int .u8 c0, .int .u8 c1, .int .u8 c2, .int .u8 c3, .int .u8 c4, .int .u8 c5, .int .u8 c6, .int .u8 c7] : List Value) 0
        replace sS := sS.below (below_setCells (g := X60.heap.size) ([.int .u8 c0, .int .u8 c1, .int .u8 c2, .int .u8 c3, .int .u8 c4, .int .u8 c5, .int .u8 c6, .int .u8 c7] : List Value) 0 X80 (Below.refl _ _) (Nat.le_refl _)) (Nat.lt_of_lt_of_le l_sS l_rh)
        replace sJ := sJ.below (below_setCells (g := X60.heap.size) ([.int .u8 c0, .int .u8 c1, .int .u8 c2, .int .u8 c3, .int .u8 c4, .int .u8 c5, .int .u8 c6, .int .u8 c7] : List Value) 0 X80 (Below.refl _ _) (Nat.le_refl _)) (Nat.lt_of_lt_of_le l_sJ l_rh)
        replace rg := Row.setCells_other rg (Nat.ne_of_lt lt_rg_rh) ([.int .u8 c0, .int .u8 c1, .int .u8 c2, .int .u8 c3, .int .u8 c4, .int .u8 c5, .int .u8 c6, .int .u8 c7] : List Value) 0
        replace rh := rh.setCells (ys := ([.int .u8 c0, .int .u8 c1, .int .u8 c2, .int .u8 c3, .int .u8 c4, .int .u8 c5, .int .u8 c6, .int .u8 c7] : List Value)) rfl
        replace bR := below_setCells ([.int .u8 c0, .int .u8 c1, .int .u8 c2, .int .u8 c3, .int .u8 c4, .int .u8 c5, .int .u8 c6, .int .u8 c7] : List Value) 0 _ bR (g := X60.heap.size) l_rh
        have hS81 : (fun W' : World => Row W' w.heap.size 33 [.slice (some ⟨b, 0, none⟩) n cap, .slice (some ⟨g, 0, none⟩) m cap']) (X80.setCells (X60.heap.size) 0 ([.int .u8 c0, .int .u8 c1, .int .u8 c2, .int .u8 c3, .int .u8 c4, .int .u8 c5, .int .u8 c6, .int .u8 c7] : List Value)) := rm
        refine hK _ _ ⟨hS81, ?_⟩
        try simp only [Act.put, List.setIfInBounds_toArray, List.set_cons_zero, List.set_cons_succ]
        obtain ⟨X81, hX81⟩ : ∃ X, X = X80.setCells (X60.heap.size) 0 ([.int .u8 c0, .int .u8 c1, .int .u8 c2, .int .u8 c3, .int .u8 c4, .int .u8 c5, .int .u8 c6, .int .u8 c7] : List Value) := ⟨_, rfl⟩
        rw [← hX81] at rm sS sJ rg rh bR hS81 ⊢
        clear hX81 hK K hS80
        refine wpAnyH_done (by kernel_rfl) ?_ _
        go_wp2_with fail
        go_meet
        exact ⟨W0.heap.size, X60.heap.size, _, rfl, rfl, rfl, rg, rh, rm, bW0.trans (bR.mono bW0.size)⟩
    · refine wpOp_step rfl (fun K hK => ?_)
      go_simp
      have rh := Row.new W0 65 [.int .u8 0, .int .u8 0, .int .u8 0, .int .u8 0, .int .u8 0, .int .u8 0, .int .u8 0, .int .u8 0]
      have hA : Below W0.heap.size W0 (W0.alloc (.cells #[.int .u8 0, .int .u8 0, .int .u8 0, .int .u8 0, .int .u8 0, .int .u8 0, .int .u8 0, .int .u8 0] 65)) := (Below.refl _ _).alloc (Nat.le_refl _) _
      replace rm := rm.below hA rm.lt
      replace sS := sS.below hA sS.1
      replace sJ := sJ.below hA sJ.1
      have l_rh := bR.size
      replace bR := bR.trans (hA.mono bR.size)
      have hS82 : (fun W' : World => Row W' w.heap.size 33 [.slice (some ⟨b, 0, none⟩) n cap, .slice (some ⟨g, 0, none⟩) m cap']) (W0.alloc (.cells #[.int .u8 0, .int .u8 0, .int .u8 0, .int .u8 0, .int .u8 0, .int .u8 0, .int .u8 0, .int .u8 0] 65)) := rm
      refine hK _ _ ⟨hS82, ?_⟩
      try simp only [Act.put, List.setIfInBounds_toArray, List.set_cons_zero, List.set_cons_succ]
      obtain ⟨X82, hX82⟩ : ∃ X, X = W0.alloc (.cells #[.int .u8 0, .int .u8 0, .int .u8 0, .int .u8 0, .int .u8 0, .int .u8 0, .int .u8 0, .int .u8 0] 65) := ⟨_, rfl⟩
      rw [← hX82] at rm sS sJ rh bR hS82 ⊢
      clear hX82 hA hK K hS0
      refine wpAnyH_all (rs := [3, 9]) (by kernel_rfl) (by simp) ?_
      intro i hi; simp only [List.mem_cons, List.not_mem_nil, or_false] at hi
      rcases hi with rfl | rfl
      · refine wpOp_step rfl (fun K hK => ?_)
        go_simp
        with_reducible refine (HP.out X82 sS sJ).mono ?_
        rintro e v83 ⟨rfl, hB83⟩
        replace rm := rm.below hB83 rm.lt
        replace sS := sS.below hB83 sS.1
        replace sJ := sJ.below hB83 sJ.1
        replace rh := rh.below hB83 rh.lt
        replace bR := bR.trans (hB83.mono bR.size)
        have hS83 : (fun W' : World => Row W' w.heap.size 33 [.slice (some ⟨b, 0, none⟩) n cap, .slice (some ⟨g, 0, none⟩) m cap']) v83 := rm
        refine hK _ _ ⟨hS83, ?_⟩
        try simp only [Act.put, List.setIfInBounds_toArray, List.set_cons_zero, List.set_cons_succ]
        clear hB83 hK K hS82
        refine wpAnyH_all (rs := [5, 9]) (by kernel_rfl) (by simp) ?_
        intro i hi; simp only [List.mem_cons, List.not_mem_nil, or_false] at hi
        rcases hi with rfl | rfl
        · refine wpOp_step rfl (fun K hK => ?_)
          go_simp
          with_reducible refine (HR.out v83 sS sJ).mono ?_
          rintro e v84 ⟨rfl, hB84⟩
          replace rm := rm.below hB84 rm.lt
          replace sS := sS.below hB84 sS.1
          replace sJ := sJ.below hB84 sJ.1
          replace rh := rh.below hB84 rh.lt
          replace bR := bR.trans (hB84.mono bR.size)
          have hS84 : (fun W' : World => Row W' w.heap.size 33 [.slice (some ⟨b, 0, none⟩) n cap, .slice (some ⟨g, 0, none⟩) m cap']) v84 := rm
          refine hK _ _ ⟨hS84, ?_⟩
          try simp only [Act.put, List.setIfInBounds_toArray, List.set_cons_zero, List.set_cons_succ]
          clear hB84 hK K hS83
          refine wpAnyH_all (rs := [8, 9]) (by kernel_rfl) (by simp) ?_
          intro i hi; simp only [List.mem_cons, List.not_mem_nil, or_false] at hi
          rcases hi with rfl | rfl
          · refine wpOp_step rfl (fun K hK => ?_)
            go_simp
            with_reducible refine (HD.out v84 sS).mono ?_
            rintro e v85 ⟨rfl, hB85⟩
            replace rm := rm.below hB85 rm.lt
            replace sS := sS.below hB85 sS.1
            replace sJ := sJ.below hB85 sJ.1
            replace rh := rh.below hB85 rh.lt
            replace bR := bR.trans (hB85.mono bR.size)
            have hS85 : (fun W' : World => Row W' w.heap.size 33 [.slice (some ⟨b, 0, none⟩) n cap, .slice (some ⟨g, 0, none⟩) m cap']) v85 := rm
            refine hK _ _ ⟨hS85, ?_⟩
            try simp only [Act.put, List.setIfInBounds_toArray, List.set_cons_zero, List.set_cons_succ]
            clear hB85 hK K hS84
            refine wpAnyH_all (rs := [9]) (by kernel_rfl) (by simp) ?_
            intro i hi; simp only [List.mem_cons, List.not_mem_nil, or_false] at hi
            subst hi
            refine wpOp_step rfl (fun K hK => ?_)
            go_simp
            have lt_rh_rg : W0.heap.size < v85.heap.size := rh.lt
            have rg := Row.new v85 65 [.int .u8 0, .int .u8 0, .int .u8 0, .int .u8 0, .int .u8 0, .int .u8 0, .int .u8 0, .int .u8 0]
            have hA : Below v85.heap.size v85 (v85.alloc (.cells #[.int .u8 0, .int .u8 0, .int .u8 0, .int .u8 0, .int .u8 0, .int .u8 0, .int .u8 0, .int .u8 0] 65)) := (Below.refl _ _).alloc (Nat.le_refl _) _
            replace rm := rm.below hA rm.lt
            replace sS := sS.below hA sS.1
            replace sJ := sJ.below hA sJ.1
            replace rh := rh.below hA rh.lt
            have l_rg := bR.size
            replace bR := bR.trans (hA.mono bR.size)
            have hS86 : (fun W' : World => Row W' w.heap.size 33 [.slice (some ⟨b, 0, none⟩) n cap, .slice (some ⟨g, 0, none⟩) m cap']) (v85.alloc (.cells #[.int .u8 0, .int .u8 0, .int .u8 0, .int .u8 0, .int .u8 0, .int .u8 0, .int .u8 0, .int .u8 0] 65)) := rm
            refine hK _ _ ⟨hS86, ?_⟩
            try simp only [Act.put, List.setIfInBounds_toArray, List.set_cons_zero, List.set_cons_succ]
            obtain ⟨X86, hX86⟩ : ∃ X, X = v85.alloc (.cells #[.int .u8 0, .int .u8 0, .int .u8 0, .int .u8 0, .int .u8 0, .int .u8 0, .int .u8 0, .int .u8 0] 65) := ⟨_, rfl⟩
            rw [← hX86] at rm sS sJ rh rg bR hS86 ⊢
            clear hX86 hA hK K hS85
            refine wpAnyH_all (rs := [11]) (by kernel_rfl) (by simp) ?_
            intro i hi; simp only [List.mem_cons, List.not_mem_nil, or_false] at hi
            subst hi
            refine wpOp_step rfl (fun K hK => ?_)
            rw [if_pos (by kernel_rfl)]
            refine wp_store_mid 65 (.tmp 7) (.tmp 16) rfl (v85.heap.size) 0 ((rdV e zs [p0, p1, p2, p3, p4, p5, p6, p7] n) : List Value).toArray rfl rfl (rg.there 8 rfl) hd (all_oneCell_toArray (one_of8 (ints_rd _ _ _ _))) ?_
            replace rm := Row.setCells_other rm (Nat.ne_of_lt (Nat.lt_of_lt_of_le l_rm l_rg)) ((rdV e zs [p0, p1, p2, p3, p4, p5, p6, p7] n) : List Value) 0
            replace sS := sS.below (below_setCells (g := v85.heap.size) ((rdV e zs [p0, p1, p2, p3, p4, p5, p6, p7] n) : List Value) 0 X86 (Below.refl _ _) (Nat.le_refl _)) (Nat.lt_of_lt_of_le l_sS l_rg)
            replace sJ := sJ.below (below_setCells (g := v85.heap.size) ((rdV e zs [p0, p1, p2, p3, p4, p5, p6, p7] n) : List Value) 0 X86 (Below.refl _ _) (Nat.le_refl _)) (Nat.lt_of_lt_of_le l_sJ l_rg)
            replace rh := Row.setCells_other rh (Nat.ne_of_lt lt_rh_rg) ((rdV e zs [p0, p1, p2, p3, p4, p5, p6, p7] n) : List Value) 0
            replace rg := rg.setCells (ys := ((rdV e zs [p0, p1, p2, p3, p4, p5, p6, p7] n) : List Value)) rfl
            replace bR := below_setCells ((rdV e zs [p0, p1, p2, p3, p4, p5, p6, p7] n) : List Value) 0 _ bR (g := v85.heap.size) l_rg
            have hS87 : (fun W' : World => Row W' w.heap.size 33 [.slice (some ⟨b, 0, none⟩) n cap, .slice (some ⟨g, 0, none⟩) m cap']) (X86.setCells (v85.heap.size) 0 ((rdV e zs [p0, p1, p2, p3, p4, p5, p6, p7] n) : List Value)) := rm
            refine hK _ _ ⟨hS87, ?_⟩
            try simp only [Act.put, List.setIfInBounds_toArray, List.set_cons_zero, List.set_cons_succ]
            obtain ⟨X87, hX87⟩ : ∃ X, X = X86.setCells (v85.heap.size) 0 ((rdV e zs [p0, p1, p2, p3, p4, p5, p6, p7] n) : List Value) := ⟨_, rfl⟩
            rw [← hX87] at rm sS sJ rh rg bR hS87 ⊢
            clear hX87 hK K hS86
            refine wpAnyH_all (rs := [12]) (by kernel_rfl) (by simp) ?_
            intro i hi; simp only [List.mem_cons, List.not_mem_nil, or_false] at hi
            subst hi
            refine wpOp_step rfl (fun K hK => ?_)
            rw [if_pos (by kernel_rfl)]
            refine wp_store_mid 65 (.tmp 8) (.tmp 19) rfl (W0.heap.size) 0 ([.int .u8 c0, .int .u8 c1, .int .u8 c2, .int .u8 c3, .int .u8 c4, .int .u8 c5, .int .u8 c6, .int .u8 c7] : List Value).toArray rfl rfl (rh.there 8 rfl) hd (all_oneCell_toArray (one_of8 ints8)) ?_
            replace rm := Row.setCells_other rm (Nat.ne_of_lt (Nat.lt_of_lt_of_le l_rm l_rh)) ([.int .u8 c0, .int .u8 c1, .int .u8 c2, .int .u8 c3, .int .u8 c4, .int .u8 c5, .int .u8 c6, .int .u8 c7] : List Value) 0
            replace sS := sS.below (below_setCells (g := W0.heap.size) ([.int .u8 c0, .int .u8 c1, .int .u8 c2, .int .u8 c3, .int .u8 c4, .int .u8 c5, .int .u8 c6, .int .u8 c7] : List Value) 0 X87 (Below.refl _ _) (Nat.le_refl _)) (Nat.lt_of_lt_of_le l_sS l_rh)
            replace sJ := sJ.below (below_setCells (g := W0.heap.size) ([.int .u8 c0, .int .u8 c1, .int .u8 c2, .int .u8 c3, .int .u8 c4, .int .u8 c5, .int .u8 c6, .int .u8 c7] : List Value) 0 X87 (Below.refl _ _) (Nat.le_refl _)) (Nat.lt_of_lt_of_le l_sJ l_rh)
            replace rg := Row.setCells_other rg (Nat.ne_of_gt lt_rh_rg) ([.int .u8 c0, .int .u8 c1, .int .u8 c2, .int .u8 c3, .int .u8 c4, .int .u8 c5, .int .u8 c6, .int .u8 c7] : List Value) 0
            replace rh := rh.setCells (ys := ([.int .u8 c0, .int .u8 c1, .int .u8 c2, .int .u8 c3, .int .u8 c4, .int .u8 c5, .int .u8 c6, .int .u8 c7] : List Value)) rfl
            replace bR := below_setCells ([.int .u8 c0, .int .u8 c1, .int .u8 c2, .int .u8 c3, .int .u8 c4, .int .u8 c5, .int .u8 c6, .int .u8 c7] : List Value) 0 _ bR (g := W0.heap.size) l_rh
            have hS88 : (fun W' : World => Row W' w.heap.size 33 [.slice (some ⟨b, 0, none⟩) n cap, .slice (some ⟨g, 0, none⟩) m cap']) (X87.setCells (W0.heap.size) 0 ([.int .u8 c0, .int .u8 c1, .int .u8 c2, .int .u8 c3, .int .u8 c4, .int .u8 c5, .int .u8 c6, .int .u8 c7] : List Value)) := rm
            refine hK _ _ ⟨hS88, ?_⟩
            try simp only [Act.put, List.setIfInBounds_toArray, List.set_cons_zero, List.set_cons_succ]
            obtain ⟨X88, hX88⟩ : ∃ X, X = X87.setCells (W0.heap.size) 0 ([.int .u8 c0, .int .u8 c1, .int .u8 c2, .int .u8 c3, .int .u8 c4, .int .u8 c5, .int .u8 c6, .int .u8 c7] : List Value) := ⟨_, rfl⟩
            rw [← hX88] at rm sS sJ rh rg bR hS88 ⊢
            clear hX88 hK K hS87
            refine wpAnyH_done (by kernel_rfl) ?_ _
            go_wp2_with fail
            go_meet
            exact ⟨v85.heap.size, W0.heap.size, _, rfl, rfl, rfl, rg, rh, rm, bW0.trans (bR.mono bW0.size)⟩
          · refine wpOp_step rfl (fun K hK => ?_)
            go_simp
            have lt_rh_rg : W0.heap.size < v84.heap.size := rh.lt
            have rg := Row.new v84 65 [.int .u8 0, .int .u8 0, .int .u8 0, .int .u8 0, .int .u8 0, .int .u8 0, .int .u8 0, .int .u8 0]
            have hA : Below v84.heap.size v84 (v84.alloc (.cells #[.int .u8 0, .int .u8 0, .int .u8 0, .int .u8 0, .int .u8 0, .int .u8 0, .int .u8 0, .int .u8 0] 65)) := (Below.refl _ _).alloc (Nat.le_refl _) _
            replace rm := rm.below hA rm.lt
            replace sS := sS.below hA sS.1
            replace sJ := sJ.below hA sJ.1
            replace rh := rh.below hA rh.lt
            have l_rg := bR.size
            replace bR := bR.trans (hA.mono bR.size)
            have hS89 : (fun W' : World => Row W' w.heap.size 33 [.slice (some ⟨b, 0, none⟩) n cap, .slice (some ⟨g, 0, none⟩) m cap']) (v84.alloc (.cells #[.int .u8 0, .int .u8 0, .int .u8 0, .int .u8 0, .int .u8 0, .int .u8 0, .int .u8 0, .int .u8 0] 65)) := rm
            refine hK _ _ ⟨hS89, ?_⟩
            try simp only [Act.put, List.setIfInBounds_toArray, List.set_cons_zero, List.set_cons_succ]
            obtain ⟨X89, hX89⟩ : ∃ X, X = v84.alloc (.cells #[.int .u8 0, .int .u8 0, .int .u8 0, .int .u8 0, .int .u8 0, .int .u8 0, .int .u8 0, .int .u8 0] 65) := ⟨_, rfl⟩
            rw [← hX89] at rm sS sJ rh rg bR hS89 ⊢
            clear hX89 hA hK K hS84
            refine wpAnyH_all (rs := [8]) (by kernel_rfl) (by simp) ?_
            intro i hi; simp only [List.mem_cons, List.not_mem_nil, or_false] at hi
            subst hi
            refine wpOp_step rfl (fun K hK => ?_)
            go_simp
            with_reducible refine (HD.out X89 sS).mono ?_
            rintro e v90 ⟨rfl, hB90⟩
            replace rm := rm.below hB90 rm.lt
            replace sS := sS.below hB90 sS.1
            replace sJ := sJ.below hB90 sJ.1
            replace rh := rh.below hB90 rh.lt
            replace rg := rg.below hB90 rg.lt
            replace bR := bR.trans (hB90.mono bR.size)
            have hS90 : (fun W' : World => Row W' w.heap.size 33 [.slice (some ⟨b, 0, none⟩) n cap, .slice (some ⟨g, 0, none⟩) m cap']) v90 := rm
            refine hK _ _ ⟨hS90, ?_⟩
            try simp only [Act.put, List.setIfInBounds_toArray, List.set_cons_zero, List.set_cons_succ]
            clear hB90 hK K hS89
            refine wpAnyH_all (rs := [11]) (by kernel_rfl) (by simp) ?_
            intro i hi; simp only [List.mem_cons, List.not_mem_nil, or_false] at hi
            subst hi
            refine wpOp_step rfl (fun K hK => ?_)
            rw [if_pos (by kernel_rfl)]
            refine wp_store_mid 65 (.tmp 7) (.tmp 16) rfl (v84.heap.size) 0 ((rdV e zs [p0, p1, p2, p3, p4, p5, p6, p7] n) : List Value).toArray rfl rfl (rg.there 8 rfl) hd (all_oneCell_toArray (one_of8 (ints_rd _ _ _ _))) ?_
            replace rm := Row.setCells_other rm (Nat.ne_of_lt (Nat.lt_of_lt_of_le l_rm l_rg)) ((rdV e zs [p0, p1, p2, p3, p4, p5, p6, p7] n) : List Value) 0
            replace sS := sS.below (below_setCells (g := v84.heap.size) ((rdV e zs [p0, p1, p2, p3, p4, p5, p6, p7] n) : List Value) 0 v90 (Below.refl _ _) (Nat.le_refl _)) (Nat.lt_of_lt_of_le l_sS l_rg)
            replace sJ := sJ.below (below_setCells (g := v84.heap.size) ((rdV e zs [p0, p1, p2, p3, p4, p5, p6, p7] n) : List Value) 0 v90 (Below.refl _ _) (Nat.le_refl _)) (Nat.lt_of_lt_of_le l_sJ l_rg)
            replace rh := Row.setCells_other rh (Nat.ne_of_lt lt_rh_rg) ((rdV e zs [p0, p1, p2, p3, p4, p5, p6, p7] n) : List Value) 0
            replace rg := rg.setCells (ys := ((rdV e zs [p0, p1, p2, p3, p4, p5, p6, p7] n) : List Value)) rfl
            replace bR := below_setCells ((rdV e zs [p0, p1, p2, p3, p4, p5, p6, p7] n) : List Value) 0 _ bR (g := v84.heap.size) l_rg
            have hS91 : (fun W' : World => Row W' w.heap.size 33 [.slice (some ⟨b, 0, none⟩) n cap, .slice (some ⟨g, 0, none⟩) m cap']) (v90.setCells (v84.heap.size) 0 ((rdV e zs [p0, p1, p2, p3, p4, p5, p6, p7] n) : List Value)) := rm
            refine hK _ _ ⟨hS91, ?_⟩
            try simp only [Act.put, List.setIfInBounds_toArray, List.set_cons_zero, List.set_cons_succ]
            obtain ⟨X91, hX91⟩ : ∃ X, X = v90.setCells (v84.heap.size) 0 ((rdV e zs [p0, p1, p2, p3, p4, p5, p6, p7] n) : List Value) := ⟨_, rfl⟩
            rw [← hX91] at rm sS sJ rh rg bR hS91 ⊢
            clear hX91 hK K hS90
            refine wpAnyH_all (rs := [12]) (by kernel_rfl) (by simp) ?_
            intro i hi; simp only [List.mem_cons, List.not_mem_nil, or_false] at hi
            subst hi
            refine wpOp_step rfl (fun K hK => ?_)
            rw [if_pos (by kernel_rfl)]
            refine wp_store_mid 65 (.tmp 8) (.tmp 19) rfl (W0.heap.size) 0 ([.int .u8 c0, .int .u8 c1, .int .u8 c2, .int .u8 c3, .int .u8 c4, .int .u8 c5, .int .u8 c6, .int .u8 c7] : List Value).toArray rfl rfl (rh.there 8 rfl) hd (all_oneCell_toArray (one_of8 ints8)) ?_
            replace rm := Row.setCells_other rm (Nat.ne_of_lt (Nat.lt_of_lt_of_le l_rm l_rh)) ([.int .u8 c0, .int .u8 c1, .int .u8 c2, .int .u8 c3, .int .u8 c4, .int .u8 c5, .int .u8 c6, .int .u8 c7] : List Value) 0
            replace sS := sS.below (below_setCells (g := W0.heap.size) ([.int .u8 c0, .int .u8 c1, .int .u8 c2, .int .u8 c3, .int .u8 c4, .int .u8 c5, .int .u8 c6, .int .u8 c7] : List Value) 0 X91 (Below.refl _ _) (Nat.le_refl _)) (Nat.lt_of_lt_of_le l_sS l_rh)
            replace sJ := sJ.below (below_setCells (g := W0.heap.size) ([.int .u8 c0, .int .u8 c1, .int .u8 c2, .int .u8 c3, .int .u8 c4, .int .u8 c5, .int .u8 c6, .int .u8 c7] : List Value) 0 X91 (Below.refl _ _) (Nat.le_refl _)) (Nat.lt_of_lt_of_le l_sJ l_rh)
            replace rg := Row.setCells_other rg (Nat.ne_of_gt lt_rh_rg) ([.int .u8 c0, .int .u8 c1, .int .u8 c2, .int .u8 c3, .int .u8 c4, .int .u8 c5, .int .u8 c6, .int .u8 c7] : List Value) 0
            replace rh := rh.setCells (ys := ([.int .u8 c0, .int .u8 c1, .int .u8 c2, .int .u8 c3, .int .u8 c4, .int .u8 c5, .int .u8 c6, .int .u8 c7] : List Value)) rfl
            replace bR := below_setCells ([.int .u8 c0, .int .u8 c1, .int .u8 c2, .int .u8 c3, .int .u8 c4, .int .u8 c5, .int .u8 c6, .int .u8 c7] : List Value) 0 _ bR (g := W0.heap.size) l_rh
            have hS92 : (fun W' : World => Row W' w.heap.size 33 [.slice (some ⟨b, 0, none⟩) n cap, .slice (some ⟨g, 0, none⟩) m cap']) (X91.setCells (W0.heap.size) 0 ([.int .u8 c0, .int .u8 c1, .int .u8 c2, .int .u8 c3, .int .u8 c4, .int .u8 c5, .int .u8 c6, .int .u8 c7] : List Value)) := rm
            refine hK _ _ ⟨hS92, ?_⟩
            try simp only [Act.put, List.setIfInBounds_toArray, List.set_cons_zero, List.set_cons_succ]
            obtain ⟨X92, hX92⟩ : ∃ X, X = X91.setCells (W0.heap.size) 0 ([.int .u8 c0, .int .u8 c1, .int .u8 c2, .int .u8 c3, .int .u8 c4, .int .u8 c5, .int .u8 c6, .int .u8 c7] : List Value) := ⟨_, rfl⟩
            rw [← hX92] at rm sS sJ rh rg bR hS92 ⊢
            clear hX92 hK K hS91
            refine wpAnyH_done (by kernel_rfl) ?_ _
            go_wp2_with fail
            go_meet
            exact ⟨v84.heap.size, W0.heap.size, _, rfl, rfl, rfl, rg, rh, rm, bW0.trans (bR.mono bW0.size)⟩
        · refine wpOp_step rfl (fun K hK => ?_)
          go_simp
          have lt_rh_rg : W0.heap.size < v83.heap.size := rh.lt
          have rg := Row.new v83 65 [.int .u8 0, .int .u8 0, .int .u8 0, .int .u8 0, .int .u8 0, .int .u8 0, .int .u8 0, .int .u8 0]
          have hA : Below v83.heap.size v83 (v83.alloc (.cells #[.int .u8 0, .int .u8 0, .int .u8 0, .int .u8 0, .int .u8 0, .int .u8 0, .int .u8 0, .int .u8 0] 65)) := (Below.refl _ _).alloc (Nat.le_refl _) _
          replace rm := rm.below hA rm.lt
          replace sS := sS.below hA sS.1
          replace sJ := sJ.below hA sJ.1
          replace rh := rh.below hA rh.lt
          have l_rg := bR.size
          replace bR := bR.trans (hA.mono bR.size)
          have hS93 : (fun W' : World => Row W' w.heap.size 33 [.slice (some ⟨b, 0, none⟩) n cap, .slice (some ⟨g, 0, none⟩) m cap']) (v83.alloc (.cells #[.int .u8 0, .int .u8 0, .int .u8 0, .int .u8 0, .int .u8 0, .int .u8 0, .int .u8 0, .int .u8 0] 65)) := rm
          refine hK _ _ ⟨hS93, ?_⟩
          try simp only [Act.put, List.setIfInBounds_toArray, List.set_cons_zero, List.set_cons_succ]
          obtain ⟨X93, hX93⟩ : ∃ X, X = v83.alloc (.cells #[.int .u8 0, .int .u8 0, .int .u8 0, .int .u8 0, .int .u8 0, .int .u8 0, .int .u8 0, .int .u8 0] 65) := ⟨_, rfl⟩
          rw [← hX93] at rm sS sJ rh rg bR hS93 ⊢
          clear hX93 hA hK K hS83
          refine wpAnyH_all (rs := [5]) (by kernel_rfl) (by simp) ?_
          intro i hi; simp only [List.mem_cons, List.not_mem_nil, or_false] at hi
          subst hi
          refine wpOp_step rfl (fun K hK => ?_)
          go_simp
          with_reducible refine (HR.out X93 sS sJ).mono ?_
          rintro e v94 ⟨rfl, hB94⟩
          replace rm := rm.below hB94 rm.lt
          replace sS := sS.below hB94 sS.1
          replace sJ := sJ.below hB94 sJ.1
          replace rh := rh.below hB94 rh.lt
          replace rg := rg.below hB94 rg.lt
          replace bR := bR.trans (hB94.mono bR.size)
          have hS94 : (fun W' : World => Row W' w.heap.size 33 [.slice (some ⟨b, 0, none⟩) n cap, .slice (some ⟨g, 0, none⟩) m cap']) v94 := rm
          refine hK _ _ ⟨hS94, ?_⟩
          try simp only [Act.put, List.setIfInBounds_toArray, List.set_cons_zero, List.set_cons_succ]
          clear hB94 hK K hS93
          refine wpAnyH_all (rs := [8]) (by kernel_rfl) (by simp) ?_
          intro i hi; simp only [List.mem_cons, List.not_mem_nil, or_false] at hi
          subst hi
          refine wpOp_step rfl (fun K hK => ?_)
          go_simp
          with_reducible refine (HD.out v94 sS).mono ?_
          rintro e v95 ⟨rfl, hB95⟩
          replace rm := rm.below hB95 rm.lt
          replace sS := sS.below hB95 sS.1
          replace sJ := sJ.below hB95 sJ.1
          replace rh := rh.below hB95 rh.lt
          replace rg := rg.below hB95 rg.lt
          replace bR := bR.trans (hB95.mono bR.size)
          have hS95 : (fun W' : World => Row W' w.heap.size 33 [.slice (some ⟨b, 0, none⟩) n cap, .slice (some ⟨g, 0, none⟩) m cap']) v95 := rm
          refine hK _ _ ⟨hS95, ?_⟩
          try simp only [Act.put, List.setIfInBounds_toArray, List.set_cons_zero, List.set_cons_succ]
          clear hB95 hK K hS94
          refine wpAnyH_all (rs := [11]) (by kernel_rfl) (by simp) ?_
          intro i hi; simp only [List.mem_cons, List.not_mem_nil, or_false] at hi
          subst hi
          refine wpOp_step rfl (fun K hK => ?_)
          rw [if_pos (by kernel_rfl)]
          refine wp_store_mid 65 (.tmp 7) (.tmp 16) rfl (v83.heap.size) 0 ((rdV e zs [p0, p1, p2, p3, p4, p5, p6, p7] n) : List Value).toArray rfl rfl (rg.there 8 rfl) hd (all_oneCell_toArray (one_of8 (ints_rd _ _ _ _))) ?_
          replace rm := Row.setCells_other rm (Nat.ne_of_lt (Nat.lt_of_lt_of_le l_rm l_rg)) ((rdV e zs [p0, p1, p2, p3, p4, p5, p6, p7] n) : List Value) 0
          replace sS := sS.below (below_setCells (g := v83.heap.size) ((rdV e zs [p0, p1, p2, p3, p4, p5, p6, p7] n) : List Value) 0 v95 (Below.refl _ _) (Nat.le_refl _)) (Nat.lt_of_lt_of_le l_sS l_rg)
          replace sJ := sJ.below (below_setCells (g := v83.heap.size) ((rdV e zs [p0, p1, p2, p3, p4, p5, p6, p7] n) : List Value) 0 v95 (Below.refl _ _) (Nat.le_refl _)) (Nat.lt_of_lt_of_le l_sJ l_rg)
          replace rh := Row.setCells_other rh (Nat.ne_of_lt lt_rh_rg) ((rdV e zs [p0, p1, p2, p3, p4, p5, p6, p7] n) : List Value) 0
          replace rg := rg.setCells (ys := ((rdV e zs [p0, p1, p2, p3, p4, p5, p6, p7] n) : List Value)) rfl
          replace bR := below_setCells ((rdV e zs [p0, p1, p2, p3, p4, p5, p6, p7] n) : List Value) 0 _ bR (g := v83.heap.size) l_rg
          have hS96 : (fun W' : World => Row W' w.heap.size 33 [.slice (some ⟨b, 0, none⟩) n cap, .slice (some ⟨g, 0, none⟩) m cap']) (v95.setCells (v83.heap.size) 0 ((rdV e zs [p0, p1, p2, p3, p4, p5, p6, p7] n) : List Value)) := rm
          refine hK _ _ ⟨hS96, ?_⟩
          try simp only [Act.put, List.setIfInBounds_toArray, List.set_cons_zero, List.set_cons_succ]
          obtain ⟨X96, hX96⟩ : ∃ X, X = v95.setCells (v83.heap.size) 0 ((rdV e zs [p0, p1, p2, p3, p4, p5, p6, p7] n) : List Value) := ⟨_, rfl⟩
          rw [← hX96] at rm sS sJ rh rg bR hS96 ⊢
          clear hX96 hK K hS95
          refine wpAnyH_all (rs := [12]) (by kernel_rfl) (by simp) ?_
          intro i hi; simp only [List.mem_cons, List.not_mem_nil, or_false] at hi
          subst hi
          refine wpOp_step rfl (fun K hK => ?_)
          rw [if_pos (by kernel_rfl)]
          refine wp_store_mid 65 (.tmp 8) (.tmp 19) rfl (W0.heap.size) 0 ([.int .u8 c0, .int .u8 c1, .int .u8 c2, .int .u8 c3, .int .u8 c4, .int .u8 c5, .int .u8 c6, .int .u8 c7] : List Value).toArray rfl rfl (rh.there 8 rfl) hd (all_oneCell_toArray (one_of8 ints8)) ?_
          replace rm := Row.setCells_other rm (Nat.ne_of_lt (Nat.lt_of_lt_of_le l_rm l_rh)) ([.int .u8 c0, .int .u8 c1, .int .u8 c2, .int .u8 c3, .int .u8 c4, .int .u8 c5, .int .u8 c6, .int .u8 c7] : List Value) 0
          replace sS := sS.below (below_setCells (g := W0.heap.size) ([.int .u8 c0, .int .u8 c1, .int .u8 c2, .int .u8 c3, .int .u8 c4, .int .u8 c5, .int .u8 c6, .int .u8 c7] : List Value) 0 X96 (Below.refl _ _) (Nat.le_refl _)) (Nat.lt_of_lt_of_le l_sS l_rh)
          replace sJ := sJ.below (below_setCells (g := W0.heap.size) ([.int .u8 c0, .int .u8 c1, .int .u8 c2, .int .u8 c3, .int .u8 c4, .int .u8 c5, .int .u8 c6, .int .u8 c7] : List Value) 0 X96 (Below.refl _ _) (Nat.le_refl _)) (Nat.lt_of_lt_of_le l_sJ l_rh)
          replace rg := Row.setCells_other rg (Nat.ne_of_gt lt_rh_rg) ([.int .u8 c0, .int .u8 c1, .int .u8 c2, .int .u8 c3, .int .u8 c4, .int .u8 c5, .int .u8 c6, .int .u8 c7] : List Value) 0
          replace rh := rh.setCells (ys := ([.int .u8 c0, .int .u8 c1, .int .u8 c2, .int .u8 c3, .int .u8 c4, .int .u8 c5, .int .u8 c6, .int .u8 c7] : List Value)) rfl
          replace bR := below_setCells ([.int .u8 c0, .int .u8 c1, .int .u8 c2, .int .u8 c3, .int .u8 c4, .int .u8 c5, .int .u8 c6, .int .u8 c7] : List Value) 0 _ bR (g := W0.heap.size) l_rh
          have hS97 : (fun W' : World => Row W' w.heap.size 33 [.slice (some ⟨b, 0, none⟩) n cap, .slice (some ⟨g, 0, none⟩) m cap']) (X96.setCells (W0.heap.size) 0 ([.int .u8 c0, .int .u8 c1, .int .u8 c2, .int .u8 c3, .int .u8 c4, .int .u8 c5, .int .u8 c6, .int .u8 c7] : List Value)) := rm
          refine hK _ _ ⟨hS97, ?_⟩
          try simp only [Act.put, List.setIfInBounds_toArray, List.set_cons_zero, List.set_cons_succ]
          obtain ⟨X97, hX97⟩ : ∃ X, X = X96.setCells (W0.heap.size) 0 ([.int .u8 c0, .int .u8 c1, .int .u8 c2, .int .u8 c3, .int .u8 c4, .int .u8 c5, .int .u8 c6, .int .u8 c7] : List Value) := ⟨_, rfl⟩
          rw [← hX97] at rm sS sJ rh rg bR hS97 ⊢
          clear hX97 hK K hS96
          refine wpAnyH_done (by kernel_rfl) ?_ _
          go_wp2_with fail
          go_meet
          exact ⟨v83.heap.size, W0.heap.size, _, rfl, rfl, rfl, rg, rh, rm, bW0.trans (bR.mono bW0.size)⟩
      · refine wpOp_step rfl (fun K hK => ?_)
        go_simp
        have lt_rh_rg : W0.heap.size < X82.heap.size := rh.lt
        have rg := Row.new X82 65 [.int .u8 0, .int .u8 0, .int .u8 0, .int .u8 0, .int .u8 0, .int .u8 0, .int .u8 0, .int .u8 0]
        have hA : Below X82.heap.size X82 (X82.alloc (.cells #[.int .u8 0, .int .u8 0, .int .u8 0, .int .u8 0, .int .u8 0, .int .u8 0, .int .u8 0, .int .u8 0] 65)) := (Below.refl _ _).alloc (Nat.le_refl _) _
        replace rm := rm.below hA rm.lt
        replace sS := sS.below hA sS.1
        replace sJ := sJ.below hA sJ.1
        replace rh := rh.below hA rh.lt
        have l_rg := bR.size
        replace bR := bR.trans (hA.mono bR.size)
        have hS98 : (fun W' : World => Row W' w.heap.size 33 [.slice (some ⟨b, 0, none⟩) n cap, .slice (some ⟨g, 0, none⟩) m cap']) (X82.alloc (.cells #[.int .u8 0, .int .u8 0, .int .u8 0, .int .u8 0, .int .u8 0, .int .u8 0, .int .u8 0, .int .u8 0] 65)) := rm
        refine hK _ _ ⟨hS98, ?_⟩
        try simp only [Act.put, List.setIfInBounds_toArray, List.set_cons_zero, List.set_cons_succ]
        obtain ⟨X98, hX98⟩ : ∃ X, X = X82.alloc (.cells #[.int .u8 0, .int .u8 0, .int .u8 0, .int .u8 0, .int .u8 0, .int .u8 0, .int .u8 0, .int .u8 0] 65) := ⟨_, rfl⟩
        rw [← hX98] at rm sS sJ rh rg bR hS98 ⊢
        clear hX98 hA hK K hS82
        refine wpAnyH_all (rs := [3]) (by kernel_rfl) (by simp) ?_
        intro i hi; simp only [List.mem_cons, List.not_mem_nil, or_false] at hi
        subst hi
        refine wpOp_step rfl (fun K hK => ?_)
        go_simp
        with_reducible refine (HP.out X98 sS sJ).mono ?_
        rintro e v99 ⟨rfl, hB99⟩
        replace rm := rm.below hB99 rm.lt
        replace sS := sS.below hB99 sS.1
        replace sJ := sJ.below hB99 sJ.1
        replace rh := rh.below hB99 rh.lt
        replace rg := rg.below hB99 rg.lt
        replace bR := bR.trans (hB99.mono bR.size)
        have hS99 : (fun W' : World => Row W' w.heap.size 33 [.slice (some ⟨b, 0, none⟩) n cap, .slice (some ⟨g, 0, none⟩) m cap']) v99 := rm
        refine hK _ _ ⟨hS99, ?_⟩
        try simp only [Act.put, List.setIfInBounds_toArray, List.set_cons_zero, List.set_cons_succ]
        clear hB99 hK K hS98
        refine wpAnyH_all (rs := [5]) (by kernel_rfl) (by simp) ?_
        intro i hi; simp only [List.mem_cons, List.not_mem_nil, or_false] at hi
        subst hi
        refine wpOp_step rfl (fun K hK => ?_)
        go_simp
        with_reducible refine (HR.out v99 sS sJ).mono ?_
        rintro e v100 ⟨rfl, hB100⟩
        replace rm := rm.below hB100 rm.lt
        replace sS := sS.below hB100 sS.1
        replace sJ := sJ.below hB100 sJ.1
        replace rh := rh.below hB100 rh.lt
        replace rg := rg.below hB100 rg.lt
        replace bR := bR.trans (hB100.mono bR.size)
        have hS100 : (fun W' : World => Row W' w.heap.size 33 [.slice (some ⟨b, 0, none⟩) n cap, .slice (some ⟨g, 0, none⟩) m cap']) v100 := rm
        refine hK _ _ ⟨hS100, ?_⟩
        try simp only [Act.put, List.setIfInBounds_toArray, List.set_cons_zero, List.set_cons_succ]
        clear hB100 hK K hS99
        refine wpAnyH_all (rs := [8]) (by kernel_rfl) (by simp) ?_
        intro i hi; simp only [List.mem_cons, List.not_mem_nil, or_false] at hi
        subst hi
        refine wpOp_step rfl (fun K hK => ?_)
        go_simp
        with_reducible refine (HD.out v100 sS).mono ?_
        rintro e v101 ⟨rfl, hB101⟩
        replace rm := rm.below hB101 rm.lt
        replace sS := sS.below hB101 sS.1
        replace sJ := sJ.below hB101 sJ.1
        replace rh := rh.below hB101 rh.lt
        replace rg := rg.below hB101 rg.lt
        replace bR := bR.trans (hB101.mono bR.size)
        have hS101 : (fun W' : World => Row W' w.heap.size 33 [.slice (some ⟨b, 0, none⟩) n cap, .slice (some ⟨g, 0, none⟩) m cap']) v101 := rm
        refine hK _ _ ⟨hS101, ?_⟩
        try simp only [Act.put, List.setIfInBounds_toArray, List.set_cons_zero, List.set_cons_succ]
        clear hB101 hK K hS100
        refine wpAnyH_all (rs := [11]) (by kernel_rfl) (by simp) ?_
        intro i hi; simp only [List.mem_cons, List.not_mem_nil, or_false] at hi
        subst hi
        refine wpOp_step rfl (fun K hK => ?_)
        rw [if_pos (by kernel_rfl)]
        refine wp_store_mid 65 (.tmp 7) (.tmp 16) rfl (X82.heap.size) 0 ((rdV e zs [p0, p1, p2, p3, p4, p5, p6, p7] n) : List Value).toArray rfl rfl (rg.there 8 rfl) hd (all_oneCell_toArray (one_of8 (ints_rd _ _ _ _))) ?_
        replace rm := Row.setCells_other rm (Nat.ne_of_lt (Nat.lt_of_lt_of_le l_rm l_rg)) ((rdV e zs [p0, p1, p2, p3, p4, p5, p6, p7] n) : List Value) 0
        replace sS := sS.below (below_setCells (g := X82.heap.size) ((rdV e zs [p0, p1, p2, p3, p4, p5, p6, p7] n) : List Value) 0 v101 (Below.refl _ _) (Nat.le_refl _)) (Nat.lt_of_lt_of_le l_sS l_rg)
        replace sJ := sJ.below (below_setCells (g := X82.heap.size) ((rdV e zs [p0, p1, p2, p3, p4, p5, p6, p7] n) : List Value) 0 v101 (Below.refl _ _) (Nat.le_refl _)) (Nat.lt_of_lt_of_le l_sJ l_rg)
        replace rh := Row.setCells_other rh (Nat.ne_of_lt lt_rh_rg) ((rdV e zs [p0, p1, p2, p3, p4, p5, p6, p7] n) : List Value) 0
        replace rg := rg.setCells (ys := ((rdV e zs [p0, p1, p2, p3, p4, p5, p6, p7] n) : List Value)) rfl
        replace bR := below_setCells ((rdV e zs [p0, p1, p2, p3, p4, p5, p6, p7] n) : List Value) 0 _ bR (g := X82.heap.size) l_rg
        have hS102 : (fun W' : World => Row W' w.heap.size 33 [.slice (some ⟨b, 0, none⟩) n cap, .slice (some ⟨g, 0, none⟩) m cap']) (v101.setCells (X82.heap.size) 0 ((rdV e zs [p0, p1, p2, p3, p4, p5, p6, p7] n) : List Value)) := rm
        refine hK _ _ ⟨hS102, ?_⟩
        try simp only [Act.put, List.setIfInBounds_toArray, List.set_cons_zero, List.set_cons_succ]
        obtain ⟨X102, hX102⟩ : ∃ X, X = v101.setCells (X82.heap.size) 0 ((rdV e zs [p0, p1, p2, p3, p4, p5, p6, p7] n) : List Value) := ⟨_, rfl⟩
        rw [← hX102] at rm sS sJ rh rg bR hS102 ⊢
        clear hX102 hK K hS101
        refine wpAnyH_all (rs := [12]) (by kernel_rfl) (by simp) ?_
        intro i hi; simp only [List.mem_cons, List.not_mem_nil, or_false] at hi
        subst hi
        refine wpOp_step rfl (fun K hK => ?_)
        rw [if_pos (by kernel_rfl)]
        refine wp_store_mid 65 (.tmp 8) (.tmp 19) rfl (W0.heap.size) 0 ([.int .u8 c0, .int .u8 c1, .int .u8 c2, .int .u8 c3, .int .u8 c4, .int .u8 c5, .int .u8 c6, .int .u8 c7] : List Value).toArray rfl rfl (rh.there 8 rfl) hd (all_oneCell_toArray (one_of8 ints8)) ?_
        replace rm := Row.setCells_other rm (Nat.ne_of_lt (Nat.lt_of_lt_of_le l_rm l_rh)) ([.int .u8 c0, .int .u8 c1, .int .u8 c2, .int .u8 c3, .int .u8 c4, .int .u8 c5, .int .u8 c6, .int .u8 c7] : List Value) 0
        replace sS := sS.below (below_setCells (g := W0.heap.size) ([.int .u8 c0, .int .u8 c1, .int .u8 c2, .int .u8 c3, .int .u8 c4, .int .u8 c5, .int .u8 c6, .int .u8 c7] : List Value) 0 X102 (Below.refl _ _) (Nat.le_refl _)) (Nat.lt_of_lt_of_le l_sS l_rh)
        replace sJ := sJ.below (below_setCells (g := W0.heap.size) ([.int .u8 c0, .int .u8 c1, .int .u8 c2, .int .u8 c3, .int .u8 c4, .int .u8 c5, .int .u8 c6, .int .u8 c7] : List Value) 0 X102 (Below.refl _ _) (Nat.le_refl _)) (Nat.lt_of_lt_of_le l_sJ l_rh)
        replace rg := Row.setCells_other rg (Nat.ne_of_gt lt_rh_rg) ([.int .u8 c0, .int .u8 c1, .int .u8 c2, .int .u8 c3, .int .u8 c4, .int .u8 c5, .int .u8 c6, .int .u8 c7] : List Value) 0
        replace rh := rh.setCells (ys := ([.int .u8 c0, .int .u8 c1, .int .u8 c2, .int .u8 c3, .int .u8 c4, .int .u8 c5, .int .u8 c6, .int .u8 c7] : List Value)) rfl
        replace bR := below_setCells ([.int .u8 c0, .int .u8 c1, .int .u8 c2, .int .u8 c3, .int .u8 c4, .int .u8 c5, .int .u8 c6, .int .u8 c7] : List Value) 0 _ bR (g := W0.heap.size) l_rh
        have hS103 : (fun W' : World => Row W' w.heap.size 33 [.slice (some ⟨b, 0, none⟩) n cap, .slice (some ⟨g, 0, none⟩) m cap']) (X102.setCells (W0.heap.size) 0 ([.int .u8 c0, .int .u8 c1, .int .u8 c2, .int .u8 c3, .int .u8 c4, .int .u8 c5, .int .u8 c6, .int .u8 c7] : List Value)) := rm
        refine hK _ _ ⟨hS103, ?_⟩
        try simp only [Act.put, List.setIfInBounds_toArray, List.set_cons_zero, List.set_cons_succ]
        obtain ⟨X103, hX103⟩ : ∃ X, X = X102.setCells (W0.heap.size) 0 ([.int .u8 c0, .int .u8 c1, .int .u8 c2, .int .u8 c3, .int .u8 c4, .int .u8 c5, .int .u8 c6, .int .u8 c7] : List Value) := ⟨_, rfl⟩
        rw [← hX103] at rm sS sJ rh rg bR hS103 ⊢
        clear hX103 hK K hS102
        refine wpAnyH_done (by kernel_rfl) ?_ _
        go_wp2_with fail
        go_meet
        exact ⟨X82.heap.size, W0.heap.size, _, rfl, rfl, rfl, rg, rh, rm, bW0.trans (bR.mono bW0.size)⟩
  case rest =>
    obtain ⟨q, r, V, rfl, rfl, rfl, rG, rH, rM, bV⟩ := hcut
    have x0 := rM.cell 0
    simp only [List.getElem?_cons_zero] at x0
    have RG := hid rG
    have RH := hid rH
    have BV := hid bV
    have hzV := bV.size
    clear rG rH rM bV sS sJ
    go_wp2_with fail
    go_loopw [9, 23] (fun v i wr => ∃ k : Nat, k ≤ n ∧ i = .int .i64 k ∧ wr.ownsRow V.heap.size 2 1 v (wrE fs [c0, c1, c2, c3, c4, c5, c6, c7] k).length ((wrE fs [c0, c1, c2, c3, c4, c5, c6, c7] k).map (Value.int .i64)) ∧ Below V.heap.size V wr) (fun _ i _ => n - (intOf i).toNat)
    case atStart => exact ⟨0, Nat.zero_le _, rfl, World.ownsRow_nil _ _ _ _, Below.refl _ _⟩
    case round =>
      obtain ⟨k, hk, rfl, hown, hB⟩ := hrel
      have HOW := hid hown
      have HBX := hid hB
      have hzx := hB.size
      have MLEN := hid (HLEN.out k)
      by_cases hlt : k < n
      · have hlt' : (k : Int) < (n : Int) := by omega
        have hk0 : (0 : Int) ≤ (k : Int) := by omega
        have hk8 : (k : Int) < 8 := by omega
        have hk9 : k < 8 := by omega
        have cx := ((RG.out.below hB RG.out.lt).cell k).trans (HRV.out k hlt hk9)
        have cy := ((RH.out.below hB RH.out.lt).cell k).trans (octw_get c0 c1 c2 c3 c4 c5 c6 c7 k hk9)
        rw [← HRD.out k hk9] at cx
        have HY := hid (fun h => wrE_yes (fs := fs) (gs := [c0, c1, c2, c3, c4, c5, c6, c7]) (k := k) h)
        have HN := hid (fun h => wrE_no (fs := fs) (gs := [c0, c1, c2, c3, c4, c5, c6, c7]) (k := k) h)
        obtain ⟨x, hx⟩ : ∃ x, dg fs k = x := ⟨_, rfl⟩
        obtain ⟨y, hy⟩ : ∃ y, dg [c0, c1, c2, c3, c4, c5, c6, c7] k = y := ⟨_, rfl⟩
        rw [hx] at cx HY HN
        rw [hy] at cy HY HN
        clear hown hB hx hy
        by_cases hz9 : x = y
        · have HX := hid (HY.out hz9)
          have d1 : (x != y) = false := by simp [hz9]
          clear hz9
          go_wp2_with fail
          go_quiet (fail)
          go_wp2_with fail
          go_roundw
          case rel => exact ⟨k + 1, by omega, by first | rfl | go_num, by rw [HX.out]; exact HOW.out, below_drewN HBX.out _⟩
          case measure => simp [intOf]; omega
        · have HX := hid (HN.out hz9)
          have d1 : (x != y) = true := by simp [hz9]
          clear hz9
          go_wp2_with fail
          go_quiet (fail)
          have HO1 := hid ((show (wr.drewN nq).ownsRow V.heap.size 2 1 u9 (wrE fs [c0, c1, c2, c3, c4, c5, c6, c7] k).length ((wrE fs [c0, c1, c2, c3, c4, c5, c6, c7] k).map (Value.int .i64)) from HOW.out).alloc (.cells #[.int .i64 (k : Int)] 2))
          have HBA := hid ((below_drewN HBX.out nq).alloc (by simpa using hzx) (.cells #[.int .i64 (k : Int)] 2))
          have n0 := (Row.new (wr.drewN nq) 2 [.int .i64 (k : Int)]).cell 0
          simp only [List.getElem?_cons_zero] at n0

          go_wp2_with (at_builtin; refine wpList_append_own _ rfl _ _ 27 rfl V.heap.size 2 i0 (.int .i64 0) 1 8 Try.underlying27 hi iz0 iz1 iz2 rfl (by decide) _ _ _ rfl HO1.out ⟨wr.heap.size, 0, none⟩ 1 1 [.int .i64 (k : Int)] rfl rfl (by intro j u hj; match j, hj with | 0, hj => simp at hj; subst hj; simpa [Addr.add] using n0) (by intro u hu; simp at hu; subst hu; rfl) (by have := MLEN.out; unfold maxLen; omega) (by have := MLEN.out; omega) (by simp; omega) ?_; intro v' w2 hown' hgrow _)
          have HB2 := hid (HBA.out.grown hgrow (by simp; omega) (fun k e => by have := (HO1.out.lt k e).1; omega))
          have hown2 := hid (show w2.ownsRow V.heap.size 2 1 v' (wrE fs [c0, c1, c2, c3, c4, c5, c6, c7] (k + 1)).length ((wrE fs [c0, c1, c2, c3, c4, c5, c6, c7] (k + 1)).map (Value.int .i64)) by
            rw [HX.out, List.length_append, List.map_append]; exact hown')
          clear hown' hgrow n0
          go_roundw
          case rel => exact ⟨k + 1, by omega, by first | rfl | go_num, hown2.out, HB2.out⟩
          case measure => simp [intOf]; omega
      · obtain rfl : k = n := by omega
        have HO := hid ((OwnI.of_owns hown (by have := MLEN.out; omega)).base (b' := w.heap.size) (by omega))
        have BF := hid (BV.out.trans (hB.mono hzV))
        clear hown hB
        go_wp2_with fail
        go_ret
        exact ⟨_, rfl, HO.out, BF.out⟩
end Go.Proofs.Ytomhmkdfhhmenaa
