/- MovesOf: the program's answers. -/
import Derived.Test.YtigiegdkfgjmcaaOf
import Derived.Test.YtigiegdkfgjmcaaMvA
import Derived.Test.YtigiegdkfgjmcaaMovesM
import Derived.Test.YtigiegdkfgjmcaaRoundsD
import Derived.Test.YtigiegdkfgjmcaaVals
import Derived.Test.YtigiegdkfgjmcaaSet
namespace Go.Proofs.Ytigiegdkfgjmcaa
open Go.RowKit Go.Shelf
set_option linter.unusedSimpArgs false
section
attribute [local go_sem] Oper.semAt_some
set_option maxRecDepth 100000 in
set_option maxHeartbeats 4000000 in
theorem moves_yes (b n cap : Nat) (zs : List Int) (d0 d1 d2 d3 d4 d5 d6 d7 c : Int) (w : World) (h : Stk w b zs) (hn : n = zs.length) (ho : Oct d0 d1 d2 d3 d4 d5 d6 d7) (hv : okV zs [d0, d1, d2, d3, d4, d5, d6, d7] = true) (hc : -1000000000000 ≤ c ∧ c ≤ 1000000000000) :
    Calls Try.prog 11 #[.slice (some ⟨b, 0, none⟩) n cap, .agg #[.int .u8 d0, .int .u8 d1, .int .u8 d2, .int .u8 d3, .int .u8 d4, .int .u8 d5, .int .u8 d6, .int .u8 d7], .int .i64 c] w fun e w' => e = .returned (.tuple #[.agg #[.int .i64 (mg (mvL zs (valL zs [d0, d1, d2, d3, d4, d5, d6, d7] zs.length) c) 0), .int .i64 (mg (mvL zs (valL zs [d0, d1, d2, d3, d4, d5, d6, d7] zs.length) c) 1), .int .i64 (mg (mvL zs (valL zs [d0, d1, d2, d3, d4, d5, d6, d7] zs.length) c) 2), .int .i64 (mg (mvL zs (valL zs [d0, d1, d2, d3, d4, d5, d6, d7] zs.length) c) 3), .int .i64 (mg (mvL zs (valL zs [d0, d1, d2, d3, d4, d5, d6, d7] zs.length) c) 4), .int .i64 (mg (mvL zs (valL zs [d0, d1, d2, d3, d4, d5, d6, d7] zs.length) c) 5), .int .i64 (mg (mvL zs (valL zs [d0, d1, d2, d3, d4, d5, d6, d7] zs.length) c) 6), .int .i64 (mg (mvL zs (valL zs [d0, d1, d2, d3, d4, d5, d6, d7] zs.length) c) 7)], .int .i64 0]) ∧ Below w.heap.size w w' := by
  have hlt := h.1
  have hB0 : Below w.heap.size w (((w.alloc (.cells #[.int .u8 d0, .int .u8 d1, .int .u8 d2, .int .u8 d3, .int .u8 d4, .int .u8 d5, .int .u8 d6, .int .u8 d7] 28)).alloc (.cells #[.int .i64 c] 2)).alloc (.cells zeroI8.toArray 34)) := (((Below.refl w.heap.size w).alloc (Nat.le_refl _) _).alloc (by simp) _).alloc (by simp; omega) _
  have rD := ((Row.new w 28 [.int .u8 d0, .int .u8 d1, .int .u8 d2, .int .u8 d3, .int .u8 d4, .int .u8 d5, .int .u8 d6, .int .u8 d7]).alloc (.cells #[.int .i64 c] 2)).alloc (.cells zeroI8.toArray 34)
  have rC := (Row.new (w.alloc (.cells #[.int .u8 d0, .int .u8 d1, .int .u8 d2, .int .u8 d3, .int .u8 d4, .int .u8 d5, .int .u8 d6, .int .u8 d7] 28)) 2 [.int .i64 c]).alloc (.cells zeroI8.toArray 34)
  have rR := Row.new ((w.alloc (.cells #[.int .u8 d0, .int .u8 d1, .int .u8 d2, .int .u8 d3, .int .u8 d4, .int .u8 d5, .int .u8 d6, .int .u8 d7] 28)).alloc (.cells #[.int .i64 c] 2)) 34 zeroI8
  simp only [World.size_alloc] at rC rR
  have s0 : (((w.alloc (.cells #[.int .u8 d0, .int .u8 d1, .int .u8 d2, .int .u8 d3, .int .u8 d4, .int .u8 d5, .int .u8 d6, .int .u8 d7] 28)).alloc (.cells #[.int .i64 c] 2)).alloc (.cells zeroI8.toArray 34)).heap.size = w.heap.size + 1 + 1 + 1 := by simp
  have H0 := h.below hB0 hlt
  obtain ⟨hv1, hv2⟩ := okV_out hv
  obtain ⟨_, h8, hin, hs1, hs2⟩ := okL_out hv1
  have hltd := okD_lt hv2 h8 (fun j hj => (oct_bd ho j hj).1)
  have bV := valL_bd zs [d0, d1, d2, d3, d4, d5, d6, d7] zs.length (Nat.le_refl _) hin hltd
  rw [List.take_length] at bV
  have HV := hid (fun (w : World) (hS : Stk w b zs) => value_any b n cap zs d0 d1 d2 d3 d4 d5 d6 d7 ho hv (by omega) w hS)
  have HX := hid (fun (w : World) (hS : Stk w b zs) => validDigits_any b n cap zs d0 d1 d2 d3 d4 d5 d6 d7 w hS hn ho)
  rw [hv] at HX
  rw [hn] at HV
  rw [← hn] at HV
  have HC := hid (fun w => countInRange_any c w)
  rw [show (decide (-1000000000000 ≤ c) && decide (c ≤ 1000000000000)) = true by simp; omega] at HC
  obtain ⟨T, hT⟩ : ∃ T, T = valL zs [d0, d1, d2, d3, d4, d5, d6, d7] zs.length := ⟨_, rfl⟩
  rw [hn, ← hT, ← hn] at HV
  rw [← hT] at bV
  rw [← hT]
  have hin' : inB zs n := by rw [hn]; exact hin
  have h8' : n ≤ 8 := by omega
  have hCs := hid h.2.1
  have hI := hid hin'
  have hN := hid hn
  clear hT hv hn hv1 hv2 h8 hin hin' hltd ho h
  have hm : 1 ≤ 8 := by omega
  have g1 : Fence.wide.fn 29 := trivial
  have g2 : Fence.wide.fn 30 := trivial
  have g3 : Fence.wide.fn 31 := trivial
  have g4 : Fence.wide.fn 39 := trivial
  refine (callsIn_wide (n := 8)).1 ?_
  refine callsIn_of_wp_marks Try.func11 rfl trivial ?_ rfl
  simp only [Try.ntmps11, List.size_toArray, List.length_cons, List.length_nil, Nat.reduceAdd, Nat.reduceSub, Array.replicate_succ, Array.replicate_zero, List.push_toArray, List.append_toArray, List.nil_append, List.cons_append]
  gi_wp2_with fail
  refine (callsIn_wide.2 (HX.out _ H0)).mono ?_
  rintro e w1 ⟨rfl, hB1⟩
  rw [s0] at hB1
  have hz1 := hB1.size
  rw [s0] at hz1
  have rD1 := rD.below hB1 (by omega)
  have rC1 := rC.below hB1 (by omega)
  have rR1 := rR.below hB1 (by omega)
  have H1 := H0.below hB1 (by omega)
  have B1 := hB0.trans (hB1.mono (by omega))
  have d0c := rD1.cell 0; have d1c := rD1.cell 1; have d2c := rD1.cell 2; have d3c := rD1.cell 3; have d4c := rD1.cell 4; have d5c := rD1.cell 5; have d6c := rD1.cell 6; have d7c := rD1.cell 7
  have cc := rC1.cell 0
  simp only [List.getElem?_cons_zero, List.getElem?_cons_succ] at d0c d1c d2c d3c d4c d5c d6c d7c cc
  clear rD rC rR hB0 hB1 H0 s0
  gi_wp2_with fail
  refine (callsIn_wide.2 (HC.out w1)).mono ?_
  rintro e w' ⟨rfl, rfl⟩
  have e0 : (w1.alloc (.cells #[.int .i64 0, .int .i64 0, .int .i64 0, .int .i64 0, .int .i64 0, .int .i64 0, .int .i64 0, .int .i64 0] 34)).cell? ⟨w.heap.size, 0, none⟩ = some (.int .u8 d0) := (rD1.alloc _).cell 0
  have e1 : (w1.alloc (.cells #[.int .i64 0, .int .i64 0, .int .i64 0, .int .i64 0, .int .i64 0, .int .i64 0, .int .i64 0, .int .i64 0] 34)).cell? ⟨w.heap.size, 1, none⟩ = some (.int .u8 d1) := (rD1.alloc _).cell 1
  have e2 : (w1.alloc (.cells #[.int .i64 0, .int .i64 0, .int .i64 0, .int .i64 0, .int .i64 0, .int .i64 0, .int .i64 0, .int .i64 0] 34)).cell? ⟨w.heap.size, 2, none⟩ = some (.int .u8 d2) := (rD1.alloc _).cell 2
  have e3 : (w1.alloc (.cells #[.int .i64 0, .int .i64 0, .int .i64 0, .int .i64 0, .int .i64 0, .int .i64 0, .int .i64 0, .int .i64 0] 34)).cell? ⟨w.heap.size, 3, none⟩ = some (.int .u8 d3) := (rD1.alloc _).cell 3
  have e4 : (w1.alloc (.cells #[.int .i64 0, .int .i64 0, .int .i64 0, .int .i64 0, .int .i64 0, .int .i64 0, .int .i64 0, .int .i64 0] 34)).cell? ⟨w.heap.size, 4, none⟩ = some (.int .u8 d4) := (rD1.alloc _).cell 4
  have e5 : (w1.alloc (.cells #[.int .i64 0, .int .i64 0, .int .i64 0, .int .i64 0, .int .i64 0, .int .i64 0, .int .i64 0, .int .i64 0] 34)).cell? ⟨w.heap.size, 5, none⟩ = some (.int .u8 d5) := (rD1.alloc _).cell 5
  have e6 : (w1.alloc (.cells #[.int .i64 0, .int .i64 0, .int .i64 0, .int .i64 0, .int .i64 0, .int .i64 0, .int .i64 0, .int .i64 0] 34)).cell? ⟨w.heap.size, 6, none⟩ = some (.int .u8 d6) := (rD1.alloc _).cell 6
  have e7 : (w1.alloc (.cells #[.int .i64 0, .int .i64 0, .int .i64 0, .int .i64 0, .int .i64 0, .int .i64 0, .int .i64 0, .int .i64 0] 34)).cell? ⟨w.heap.size, 7, none⟩ = some (.int .u8 d7) := (rD1.alloc _).cell 7
  gi_wp2_with fail
  have hzA : (w1.alloc (.cells zeroI8.toArray 34)).heap.size = w1.heap.size + 1 := by simp
  have HA := H1.below ((Below.refl w1.heap.size w1).alloc (Nat.le_refl _) (.cells zeroI8.toArray 34)) H1.1
  refine (callsIn_wide.2 (HV.out _ HA)).mono ?_
  rintro e w2 ⟨rfl, hB2⟩
  rw [hzA] at hB2
  have hz2 := hB2.size
  rw [hzA] at hz2
  have rC2 := (rC1.alloc (.cells zeroI8.toArray 34)).below hB2 (by omega)
  have rR2 := (rR1.alloc (.cells zeroI8.toArray 34)).below hB2 (by omega)
  have rM2 := (Row.new w1 34 zeroI8).below hB2 (by omega)
  have B2 := (B1.alloc (by omega) (.cells zeroI8.toArray 34)).trans (hB2.mono (by omega))
  clear d0c d1c d2c d3c d4c d5c d6c d7c e0 e1 e2 e3 e4 e5 e6 e7 cc HA
  gi_wp2_with (gi_at_call 39; refine (places_in Fence.wide _ trivial rfl _ _ _ _).mono ?_; rintro e w' ⟨rfl, rfl⟩)
  have qC := (rC2.alloc (.cells #[.int .i64 T] 2)).alloc (.cells #[.slice (some ⟨b, 0, none⟩) n cap] 24)
  have qR := (rR2.alloc (.cells #[.int .i64 T] 2)).alloc (.cells #[.slice (some ⟨b, 0, none⟩) n cap] 24)
  have qM := (rM2.alloc (.cells #[.int .i64 T] 2)).alloc (.cells #[.slice (some ⟨b, 0, none⟩) n cap] 24)
  have qT := (Row.new w2 2 [.int .i64 T]).alloc (.cells #[.slice (some ⟨b, 0, none⟩) n cap] 24)
  have qS := (Row.new (w2.alloc (.cells #[.int .i64 T] 2)) 24 [.slice (some ⟨b, 0, none⟩) n cap])
  have bV2 : Below w.heap.size w ((w2.alloc (.cells #[.int .i64 T] 2)).alloc (.cells #[.slice (some ⟨b, 0, none⟩) n cap] 24)) := (B2.alloc (by omega) _).alloc (by simp; omega) _
  have sV : (((w2.alloc (.cells #[.int .i64 T] 2)).alloc (.cells #[.slice (some ⟨b, 0, none⟩) n cap] 24))).heap.size = w2.heap.size + 1 + 1 := by simp
  simp only [World.size_alloc] at qS
  have cS := qS.cell 0
  simp only [List.getElem?_cons_zero] at cS
  obtain ⟨V, hV⟩ : ∃ V, V = ((w2.alloc (.cells #[.int .i64 T] 2)).alloc (.cells #[.slice (some ⟨b, 0, none⟩) n cap] 24)) := ⟨_, rfl⟩
  have e1 : (Array.mk [Value.int .i64 T]) = #[.int .i64 T] := rfl
  rw [← hV] at qC qR qM bV2 sV ⊢
  replace qT : Row V w2.heap.size 2 [.int .i64 T] := by rw [hV]; exact qT
  replace cS : V.cell? ⟨w2.heap.size + 1, 0, none⟩ = some (.slice (some ⟨b, 0, none⟩) n cap) := by rw [hV]; exact cS
  clear hV qS rC2 rR2 rM2 rD1 rC1 rR1 e1 hB2 hzA
  refine wpIn_rangeFunc_ownG rfl hm (gf := 55) (lb := #[.pointer (some ⟨w2.heap.size + 1, 0, none⟩)]) rfl trivial (enters_of Try.func55 (by kernel_rfl) rfl)
    (places_stops Fence.wide 7 trivial rfl (by omega) (w2.heap.size + 1) w.heap.size b n cap zs hN.out h8' hI.out V (by omega) (by omega) hlt cS (fun j hj => (bV2.cell (p := ⟨b, j, none⟩) hlt).trans (hCs.out j (by rw [← hN.out]; exact hj)))) belowK_t (belowK_b (by omega)) (Below.refl _ _) (fun _ => rfl)
    (fun pre W => (Row W (w.heap.size + 1) 2 [.int .i64 c] ∧ Row W (w.heap.size + 1 + 1) 34 zeroI8 ∧ Row W w1.heap.size 34 (mfold zs T c pre) ∧ Row W w2.heap.size 2 [.int .i64 T]) ∧ Below w.heap.size w W)
    (fun _ _ _ => False)
    (OwnFrom.and (Own.from (fun s A B row hs hg hr => ⟨hs.1.kept hg hr, hs.2.1.kept hg hr, hs.2.2.1.kept hg hr, hs.2.2.2.kept hg hr⟩) _) (ownFrom_below (Nat.le_refl _) (by omega)))
    (fun _ _ _ _ _ hs _ _ => hs)
    ⟨⟨qC, qR, qM, qT⟩, bV2⟩
    (fun x => { tmps := #[.slice (some ⟨b, 0, none⟩) n cap, .agg #[.int .u8 d0, .int .u8 d1, .int .u8 d2, .int .u8 d3, .int .u8 d4, .int .u8 d5, .int .u8 d6, .int .u8 d7], .int .i64 c, undef, .pointer (some ⟨w.heap.size, 0, none⟩), .pointer (some ⟨w.heap.size + 1, 0, none⟩), .pointer (some ⟨w.heap.size + 1 + 1, 0, none⟩), .int .i64 0, .pointer (some ⟨w1.heap.size, 0, none⟩), .pointer (some ⟨w2.heap.size, 0, none⟩), .int .i64 (x.1 : Int), .int .i64 (szL (zs.take x.1)), .slice (some ⟨b, 0, none⟩) n cap, .agg #[.int .u8 d0, .int .u8 d1, .int .u8 d2, .int .u8 d3, .int .u8 d4, .int .u8 d5, .int .u8 d6, .int .u8 d7], .bool true, .bool false, undef, .int .i64 c, .bool true, .bool false, undef, .slice (some ⟨b, 0, none⟩) n cap, .agg #[.int .u8 d0, .int .u8 d1, .int .u8 d2, .int .u8 d3, .int .u8 d4, .int .u8 d5, .int .u8 d6, .int .u8 d7], .int .i64 T, .slice (some ⟨b, 0, none⟩) n cap, .func (.func 55) #[] #[.pointer (some ⟨w2.heap.size + 1, 0, none⟩)], .int .i64 (x.1 : Int), .int .i64 (szL (zs.take x.1)), undef, undef, undef, undef, undef, undef, undef, undef, undef, undef, undef, undef], defers := [] }) ?assign ?body ?done ?stop
  case assign =>
    intro l x W K hK
    gi_wp2
    exact hK
  case body =>
    rintro l pre x W ⟨⟨hcc, hr, hd, ht⟩, hB⟩ _
    have hk := x.2
    have k0 := hcc.cell 0
    have k1 := ht.cell 0
    simp only [List.getElem?_cons_zero] at k0 k1
    obtain ⟨old, k3⟩ : ∃ u, W.cell? ⟨w1.heap.size, x.1, none⟩ = some u := ⟨_, (hd.cell x.1).trans (List.getElem?_eq_getElem (by rw [mfold_len]; omega))⟩
    have k4 := hd.frozen x.1
    have hset := hid (hd.set x.1 (.int .i64 (mvK zs T c x.1)))
    rw [← mfold_snoc] at hset
    obtain ⟨s1, s2, _, _⟩ := szL_step zs x.1 (by rw [← hN.out]; exact hk) (by rw [← hN.out]; exact h8') (fun j hj => hI.out j (by omega))
    have HC2 := hid hcc; have HR := hid hr; have HT := hid ht
    have HMV : Hid (mvK zs T c x.1 = (T + c) / szL (zs.take x.1) - T / szL (zs.take x.1)) := hid rfl
    clear hcc hr hd ht
    obtain ⟨p, hp⟩ : ∃ p, p = szL (zs.take x.1) := ⟨_, rfl⟩
    rw [← hp] at s1 s2 HMV
    rw [← hp]
    clear hp
    have FD1 := hid (fun w => floorDiv_any (T + c) p (by omega) (by omega) w)
    have FD2 := hid (fun w => floorDiv_any T p (by omega) (by omega) w)
    have n1 : IntKind.i64.wrap (T + c) = T + c := IntWalk.i64_in _ (by omega)
    have n6 : (x.1 : Int) < 8 := by omega
    have hx8 : x.1 < 8 := by omega
    gi_wp2
    refine region_held (S := fun W' => W'.cell? ⟨w.heap.size + 1, 0, none⟩ = some (.int .i64 c) ∧ W'.cell? ⟨w2.heap.size, 0, none⟩ = some (.int .i64 T)) (by kernel_rfl) (by kernel_rfl) (fun hnd => ?_)
    have hS : (fun W' : World => W'.cell? ⟨w.heap.size + 1, 0, none⟩ = some (.int .i64 c) ∧ W'.cell? ⟨w2.heap.size, 0, none⟩ = some (.int .i64 T)) W.drew := ⟨k0, k1⟩
    refine anyS_takeD (some 28) (i := 0) (v := ?_) hnd rfl rfl (by kernel_rfl) (by kernel_rfl) (by kernel_rfl) (fun _ _ _ h => h) ⟨by rfl, ?_, fun _ => rfl⟩ hS ?_
    rotate_left
    · intro w' hw'
      obtain ⟨hw1, hw2⟩ := hw'
      go_simp
      try with_reducible rfl
    simp only [Act.put, List.setIfInBounds_toArray, List.set_cons_zero, List.set_cons_succ]
    refine anyS_takeD (some 29) (i := 1) (v := ?_) hnd rfl rfl (by kernel_rfl) (by kernel_rfl) (by kernel_rfl) (fun _ _ _ h => h) ⟨by rfl, ?_, fun _ => rfl⟩ hS ?_
    rotate_left
    · intro w' hw'
      obtain ⟨hw1, hw2⟩ := hw'
      go_simp
      try with_reducible rfl
    simp only [Act.put, List.setIfInBounds_toArray, List.set_cons_zero, List.set_cons_succ]
    refine anyS_takeD (some 30) (i := 2) (v := ?_) hnd rfl rfl (by kernel_rfl) (by kernel_rfl) (by kernel_rfl) (fun _ _ _ h => h) ⟨by rfl, ?_, fun _ => rfl⟩ hS ?_
    rotate_left
    · intro w' hw'
      obtain ⟨hw1, hw2⟩ := hw'
      go_simp
      try with_reducible rfl
    simp only [Act.put, List.setIfInBounds_toArray, List.set_cons_zero, List.set_cons_succ]
    refine anyS_takeD (some 31) (i := 3) (v := ?_) hnd rfl rfl (by kernel_rfl) (by kernel_rfl) (by kernel_rfl) (fun _ _ _ h => h) ⟨by rfl, ?_, fun _ => rfl⟩ hS ?_
    rotate_left
    · intro w' hw'
      obtain ⟨hw1, hw2⟩ := hw'
      go_simp
      try with_reducible rfl
    simp only [Act.put, List.setIfInBounds_toArray, List.set_cons_zero, List.set_cons_succ]
    try rw [n1]
    refine anyS_takeD (some 32) (i := 4) (v := ?_) hnd rfl rfl (by kernel_rfl) (by kernel_rfl) (by kernel_rfl) (fun _ _ _ h => h) ⟨by rfl, ?_, fun _ => rfl⟩ hS ?_
    rotate_left
    · intro w' hw'
      obtain ⟨hw1, hw2⟩ := hw'
      go_simp
      try with_reducible rfl
    simp only [Act.put, List.setIfInBounds_toArray, List.set_cons_zero, List.set_cons_succ]
    refine anyS_takeD (some 34) (i := 6) (v := ?_) hnd rfl rfl (by kernel_rfl) (by kernel_rfl) (by kernel_rfl) (fun _ _ _ h => h) ⟨by rfl, ?_, fun _ => rfl⟩ hS ?_
    rotate_left
    · intro w' hw'
      obtain ⟨hw1, hw2⟩ := hw'
      go_simp
      try with_reducible rfl
    simp only [Act.put, List.setIfInBounds_toArray, List.set_cons_zero, List.set_cons_succ]
    refine anyS_takeD (some 35) (i := 7) (v := ?_) hnd rfl rfl (by kernel_rfl) (by kernel_rfl) (by kernel_rfl) (fun _ _ _ h => h) ⟨by rfl, ?_, fun _ => rfl⟩ hS ?_
    rotate_left
    · intro w' hw'
      obtain ⟨hw1, hw2⟩ := hw'
      go_simp
      try with_reducible rfl
    simp only [Act.put, List.setIfInBounds_toArray, List.set_cons_zero, List.set_cons_succ]
    refine anyS_call (i := 5) (by kernel_rfl) rfl (by rfl) (fun K hKK => ?_)
    go_simp
    refine ⟨trivial, (CallsIn.inRound l (callsIn_wide.2 (FD1.out _))).mono ?_⟩
    rintro e w' ⟨rfl, rfl⟩
    dsimp only
    refine hKK _ _ hS ?_
    try simp only [Act.put, List.setIfInBounds_toArray, List.set_cons_zero, List.set_cons_succ]
    refine anyS_call (i := 8) (by kernel_rfl) rfl (by rfl) (fun K hKK => ?_)
    go_simp
    refine ⟨trivial, (CallsIn.inRound l (callsIn_wide.2 (FD2.out _))).mono ?_⟩
    rintro e w' ⟨rfl, rfl⟩
    dsimp only
    refine hKK _ _ hS ?_
    try simp only [Act.put, List.setIfInBounds_toArray, List.set_cons_zero, List.set_cons_succ]
    have l1 : -10000000000000 ≤ (T + c) / p := Int.le_ediv_of_mul_le (by omega) (by omega)
    have l2 : (T + c) / p ≤ 10000000000000 := Int.ediv_le_of_le_mul (by omega) (by omega)
    have l3 : 0 ≤ T / p := Int.le_ediv_of_mul_le (by omega) (by omega)
    have l4 : T / p ≤ 10000000000000 := Int.ediv_le_of_le_mul (by omega) (by omega)
    have n2 : IntKind.i64.wrap ((T + c) / p - T / p) = (T + c) / p - T / p := IntWalk.i64_in _ (by omega)
    refine anyS_takeD (some 37) (i := 9) (v := ?_) hnd rfl rfl (by kernel_rfl) (by kernel_rfl) (by kernel_rfl) (fun _ _ _ h => h) ⟨by rfl, ?_, fun _ => rfl⟩ hS ?_
    rotate_left
    · intro w' hw'
      obtain ⟨hw1, hw2⟩ := hw'
      go_simp
      try with_reducible rfl
    simp only [Act.put, List.setIfInBounds_toArray, List.set_cons_zero, List.set_cons_succ]
    refine anyS_takeD (some 38) (i := 10) (v := ?_) hnd rfl rfl (by kernel_rfl) (by kernel_rfl) (by kernel_rfl) (fun _ _ _ h => h) ⟨by rfl, ?_, fun _ => rfl⟩ hS ?_
    rotate_left
    · intro w' hw'
      obtain ⟨hw1, hw2⟩ := hw'
      go_simp
      try with_reducible rfl
    simp only [Act.put, List.setIfInBounds_toArray, List.set_cons_zero, List.set_cons_succ]
    have k3' : W.drew.cell? ⟨w1.heap.size, x.1, none⟩ = some old := k3
    have k4' : W.drew.frozen? ⟨w1.heap.size, x.1, none⟩ = false := k4
    try rw [n2]
    rw [← HMV.out]
    refine anyS_oneD none (i := 11) (w' := W.drew.setCell ⟨w1.heap.size, x.1, none⟩ (.int .i64 (mvK zs T c x.1))) hnd (by kernel_rfl) rfl rfl (by rfl) rfl ?_ ?_ (anyS_done (by kernel_rfl) ?_ _)
    · go_simp
    · exact ⟨(cell_far (by show w.heap.size + 1 ≠ w1.heap.size; omega)).trans k0, (cell_far (by show w2.heap.size ≠ w1.heap.size; omega)).trans k1⟩
    · exact ⟨((KeepsOthers.drew _).trans (KeepsOthers.setCell _ _ _)).from _, ((Below.refl w.heap.size W).drew).setCell (p := ⟨w1.heap.size, x.1, none⟩) (by show _ ≤ w1.heap.size; omega) _,
        ⟨HC2.out.other (a := ⟨w1.heap.size, x.1, none⟩) (by show w1.heap.size ≠ w.heap.size + 1; omega) _, HR.out.other (a := ⟨w1.heap.size, x.1, none⟩) (by show w1.heap.size ≠ w.heap.size + 1 + 1; omega) _, hset.out, HT.out.other (a := ⟨w1.heap.size, x.1, none⟩) (by show w1.heap.size ≠ w2.heap.size; omega) _⟩, (hB.drew).setCell (p := ⟨w1.heap.size, x.1, none⟩) (by show _ ≤ w1.heap.size; omega) _⟩
  case done =>
    rintro D ys W hD rfl ⟨⟨hcc, hr, hd, ht⟩, hB⟩ hK
    rw [mfold_all zs T c hN.out h8'] at hd
    obtain ⟨a0, e0⟩ : ∃ a, a = mg (mvL zs T c) 0 := ⟨_, rfl⟩
    obtain ⟨a1, e1⟩ : ∃ a, a = mg (mvL zs T c) 1 := ⟨_, rfl⟩
    obtain ⟨a2, e2⟩ : ∃ a, a = mg (mvL zs T c) 2 := ⟨_, rfl⟩
    obtain ⟨a3, e3⟩ : ∃ a, a = mg (mvL zs T c) 3 := ⟨_, rfl⟩
    obtain ⟨a4, e4⟩ : ∃ a, a = mg (mvL zs T c) 4 := ⟨_, rfl⟩
    obtain ⟨a5, e5⟩ : ∃ a, a = mg (mvL zs T c) 5 := ⟨_, rfl⟩
    obtain ⟨a6, e6⟩ : ∃ a, a = mg (mvL zs T c) 6 := ⟨_, rfl⟩
    obtain ⟨a7, e7⟩ : ∃ a, a = mg (mvL zs T c) 7 := ⟨_, rfl⟩
    rw [← e0, ← e1, ← e2, ← e3, ← e4, ← e5, ← e6, ← e7] at hd
    replace e0 := hid e0
    replace e1 := hid e1
    replace e2 := hid e2
    replace e3 := hid e3
    replace e4 := hid e4
    replace e5 := hid e5
    replace e6 := hid e6
    replace e7 := hid e7
    have c0 := hd.cell 0; have c1 := hd.cell 1; have c2 := hd.cell 2; have c3 := hd.cell 3; have c4 := hd.cell 4; have c5 := hd.cell 5; have c6 := hd.cell 6; have c7 := hd.cell 7
    have k0 := hr.frozen 0; have k1 := hr.frozen 1; have k2 := hr.frozen 2; have k3 := hr.frozen 3; have k4 := hr.frozen 4; have k5 := hr.frozen 5; have k6 := hr.frozen 6; have k7 := hr.frozen 7
    have z0 := hr.cell 0; have z1 := hr.cell 1; have z2 := hr.cell 2; have z3 := hr.cell 3; have z4 := hr.cell 4; have z5 := hr.cell 5; have z6 := hr.cell 6; have z7 := hr.cell 7
    simp only [zeroI8, List.getElem?_cons_zero, List.getElem?_cons_succ] at c0 c1 c2 c3 c4 c5 c6 c7 z0 z1 z2 z3 z4 z5 z6 z7
    have r2 := hid (hr.set8 rfl (.int .i64 a0) (.int .i64 a1) (.int .i64 a2) (.int .i64 a3) (.int .i64 a4) (.int .i64 a5) (.int .i64 a6) (.int .i64 a7))
    have b2 := hid (below_set8 (g := w.heap.size + 1 + 1) hB (by omega) (.int .i64 a0) (.int .i64 a1) (.int .i64 a2) (.int .i64 a3) (.int .i64 a4) (.int .i64 a5) (.int .i64 a6) (.int .i64 a7))
    have hD2 : w.heap.size + 1 + 1 ≠ D := by omega
    have hD3 : w.heap.size ≤ D := by omega
    have hK2 := hid (heap_set8 (g := w.heap.size + 1 + 1) W D (Ne.symm hD2) (.int .i64 a0) (.int .i64 a1) (.int .i64 a2) (.int .i64 a3) (.int .i64 a4) (.int .i64 a5) (.int .i64 a6) (.int .i64 a7))
    rw [hK] at hK2
    clear hD hr hd hcc ht hB
    gi_wp2
    clear c0 c1 c2 c3 c4 c5 c6 c7 k0 k1 k2 k3 k4 k5 k6 k7 z0 z1 z2 z3 z4 z5 z6 z7 hK
    obtain ⟨X, hX⟩ : ∃ X, X = ((((((((W.setCell ⟨w.heap.size + 1 + 1, 0, none⟩ (.int .i64 a0)).setCell ⟨w.heap.size + 1 + 1, 1, none⟩ (.int .i64 a1)).setCell ⟨w.heap.size + 1 + 1, 2, none⟩ (.int .i64 a2)).setCell ⟨w.heap.size + 1 + 1, 3, none⟩ (.int .i64 a3)).setCell ⟨w.heap.size + 1 + 1, 4, none⟩ (.int .i64 a4)).setCell ⟨w.heap.size + 1 + 1, 5, none⟩ (.int .i64 a5)).setCell ⟨w.heap.size + 1 + 1, 6, none⟩ (.int .i64 a6)).setCell ⟨w.heap.size + 1 + 1, 7, none⟩ (.int .i64 a7)) := ⟨_, rfl⟩
    rw [← hX] at r2 b2 hK2 ⊢
    clear hX
    have r2 := r2.out.kept (grownBy_putObj' X D (.deferred none)) (fun r e => by cases e; exact ⟨_, hK2.out, rfl⟩)
    have g0 := r2.cell 0; have g1 := r2.cell 1; have g2 := r2.cell 2; have g3 := r2.cell 3; have g4 := r2.cell 4; have g5 := r2.cell 5; have g6 := r2.cell 6; have g7 := r2.cell 7
    simp only [List.getElem?_cons_zero, List.getElem?_cons_succ] at g0 g1 g2 g3 g4 g5 g6 g7
    refine ⟨by simp, .inl ⟨_, _, rfl, run_takeDeferred hK2.out, ?_⟩⟩
    exact ⟨.tuple #[.agg #[.int .i64 a0, .int .i64 a1, .int .i64 a2, .int .i64 a3, .int .i64 a4, .int .i64 a5, .int .i64 a6, .int .i64 a7], .int .i64 0], by simp [results, Try.results11, go_sem, g0, g1, g2, g3, g4, g5, g6, g7], by rw [e0.out, e1.out, e2.out, e3.out, e4.out, e5.out, e6.out, e7.out], b2.out.trans (belowK_b (w := w) (Nat.le_refl _) X D _ _ hD3 hK2.out rfl rfl)⟩

  case stop =>
    rintro D c pre W _ _ h _
    exact h.elim


end
end Go.Proofs.Ytigiegdkfgjmcaa
