/- The digits of a value: the program's, by ranging over the wheels, and the model's. -/
import Derived.Test.YtfifnngdmhdkiaaGreatDoorMgP
import Derived.Test.YtfifnngdmhdkiaaGreatDoorRounds
import Derived.Test.YtfifnngdmhdkiaaGreatDoorSet
namespace Go.Proofs.YtfifnngdmhdkiaaGreatDoor
open Go.RowKit Go.Shelf

attribute [local go_sem] Oper.semAt_some
theorem Row.kept {A B : World} {g : Nat} {e : TypeId} {xs : List Value} {row : Option Nat} (h : Row A g e xs) (hg : A.grownBy B row) (hr : ∀ r, row = some r → ∃ o : Obj, A.heap[r]? = some o ∧ o.isCells = false) : Row B g e xs :=
  (grownBy_keeps_cells hg hr h rfl).trans h

theorem digit_raw2 (v p z : Int) (hv : 0 ≤ v) (hv2 : v ≤ 1000000000000) (hp : 1 ≤ p) (hz : 2 ≤ z) (hz2 : z ≤ 100) :
    IntKind.u8.wrap ((IntKind.i64.wrap (v.tdiv p)).tmod z) = v / p % z := by
  have e1 : v.tdiv p = v / p := Int.tdiv_eq_ediv_of_nonneg hv
  have h0 : 0 ≤ v / p := Int.ediv_nonneg hv (by omega)
  have h1 : v / p ≤ v := Int.ediv_le_self _ hv
  rw [e1, IntWalk.i64_in (v / p) (by omega)]
  have e2 : (v / p).tmod z = v / p % z := Int.tmod_eq_emod_of_nonneg h0
  have h2 := Int.emod_nonneg (v / p) (show z ≠ 0 by omega)
  have h3 := Int.emod_lt_of_pos (v / p) (show 0 < z by omega)
  rw [e2]
  simp only [IntKind.wrap, IntKind.signed, IntKind.bits]
  simp
  omega

set_option maxRecDepth 100000 in
set_option maxHeartbeats 4000000 in
theorem digits_in (F : Fence) (m : Nat) (hf1 : F.fn 33) (hf2 : F.fn 54) (hf3 : F.fn 65) (hro : F.round = none) (hm : 3 ≤ m)
    (b n cap : Nat) (zs : List Int) (hn : n = zs.length) (h8 : n ≤ 8) (hin : inB zs n) (v : Int) (hv : 0 ≤ v) (hv2 : v ≤ 1000000000000) (w : World) (hS : Stk w b zs) :
    CallsIn F m Tryz.prog 33 #[.slice (some ⟨b, 0, none⟩) n cap, .int .i64 v] w fun e W' => e = .returned (.agg #[.int .u8 (dg (dgL zs v) 0), .int .u8 (dg (dgL zs v) 1), .int .u8 (dg (dgL zs v) 2), .int .u8 (dg (dgL zs v) 3), .int .u8 (dg (dgL zs v) 4), .int .u8 (dg (dgL zs v) 5), .int .u8 (dg (dgL zs v) 6), .int .u8 (dg (dgL zs v) 7)]) ∧ Below w.heap.size w W' := by
  have h1 : 1 ≤ m := by omega
  have hlt := hS.1
  have hC := hid hS.2.1
  have hI := hid hin
  have hN := hid hn
  clear hS hin hn
  refine callsIn_of_wp_marks Tryz.func33 rfl hf1 ?_ hro
  simp only [Tryz.ntmps33, List.size_toArray, List.length_cons, List.length_nil, Nat.reduceAdd, Nat.reduceSub, Array.replicate_succ, Array.replicate_zero, List.push_toArray, List.append_toArray, List.nil_append, List.cons_append]
  gi_wp2_with (gi_at_call 54; refine (places_in F (m - 1) hf2 hro _ _ _ _).mono ?_; rintro e w' ⟨rfl, rfl⟩)
  have rS := Row.new w 24 [.slice (some ⟨b, 0, none⟩) n cap]
  have rV := Row.new (w.alloc (.cells #[.slice (some ⟨b, 0, none⟩) n cap] 24)) 2 [.int .i64 v]
  have rR := Row.new ((w.alloc (.cells #[.slice (some ⟨b, 0, none⟩) n cap] 24)).alloc (.cells #[.int .i64 v] 2)) 30 zero8
  have rD := Row.new (((w.alloc (.cells #[.slice (some ⟨b, 0, none⟩) n cap] 24)).alloc (.cells #[.int .i64 v] 2)).alloc (.cells zero8.toArray 30)) 30 zero8
  have bN := Boxed.new ((((w.alloc (.cells #[.slice (some ⟨b, 0, none⟩) n cap] 24)).alloc (.cells #[.int .i64 v] 2)).alloc (.cells zero8.toArray 30)).alloc (.cells zero8.toArray 30)) 24 (.slice (some ⟨b, 0, none⟩) n cap)
  simp only [World.size_alloc] at rV rR rD bN
  have hB0 : Below w.heap.size w (((((w.alloc (.cells #[.slice (some ⟨b, 0, none⟩) n cap] 24)).alloc (.cells #[.int .i64 v] 2)).alloc (.cells zero8.toArray 30)).alloc (.cells zero8.toArray 30)).alloc (.cells #[.slice (some ⟨b, 0, none⟩) n cap] 24)) :=
    (((((Below.refl _ w).alloc (Nat.le_refl _) _).alloc (by simp) _).alloc (by simp; omega) _).alloc (by simp; omega) _).alloc (by simp; omega) _
  have rS' := hid ((((rS.alloc (.cells #[.int .i64 v] 2)).alloc (.cells zero8.toArray 30)).alloc (.cells zero8.toArray 30)).alloc (.cells #[.slice (some ⟨b, 0, none⟩) n cap] 24))
  have rV' := hid (((rV.alloc (.cells zero8.toArray 30)).alloc (.cells zero8.toArray 30)).alloc (.cells #[.slice (some ⟨b, 0, none⟩) n cap] 24))
  have rR' := hid ((rR.alloc (.cells zero8.toArray 30)).alloc (.cells #[.slice (some ⟨b, 0, none⟩) n cap] 24))
  have rD' := hid (rD.alloc (.cells #[.slice (some ⟨b, 0, none⟩) n cap] 24))
  clear rS rV rR rD
  refine wpIn_rangeFunc_ownG hro h1 (gf := 65) (lb := #[.pointer (some ⟨w.heap.size + 1 + 1 + 1 + 1, 0, none⟩)]) rfl hf3 (enters_of Tryz.func65 (by kernel_rfl) rfl)
    (places_stops F (m - 1) hf3 hro (by omega) (w.heap.size + 1 + 1 + 1 + 1) w.heap.size b n cap zs hN.out h8 hI.out _ (by simp) (by simp; omega) hlt bN.cell (fun j hj => (hB0.cell (p := ⟨b, j, none⟩) hlt).trans (hC.out j (by rw [← hN.out]; exact hj)))) belowK_t (belowK_b (by simp; omega)) (Below.refl _ _) (fun _ => rfl)
    (fun pre W => (Row W w.heap.size 24 [.slice (some ⟨b, 0, none⟩) n cap] ∧ Row W (w.heap.size + 1) 2 [.int .i64 v] ∧ Row W (w.heap.size + 1 + 1) 30 zero8 ∧ Row W (w.heap.size + 1 + 1 + 1) 30 (dfold zs v pre)) ∧ Below w.heap.size w W)
    (fun _ _ _ => False)
    (OwnFrom.and (Own.from (fun s A B row hs hg hr => ⟨hs.1.kept hg hr, hs.2.1.kept hg hr, hs.2.2.1.kept hg hr, hs.2.2.2.kept hg hr⟩) _) (ownFrom_below (Nat.le_refl _) (by simp; omega)))
    (fun _ _ _ _ _ hs _ _ => hs)
    ⟨⟨rS'.out, rV'.out, rR'.out, rD'.out⟩, hB0⟩
    (fun x => { tmps := #[.slice (some ⟨b, 0, none⟩) n cap, .int .i64 v, .pointer (some ⟨w.heap.size, 0, none⟩), .pointer (some ⟨w.heap.size + 1, 0, none⟩), .pointer (some ⟨w.heap.size + 1 + 1, 0, none⟩), .pointer (some ⟨w.heap.size + 1 + 1 + 1, 0, none⟩), .int .i64 (x.1 : Int), .int .i64 (szL (zs.take x.1)), .slice (some ⟨b, 0, none⟩) n cap, .func (.func 65) #[] #[.pointer (some ⟨w.heap.size + 1 + 1 + 1 + 1, 0, none⟩)], .int .i64 (x.1 : Int), .int .i64 (szL (zs.take x.1)), undef, undef, undef, undef, undef, undef, undef, undef, undef, undef, undef, undef, undef], defers := [] }) ?assign ?body ?done ?stop
  case assign =>
    intro l x W K hK
    gi_wp2
    exact hK
  case body =>
    rintro l pre x W ⟨⟨hs, hvv, hr, hd⟩, hB⟩ _
    have hk := x.2
    have hc0 := hs.cell 0
    have hc1 := hvv.cell 0
    have hc2 : W.cell? ⟨b, x.1, none⟩ = some (.int .u8 (zs[x.1]?.getD 0)) := (hB.cell (p := ⟨b, x.1, none⟩) hlt).trans (hC.out x.1 (by rw [← hN.out]; exact hk))
    obtain ⟨old, hc3⟩ : ∃ u, W.cell? ⟨w.heap.size + 1 + 1 + 1, x.1, none⟩ = some u := ⟨_, (hd.cell x.1).trans (List.getElem?_eq_getElem (by rw [dfold_len]; omega))⟩
    have hf3 := hd.frozen x.1
    have hset := hid (hd.set x.1 (.int .u8 (v / szL (zs.take x.1) % zs[x.1]?.getD 0)))
    rw [← dfold_snoc] at hset
    have hzb := hI.out x.1 hk
    obtain ⟨s1, s2, _, _⟩ := szL_step zs x.1 (by rw [← hN.out]; exact hk) (by rw [← hN.out]; exact h8) (fun j hj => hI.out j (by omega))
    have HS := hid hs; have HV := hid hvv; have HR := hid hr; have HD := hid hd
    clear hs hvv hr hd
    obtain ⟨z, hz⟩ : ∃ z, z = zs[x.1]?.getD 0 := ⟨_, rfl⟩
    obtain ⟨p, hp⟩ : ∃ p, p = szL (zs.take x.1) := ⟨_, rfl⟩
    rw [← hp, ← hz] at hset
    rw [← hz] at hc2 hzb
    rw [← hp] at s1 s2
    rw [← hp]
    clear hp hz
    have n1 : (p == 0) = false := by simp; omega
    have n3 : IntKind.i64.wrap z = z := IntWalk.i64_in z (by omega)
    have n4 : z ≠ 0 := by omega
    have n5 : p ≠ 0 := by omega
    have n6 : (x.1 : Int) < 8 := by omega
    simp only [List.getElem?_cons_zero] at hc0 hc1
    gi_wp2
    refine region_held (S := fun W' => W'.cell? ⟨w.heap.size, 0, none⟩ = some (.slice (some ⟨b, 0, none⟩) n cap) ∧ W'.cell? ⟨w.heap.size + 1, 0, none⟩ = some (.int .i64 v) ∧ W'.cell? ⟨b, x.1, none⟩ = some (.int .u8 z)) (by kernel_rfl) (by kernel_rfl) (fun hnd => ?_)
    have hS : (fun W' : World => W'.cell? ⟨w.heap.size, 0, none⟩ = some (.slice (some ⟨b, 0, none⟩) n cap) ∧ W'.cell? ⟨w.heap.size + 1, 0, none⟩ = some (.int .i64 v) ∧ W'.cell? ⟨b, x.1, none⟩ = some (.int .u8 z)) W.drew := ⟨hc0, hc1, hc2⟩
    refine anyS_takeD (some 12) (i := 0) (v := ?_) hnd rfl rfl (by kernel_rfl) (by kernel_rfl) (by kernel_rfl) (fun _ _ _ h => h) ⟨by rfl, ?_, fun _ => rfl⟩ hS ?_
    rotate_left
    · intro w' hw'
      obtain ⟨hw1, hw2, hw3⟩ := hw'
      go_simp
      try with_reducible rfl
    simp only [Act.put, List.setIfInBounds_toArray, List.set_cons_zero, List.set_cons_succ]
    refine anyS_takeD (some 13) (i := 1) (v := ?_) hnd rfl rfl (by kernel_rfl) (by kernel_rfl) (by kernel_rfl) (fun _ _ _ h => h) ⟨by rfl, ?_, fun _ => rfl⟩ hS ?_
    rotate_left
    · intro w' hw'
      obtain ⟨hw1, hw2, hw3⟩ := hw'
      go_simp
      try with_reducible rfl
    simp only [Act.put, List.setIfInBounds_toArray, List.set_cons_zero, List.set_cons_succ]
    refine anyS_takeD (some 14) (i := 2) (v := ?_) hnd rfl rfl (by kernel_rfl) (by kernel_rfl) (by kernel_rfl) (fun _ _ _ h => h) ⟨by rfl, ?_, fun _ => rfl⟩ hS ?_
    rotate_left
    · intro w' hw'
      obtain ⟨hw1, hw2, hw3⟩ := hw'
      go_simp
      try with_reducible rfl
    simp only [Act.put, List.setIfInBounds_toArray, List.set_cons_zero, List.set_cons_succ]
    refine anyS_takeD (some 15) (i := 3) (v := ?_) hnd rfl rfl (by kernel_rfl) (by kernel_rfl) (by kernel_rfl) (fun _ _ _ h => h) ⟨by rfl, ?_, fun _ => rfl⟩ hS ?_
    rotate_left
    · intro w' hw'
      obtain ⟨hw1, hw2, hw3⟩ := hw'
      go_simp
      try with_reducible rfl
    simp only [Act.put, List.setIfInBounds_toArray, List.set_cons_zero, List.set_cons_succ]
    refine anyS_takeD (some 16) (i := 4) (v := ?_) hnd rfl rfl (by kernel_rfl) (by kernel_rfl) (by kernel_rfl) (fun _ _ _ h => h) ⟨by rfl, ?_, fun _ => rfl⟩ hS ?_
    rotate_left
    · intro w' hw'
      obtain ⟨hw1, hw2, hw3⟩ := hw'
      go_simp
      try with_reducible rfl
    simp only [Act.put, List.setIfInBounds_toArray, List.set_cons_zero, List.set_cons_succ]
    refine anyS_takeD (some 17) (i := 5) (v := ?_) hnd rfl rfl (by kernel_rfl) (by kernel_rfl) (by kernel_rfl) (fun _ _ _ h => h) ⟨by rfl, ?_, fun _ => rfl⟩ hS ?_
    rotate_left
    · intro w' hw'
      obtain ⟨hw1, hw2, hw3⟩ := hw'
      go_simp
      try with_reducible rfl
    simp only [Act.put, List.setIfInBounds_toArray, List.set_cons_zero, List.set_cons_succ]
    refine anyS_takeD (some 18) (i := 6) (v := ?_) hnd rfl rfl (by kernel_rfl) (by kernel_rfl) (by kernel_rfl) (fun _ _ _ h => h) ⟨by rfl, ?_, fun _ => rfl⟩ hS ?_
    rotate_left
    · intro w' hw'
      obtain ⟨hw1, hw2, hw3⟩ := hw'
      go_simp
      try with_reducible rfl
    simp only [Act.put, List.setIfInBounds_toArray, List.set_cons_zero, List.set_cons_succ]
    refine anyS_takeD (some 19) (i := 7) (v := ?_) hnd rfl rfl (by kernel_rfl) (by kernel_rfl) (by kernel_rfl) (fun _ _ _ h => h) ⟨by rfl, ?_, fun _ => rfl⟩ hS ?_
    rotate_left
    · intro w' hw'
      obtain ⟨hw1, hw2, hw3⟩ := hw'
      go_simp
      try with_reducible rfl
    simp only [Act.put, List.setIfInBounds_toArray, List.set_cons_zero, List.set_cons_succ]
    refine anyS_takeD (some 20) (i := 8) (v := ?_) hnd rfl rfl (by kernel_rfl) (by kernel_rfl) (by kernel_rfl) (fun _ _ _ h => h) ⟨by rfl, ?_, fun _ => rfl⟩ hS ?_
    rotate_left
    · intro w' hw'
      obtain ⟨hw1, hw2, hw3⟩ := hw'
      go_simp
      try with_reducible rfl
    simp only [Act.put, List.setIfInBounds_toArray, List.set_cons_zero, List.set_cons_succ]
    refine anyS_takeD (some 21) (i := 9) (v := ?_) hnd rfl rfl (by kernel_rfl) (by kernel_rfl) (by kernel_rfl) (fun _ _ _ h => h) ⟨by rfl, ?_, fun _ => rfl⟩ hS ?_
    rotate_left
    · intro w' hw'
      obtain ⟨hw1, hw2, hw3⟩ := hw'
      go_simp
      try with_reducible rfl
    simp only [Act.put, List.setIfInBounds_toArray, List.set_cons_zero, List.set_cons_succ]
    refine anyS_takeD (some 22) (i := 10) (v := ?_) hnd rfl rfl (by kernel_rfl) (by kernel_rfl) (by kernel_rfl) (fun _ _ _ h => h) ⟨by rfl, ?_, fun _ => rfl⟩ hS ?_
    rotate_left
    · intro w' hw'
      obtain ⟨hw1, hw2, hw3⟩ := hw'
      go_simp
      try with_reducible rfl
    simp only [Act.put, List.setIfInBounds_toArray, List.set_cons_zero, List.set_cons_succ]
    refine anyS_takeD (some 23) (i := 11) (v := ?_) hnd rfl rfl (by kernel_rfl) (by kernel_rfl) (by kernel_rfl) (fun _ _ _ h => h) ⟨by rfl, ?_, fun _ => rfl⟩ hS ?_
    rotate_left
    · intro w' hw'
      obtain ⟨hw1, hw2, hw3⟩ := hw'
      go_simp
      try with_reducible rfl
    simp only [Act.put, List.setIfInBounds_toArray, List.set_cons_zero, List.set_cons_succ]
    have hc3' : W.drew.cell? ⟨w.heap.size + 1 + 1 + 1, x.1, none⟩ = some old := hc3
    have hf3' : W.drew.frozen? ⟨w.heap.size + 1 + 1 + 1, x.1, none⟩ = false := hf3
    have HQ2 : Hid (IntKind.u8.wrap ((IntKind.i64.wrap (v.tdiv p)).tmod z) = v / p % z) := hid (digit_raw2 v p z hv hv2 s1 (by omega) (by omega))
    refine anyS_oneD none (i := 12) (w' := W.drew.setCell ⟨w.heap.size + 1 + 1 + 1, x.1, none⟩ (.int .u8 (IntKind.u8.wrap ((IntKind.i64.wrap (v.tdiv p)).tmod z)))) hnd (by kernel_rfl) rfl rfl (by rfl) rfl ?_ ?_ (anyS_done (by kernel_rfl) ?_ _)
    · go_simp
    · exact ⟨(cell_far (by show w.heap.size ≠ w.heap.size + 1 + 1 + 1; omega)).trans hc0, (cell_far (by show w.heap.size + 1 ≠ w.heap.size + 1 + 1 + 1; omega)).trans hc1, (cell_far (by show b ≠ w.heap.size + 1 + 1 + 1; omega)).trans hc2⟩
    · rw [HQ2.out]
      exact ⟨((KeepsOthers.drew _).trans (KeepsOthers.setCell _ _ _)).from _, ((Below.refl w.heap.size W).drew).setCell (p := ⟨w.heap.size + 1 + 1 + 1, x.1, none⟩) (by show _ ≤ w.heap.size + 1 + 1 + 1; omega) _,
        ⟨HS.out.other (a := ⟨w.heap.size + 1 + 1 + 1, x.1, none⟩) (by show w.heap.size + 1 + 1 + 1 ≠ w.heap.size; omega) _, HV.out.other (a := ⟨w.heap.size + 1 + 1 + 1, x.1, none⟩) (by show w.heap.size + 1 + 1 + 1 ≠ w.heap.size + 1; omega) _, HR.out.other (a := ⟨w.heap.size + 1 + 1 + 1, x.1, none⟩) (by show w.heap.size + 1 + 1 + 1 ≠ w.heap.size + 1 + 1; omega) _, hset.out⟩, (hB.drew).setCell (p := ⟨w.heap.size + 1 + 1 + 1, x.1, none⟩) (by show _ ≤ w.heap.size + 1 + 1 + 1; omega) _⟩
  case done =>
    rintro D ys W hD rfl ⟨⟨hs, hvv, hr, hd⟩, hB⟩ hK
    rw [dfold_all zs v hN.out h8] at hd
    obtain ⟨a0, e0⟩ : ∃ a, a = dg (dgL zs v) 0 := ⟨_, rfl⟩
    obtain ⟨a1, e1⟩ : ∃ a, a = dg (dgL zs v) 1 := ⟨_, rfl⟩
    obtain ⟨a2, e2⟩ : ∃ a, a = dg (dgL zs v) 2 := ⟨_, rfl⟩
    obtain ⟨a3, e3⟩ : ∃ a, a = dg (dgL zs v) 3 := ⟨_, rfl⟩
    obtain ⟨a4, e4⟩ : ∃ a, a = dg (dgL zs v) 4 := ⟨_, rfl⟩
    obtain ⟨a5, e5⟩ : ∃ a, a = dg (dgL zs v) 5 := ⟨_, rfl⟩
    obtain ⟨a6, e6⟩ : ∃ a, a = dg (dgL zs v) 6 := ⟨_, rfl⟩
    obtain ⟨a7, e7⟩ : ∃ a, a = dg (dgL zs v) 7 := ⟨_, rfl⟩
    rw [← e0, ← e1, ← e2, ← e3, ← e4, ← e5, ← e6, ← e7] at hd
    replace e0 := hid e0
    replace e1 := hid e1
    replace e2 := hid e2
    replace e3 := hid e3
    replace e4 := hid e4
    replace e5 := hid e5
    replace e6 := hid e6
    replace e7 := hid e7
    have c0 := hd.cell 0; have c1 := hd.cell 1; have c2 := hd.cell 2; have c3 := hd.cell 3; have c4 := hd.cell 4; have c5 := hd.cell 5; have c6 := hd.cell 6; have c7 := hd.cell 7
    have k0 := hr.frozen 0; have k1 := hr.frozen 1; have k2 := hr.frozen 2; have k3 := hr.frozen 3; have k4 := hr.frozen 4; have k5 := hr.frozen 5; have k6 := hr.frozen 6; have k7 := hr.frozen 7
    have z0 := hr.cell 0; have z1 := hr.cell 1; have z2 := hr.cell 2; have z3 := hr.cell 3; have z4 := hr.cell 4; have z5 := hr.cell 5; have z6 := hr.cell 6; have z7 := hr.cell 7
    simp only [zero8, List.getElem?_cons_zero, List.getElem?_cons_succ] at c0 c1 c2 c3 c4 c5 c6 c7 z0 z1 z2 z3 z4 z5 z6 z7
    have r2 := hid (hr.set8 rfl (.int .u8 a0) (.int .u8 a1) (.int .u8 a2) (.int .u8 a3) (.int .u8 a4) (.int .u8 a5) (.int .u8 a6) (.int .u8 a7))
    have b2 := hid (below_set8 (g := w.heap.size + 1 + 1) hB (by omega) (.int .u8 a0) (.int .u8 a1) (.int .u8 a2) (.int .u8 a3) (.int .u8 a4) (.int .u8 a5) (.int .u8 a6) (.int .u8 a7))
    have hD2 : w.heap.size + 1 + 1 ≠ D := by simp at hD; omega
    have hD3 : w.heap.size ≤ D := by simp at hD; omega
    have hK2 := hid (heap_set8 (g := w.heap.size + 1 + 1) W D (Ne.symm hD2) (.int .u8 a0) (.int .u8 a1) (.int .u8 a2) (.int .u8 a3) (.int .u8 a4) (.int .u8 a5) (.int .u8 a6) (.int .u8 a7))
    rw [hK] at hK2
    clear hD hr hd hs hvv rS' rV' rR' rD' hB bN hB0
    gi_wp2
    clear c0 c1 c2 c3 c4 c5 c6 c7 k0 k1 k2 k3 k4 k5 k6 k7 z0 z1 z2 z3 z4 z5 z6 z7 hK
    obtain ⟨V, hV⟩ : ∃ V, V = ((((((((W.setCell ⟨w.heap.size + 1 + 1, 0, none⟩ (.int .u8 a0)).setCell ⟨w.heap.size + 1 + 1, 1, none⟩ (.int .u8 a1)).setCell ⟨w.heap.size + 1 + 1, 2, none⟩ (.int .u8 a2)).setCell ⟨w.heap.size + 1 + 1, 3, none⟩ (.int .u8 a3)).setCell ⟨w.heap.size + 1 + 1, 4, none⟩ (.int .u8 a4)).setCell ⟨w.heap.size + 1 + 1, 5, none⟩ (.int .u8 a5)).setCell ⟨w.heap.size + 1 + 1, 6, none⟩ (.int .u8 a6)).setCell ⟨w.heap.size + 1 + 1, 7, none⟩ (.int .u8 a7)) := ⟨_, rfl⟩
    rw [← hV] at r2 b2 hK2 ⊢
    clear hV
    have r2 := r2.out.kept (grownBy_putObj' V D (.deferred none)) (fun r e => by cases e; exact ⟨_, hK2.out, rfl⟩)
    have g0 := r2.cell 0; have g1 := r2.cell 1; have g2 := r2.cell 2; have g3 := r2.cell 3; have g4 := r2.cell 4; have g5 := r2.cell 5; have g6 := r2.cell 6; have g7 := r2.cell 7
    simp only [List.getElem?_cons_zero, List.getElem?_cons_succ] at g0 g1 g2 g3 g4 g5 g6 g7
    refine ⟨by simp, .inl ⟨_, _, rfl, run_takeDeferred hK2.out, ?_⟩⟩
    exact ⟨.agg #[.int .u8 a0, .int .u8 a1, .int .u8 a2, .int .u8 a3, .int .u8 a4, .int .u8 a5, .int .u8 a6, .int .u8 a7], by simp [results, Tryz.results33, go_sem, g0, g1, g2, g3, g4, g5, g6, g7], by rw [e0.out, e1.out, e2.out, e3.out, e4.out, e5.out, e6.out, e7.out], b2.out.trans (belowK_b (w := w) (Nat.le_refl _) V D _ _ hD3 hK2.out rfl rfl)⟩
  case stop =>
    rintro D c pre W _ _ h _
    exact h.elim
end Go.Proofs.YtfifnngdmhdkiaaGreatDoor
