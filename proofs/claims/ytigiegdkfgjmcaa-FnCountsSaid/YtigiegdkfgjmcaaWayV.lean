/- The values of two digits, in a map: the program's. -/
import Derived.Test.YtigiegdkfgjmcaaKeys
import Derived.Test.YtigiegdkfgjmcaaDigits
import Derived.Deep.RegionHeld3
import Derived.OrdersHeld
import Derived.Test.YtigiegdkfgjmcaaHeld
namespace Go.Proofs.Ytigiegdkfgjmcaa
open Go.RowKit Go.Maps
set_option linter.unusedVariables false
theorem Try.mapDig : Try.prog.underlying 66 = some (.map 28 2) := Try.underlying66
theorem make2 (w : World) : (Instr.makeMap 66 (some (.int .i64 2))).run Try.prog w = .ok (.map (some w.heap.size)) (w.alloc (.map #[] 0)) := by
  simp [Instr.makeMap, run_underlying Try.mapDig, asInt, asIntOf, Result.andThen]
/-- block g is a map of numbers at digits that reads as M -/
def OM (w : World) (g n : Nat) (M : DataW Unit) : Prop := w.ownsMap Try.prog 28 (plainElem Try.prog 2) g n M
theorem OM.put {w : World} {g n : Nat} {M : DataW Unit} (h : OM w g n M) (hn : n ≤ 4) {key : Value} {l : Lit} (hk : keyOf Try.prog 28 key = some l) (x : Int) (hx : -9223372036854775808 ≤ x ∧ x ≤ 9223372036854775807) :
    ∃ w', (Instr.mapUpdate 66 (.map (some g)) key (.int .i64 x)).run Try.prog w = .ok () w' ∧ OM w' g (n + 1) (M.put l (.lit (.int .i64 x))) ∧ w.grownBy w' (some g) :=
  World.ownsMap.update h digKeyed Try.mapDig (by unfold maxLen; omega) hk (plainElem_int Try.underlying2 (WalkArith.wf_i64 hx))
theorem row_put {w w' : World} {g b : Nat} {e : TypeId} {xs : List Value} (h : Row w b e xs) (hg : w.grownBy w' (some g)) (hne : b ≠ g) : Row w' b e xs := (hg.5 b h.lt (fun e => hne (Option.some.inj e))).trans h
theorem OM.below {w w' : World} {b n : Nat} {M : DataW Unit} (h : OM w b n M) (hb : Below w.heap.size w w') : OM w' b n M :=
  World.ownsMap.kept (row := none) h ⟨hb.os, hb.tape, hb.output, hb.size, fun i hi _ => hb.block i hi⟩ (by simp)
/-- what valuesOf returns: a map of the two values, or none -/
def VoR (w : World) (v : Bool) (l1 l2 : Lit) (x y : Int) (e : Ending) (w' : World) : Prop :=
  Below w.heap.size w w' ∧ ((v = true ∧ ∃ g, e = .returned (.tuple #[.map (some g), .bool true]) ∧ w.heap.size ≤ g ∧ OM w' g 2 (twoM l1 l2 x y)) ∨ (v = false ∧ e = .returned (.tuple #[.map none, .bool false])))
set_option maxRecDepth 100000 in
set_option maxHeartbeats 1000000 in
theorem valuesOf_no1 (b n cap bl : Nat) (zs : List Int) (d0 d1 d2 d3 d4 d5 d6 d7 e0 e1 e2 e3 e4 e5 e6 e7 : Int) (w : World) (hS : Stk w b zs) (hn : n = zs.length) (hd : Oct d0 d1 d2 d3 d4 d5 d6 d7) (hr : Row w bl 28 [.int .u8 d0, .int .u8 d1, .int .u8 d2, .int .u8 d3, .int .u8 d4, .int .u8 d5, .int .u8 d6, .int .u8 d7, .int .u8 e0, .int .u8 e1, .int .u8 e2, .int .u8 e3, .int .u8 e4, .int .u8 e5, .int .u8 e6, .int .u8 e7]) (hv : okV zs [d0, d1, d2, d3, d4, d5, d6, d7] = false) :
    Calls Try.prog 43 #[.slice (some ⟨b, 0, none⟩) n cap, .slice (some ⟨bl, 0, none⟩) 2 2] w fun e w' => e = .returned (.tuple #[.map none, .bool false]) ∧ Below w.heap.size w w' := by
  have hbl := hr.lt
  have hmm := make2 w
  have W0 : Below w.heap.size w ((w.alloc (.map #[] 0)).alloc (.cells #[.int .u8 d0, .int .u8 d1, .int .u8 d2, .int .u8 d3, .int .u8 d4, .int .u8 d5, .int .u8 d6, .int .u8 d7] 28)) := ((Below.refl _ _).alloc (Nat.le_refl _) _).alloc (by simp) _
  have HB := hid W0
  have HX := hid (validDigits_any b n cap zs d0 d1 d2 d3 d4 d5 d6 d7 _ (hS.below W0 hS.1) hn hd)
  rw [hv] at HX
  have rA := hr.alloc (.map #[] 0)
  have c0 := rA.cell 0
  have c1 := rA.cell 1
  have c2 := rA.cell 2
  have c3 := rA.cell 3
  have c4 := rA.cell 4
  have c5 := rA.cell 5
  have c6 := rA.cell 6
  have c7 := rA.cell 7
  have c8 := rA.cell 8
  have c9 := rA.cell 9
  have c10 := rA.cell 10
  have c11 := rA.cell 11
  have c12 := rA.cell 12
  have c13 := rA.cell 13
  have c14 := rA.cell 14
  have c15 := rA.cell 15
  simp only [List.getElem?_cons_zero, List.getElem?_cons_succ] at c0 c1 c2 c3 c4 c5 c6 c7 c8 c9 c10 c11 c12 c13 c14 c15
  clear hS hd hv W0 rA hr hn
  go_enter Try.func43, Try.ntmps43
  go_wp2_with fail
  refine wp_loop_rounds 3 ?_
  rw [rounds_succ]
  go_wp2_with fail
  refine HX.out.mono ?_
  rintro e w1 ⟨rfl, hB1⟩
  have b1 := hid (HB.out.trans (hB1.mono (by simp; omega)))
  clear hB1
  go_wp2_with fail
  go_ret2
  exact ⟨rfl, b1.out⟩
theorem valuesOf_bd (zs : List Int) (d0 d1 d2 d3 d4 d5 d6 d7 : Int) (hd : Oct d0 d1 d2 d3 d4 d5 d6 d7) (hv : okV zs [d0, d1, d2, d3, d4, d5, d6, d7] = true) (n : Nat) (hn : n = zs.length) : 0 ≤ valL zs [d0, d1, d2, d3, d4, d5, d6, d7] n ∧ valL zs [d0, d1, d2, d3, d4, d5, d6, d7] n ≤ 1000000000000 := by
  subst hn
  obtain ⟨_, h8, hin, hs1, hs2⟩ := okL_out (okV_out hv).1
  have bV := valL_bd zs [d0, d1, d2, d3, d4, d5, d6, d7] zs.length (Nat.le_refl _) hin (okD_lt (okV_out hv).2 h8 (fun j hj => (oct_bd hd j hj).1))
  rw [List.take_length] at bV
  omega
set_option maxRecDepth 100000 in
set_option maxHeartbeats 1000000 in
theorem valuesOf_go (b n cap bl : Nat) (zs : List Int) (d0 d1 d2 d3 d4 d5 d6 d7 e0 e1 e2 e3 e4 e5 e6 e7 : Int) (w : World) (hS : Stk w b zs) (hn : n = zs.length) (hd : Oct d0 d1 d2 d3 d4 d5 d6 d7) (he : Oct e0 e1 e2 e3 e4 e5 e6 e7) (hr : Row w bl 28 [.int .u8 d0, .int .u8 d1, .int .u8 d2, .int .u8 d3, .int .u8 d4, .int .u8 d5, .int .u8 d6, .int .u8 d7, .int .u8 e0, .int .u8 e1, .int .u8 e2, .int .u8 e3, .int .u8 e4, .int .u8 e5, .int .u8 e6, .int .u8 e7]) (hv : okV zs [d0, d1, d2, d3, d4, d5, d6, d7] = true) (l1 l2 : Lit) (hk1 : keyOf Try.prog 28 (.agg #[.int .u8 d0, .int .u8 d1, .int .u8 d2, .int .u8 d3, .int .u8 d4, .int .u8 d5, .int .u8 d6, .int .u8 d7]) = some l1) (hk2 : keyOf Try.prog 28 (.agg #[.int .u8 e0, .int .u8 e1, .int .u8 e2, .int .u8 e3, .int .u8 e4, .int .u8 e5, .int .u8 e6, .int .u8 e7]) = some l2) :
    Calls Try.prog 43 #[.slice (some ⟨b, 0, none⟩) n cap, .slice (some ⟨bl, 0, none⟩) 2 2] w (VoR w (okV zs [e0, e1, e2, e3, e4, e5, e6, e7]) l1 l2 (valL zs [d0, d1, d2, d3, d4, d5, d6, d7] n) (valL zs [e0, e1, e2, e3, e4, e5, e6, e7] n)) := by
  have hbl := hr.lt
  have hbs := hS.1
  have hmm := make2 w
  have W0 : Below w.heap.size w ((w.alloc (.map #[] 0)).alloc (.cells #[.int .u8 d0, .int .u8 d1, .int .u8 d2, .int .u8 d3, .int .u8 d4, .int .u8 d5, .int .u8 d6, .int .u8 d7] 28)) := ((Below.refl _ _).alloc (Nat.le_refl _) _).alloc (by simp) _
  have HB := hid W0
  have HX := hid (validDigits_any b n cap zs d0 d1 d2 d3 d4 d5 d6 d7 _ (hS.below W0 hS.1) hn hd)
  rw [hv] at HX
  have bV := valuesOf_bd zs d0 d1 d2 d3 d4 d5 d6 d7 hd hv n hn
  have HVa := hid (fun (w : World) (hS : Stk w b zs) => value_any b n cap zs d0 d1 d2 d3 d4 d5 d6 d7 hd hv (by omega) w hS)
  have HSt := hid hS
  have rA := hr.alloc (.map #[] 0)
  have rB := hid rA
  have HM0 := hid (show OM ((w.alloc (.map #[] 0)).alloc (.cells #[.int .u8 d0, .int .u8 d1, .int .u8 d2, .int .u8 d3, .int .u8 d4, .int .u8 d5, .int .u8 d6, .int .u8 d7] 28)) w.heap.size 0 (DataW.map []) from (World.ownsMap_made (H := Unit) w Try.prog 28 (plainElem Try.prog 2)).alloc (.cells #[.int .u8 d0, .int .u8 d1, .int .u8 d2, .int .u8 d3, .int .u8 d4, .int .u8 d5, .int .u8 d6, .int .u8 d7] 28))
  have RD := Row.new (w.alloc (.map #[] 0)) 28 [.int .u8 d0, .int .u8 d1, .int .u8 d2, .int .u8 d3, .int .u8 d4, .int .u8 d5, .int .u8 d6, .int .u8 d7]
  simp only [World.size_alloc] at RD
  have HRD := hid RD
  have HBV := hid bV
  have HN := hid hn
  have HR0 := hid hr
  have HV2 := hid (fun (w : World) (hS : Stk w b zs) => validDigits_any b n cap zs e0 e1 e2 e3 e4 e5 e6 e7 w hS hn he)
  have HVb := hid (fun (hv : okV zs [e0, e1, e2, e3, e4, e5, e6, e7] = true) => And.intro (valuesOf_bd zs e0 e1 e2 e3 e4 e5 e6 e7 he hv n hn) (fun (w : World) (hS : Stk w b zs) => value_any b n cap zs e0 e1 e2 e3 e4 e5 e6 e7 he hv (by omega) w hS))
  have HK1 := hid hk1
  have HK2 := hid hk2
  have c0 := rA.cell 0
  have c1 := rA.cell 1
  have c2 := rA.cell 2
  have c3 := rA.cell 3
  have c4 := rA.cell 4
  have c5 := rA.cell 5
  have c6 := rA.cell 6
  have c7 := rA.cell 7
  have c8 := rA.cell 8
  have c9 := rA.cell 9
  have c10 := rA.cell 10
  have c11 := rA.cell 11
  have c12 := rA.cell 12
  have c13 := rA.cell 13
  have c14 := rA.cell 14
  have c15 := rA.cell 15
  simp only [List.getElem?_cons_zero, List.getElem?_cons_succ] at c0 c1 c2 c3 c4 c5 c6 c7 c8 c9 c10 c11 c12 c13 c14 c15
  clear hS hd hv W0 rA hr RD bV hn he hk1 hk2
  go_enter Try.func43, Try.ntmps43
  go_wp2_with fail
  refine wp_loop_rounds 3 ?_
  rw [rounds_succ]
  go_wp2_with fail
  refine HX.out.mono ?_
  rintro e w1 ⟨rfl, hB1⟩
  simp only [World.size_alloc] at hB1
  have hz1 := hB1.size
  simp only [World.size_alloc] at hz1
  have b1 := hid (HB.out.trans (hB1.mono (by omega)))
  have r1 := HRD.out.below hB1 (by simp)
  have HR1 := hid r1
  have m1 := HM0.out.below (by simpa using hB1)
  have HM1 := hid m1
  have HS1 := hid (HSt.out.below (HB.out.trans (hB1.mono (by omega))) hbs)
  have z1 := b1.out.size
  clear hB1 HX
  go_wp2_with fail
  refine wp_region_held (S := (fun W' : World => Row W' (w.heap.size + 1) 28 [.int .u8 d0, .int .u8 d1, .int .u8 d2, .int .u8 d3, .int .u8 d4, .int .u8 d5, .int .u8 d6, .int .u8 d7])) (by kernel_rfl) ?_
  change wpAnyH _ _ _ _ _ _ _ _ (World.drew _)
  have hS0 : (fun W' : World => Row W' (w.heap.size + 1) 28 [.int .u8 d0, .int .u8 d1, .int .u8 d2, .int .u8 d3, .int .u8 d4, .int .u8 d5, .int .u8 d6, .int .u8 d7]) w1.drew := HR1.out.below (Below.refl w1.heap.size w1).drew HR1.out.lt
  refine wpAnyH_takeD (some 22) (i := 0) (v := ?_) rfl rfl (by kernel_rfl) (by kernel_rfl) (by kernel_rfl) (fun _ _ _ h => h) (.inl ⟨by kernel_rfl, ?_⟩) hS0 ?_
  rotate_left
  · intro w' hw'; have f0 := hw'.cell 0; have f1 := hw'.cell 1; have f2 := hw'.cell 2; have f3 := hw'.cell 3; have f4 := hw'.cell 4; have f5 := hw'.cell 5; have f6 := hw'.cell 6; have f7 := hw'.cell 7; simp only [List.getElem?_cons_zero, List.getElem?_cons_succ] at f0 f1 f2 f3 f4 f5 f6 f7; clear hw'; go_simp; try with_reducible rfl
  try simp only [Act.put, List.setIfInBounds_toArray, List.set_cons_zero, List.set_cons_succ]
  refine wpAnyH_takeD (some 23) (i := 1) (v := ?_) rfl rfl (by kernel_rfl) (by kernel_rfl) (by kernel_rfl) (fun _ _ _ h => h) (.inl ⟨by kernel_rfl, ?_⟩) hS0 ?_
  rotate_left
  · intro w' hw'; have f0 := hw'.cell 0; have f1 := hw'.cell 1; have f2 := hw'.cell 2; have f3 := hw'.cell 3; have f4 := hw'.cell 4; have f5 := hw'.cell 5; have f6 := hw'.cell 6; have f7 := hw'.cell 7; simp only [List.getElem?_cons_zero, List.getElem?_cons_succ] at f0 f1 f2 f3 f4 f5 f6 f7; clear hw'; go_simp; try with_reducible rfl
  try simp only [Act.put, List.setIfInBounds_toArray, List.set_cons_zero, List.set_cons_succ]
  refine wpAnyH_takeD (some 24) (i := 2) (v := ?_) rfl rfl (by kernel_rfl) (by kernel_rfl) (by kernel_rfl) (fun _ _ _ h => h) (.inl ⟨by kernel_rfl, ?_⟩) hS0 ?_
  rotate_left
  · intro w' hw'; have f0 := hw'.cell 0; have f1 := hw'.cell 1; have f2 := hw'.cell 2; have f3 := hw'.cell 3; have f4 := hw'.cell 4; have f5 := hw'.cell 5; have f6 := hw'.cell 6; have f7 := hw'.cell 7; simp only [List.getElem?_cons_zero, List.getElem?_cons_succ] at f0 f1 f2 f3 f4 f5 f6 f7; clear hw'; go_simp; try with_reducible rfl
  try simp only [Act.put, List.setIfInBounds_toArray, List.set_cons_zero, List.set_cons_succ]
  refine wpAnyH_takeD (some 25) (i := 3) (v := ?_) rfl rfl (by kernel_rfl) (by kernel_rfl) (by kernel_rfl) (fun _ _ _ h => h) (.inl ⟨by kernel_rfl, ?_⟩) hS0 ?_
  rotate_left
  · intro w' hw'; have f0 := hw'.cell 0; have f1 := hw'.cell 1; have f2 := hw'.cell 2; have f3 := hw'.cell 3; have f4 := hw'.cell 4; have f5 := hw'.cell 5; have f6 := hw'.cell 6; have f7 := hw'.cell 7; simp only [List.getElem?_cons_zero, List.getElem?_cons_succ] at f0 f1 f2 f3 f4 f5 f6 f7; clear hw'; go_simp; try with_reducible rfl
  try simp only [Act.put, List.setIfInBounds_toArray, List.set_cons_zero, List.set_cons_succ]
  refine wpAnyH_all (rs := [4]) (by kernel_rfl) (by simp) ?_
  intro i hi; simp only [List.mem_singleton] at hi; subst hi
  refine wpOp_step rfl (fun K hK => ?_)
  go_simp
  with_reducible refine (HVa.out _ (HS1.out.below (Below.refl w1.heap.size w1).drew (Nat.lt_of_lt_of_le hbs z1))).mono ?_
  rintro e v0 ⟨rfl, hC0⟩
  have hD0 : Below w1.heap.size w1 v0 := (Below.refl w1.heap.size w1).drew.trans hC0
  have hS1 := hS0.below hC0 hS0.lt
  obtain ⟨u0, hrun, hM0, hG0⟩ := (HM1.out.below hD0).put (by omega) HK1.out (valL zs [d0, d1, d2, d3, d4, d5, d6, d7] n) (by have := HBV.out; omega)
  refine hK _ _ ⟨hS1, ?_⟩
  try simp only [Act.put, List.setIfInBounds_toArray, List.set_cons_zero, List.set_cons_succ]
  have HS0r := hid (row_put hS1 hG0 (by omega))
  have HMr0 := hid hM0
  have HGr0 := hid hG0
  have HDr0 := hid hD0
  clear hM0 hG0 hD0 hC0 hS0 hS1
  refine wpAnyH_all (rs := [5]) (by kernel_rfl) (by simp) ?_
  intro i hi; simp only [List.mem_singleton] at hi; subst hi
  refine wpOp_step rfl (fun K hK => ?_)
  go_simp
  refine hK _ _ ⟨HS0r.out, ?_⟩
  try simp only [Act.put, List.setIfInBounds_toArray, List.set_cons_zero, List.set_cons_succ]
  refine wpAnyH_done (by kernel_rfl) ?_ _
  have k1 := hid ((b1.out.trans (HDr0.out.mono z1)).grown HGr0.out (Nat.le_trans z1 HDr0.out.size) (fun k e => by cases e; exact Nat.le_refl _))
  have z2 := k1.out.size
  have HSb := hid (HSt.out.below k1.out hbs)
  have rb := HR0.out.below k1.out hbl
  have e8c := rb.cell 8
  have e9c := rb.cell 9
  have e10c := rb.cell 10
  have e11c := rb.cell 11
  have e12c := rb.cell 12
  have e13c := rb.cell 13
  have e14c := rb.cell 14
  have e15c := rb.cell 15
  simp only [List.getElem?_cons_zero, List.getElem?_cons_succ] at e8c e9c e10c e11c e12c e13c e14c e15c
  have W2 : Below w.heap.size w (u0.alloc (.cells #[.int .u8 e0, .int .u8 e1, .int .u8 e2, .int .u8 e3, .int .u8 e4, .int .u8 e5, .int .u8 e6, .int .u8 e7] 28)) := k1.out.alloc z2 _
  have HW2 := hid W2
  have HY := hid (HV2.out _ (HSt.out.below W2 hbs))
  have HMB := hid (show OM (u0.alloc (.cells #[.int .u8 e0, .int .u8 e1, .int .u8 e2, .int .u8 e3, .int .u8 e4, .int .u8 e5, .int .u8 e6, .int .u8 e7] 28)) w.heap.size 1 ((DataW.map []).put l1 (.lit (.int .i64 (valL zs [d0, d1, d2, d3, d4, d5, d6, d7] n)))) from HMr0.out.alloc _)
  have HRE := hid (Row.new u0 28 [.int .u8 e0, .int .u8 e1, .int .u8 e2, .int .u8 e3, .int .u8 e4, .int .u8 e5, .int .u8 e6, .int .u8 e7])
  have HGB := hid (show w.heap.size < u0.heap.size from HMr0.out.lt)
  clear hrun W2 rb
  cases hv2 : okV zs [e0, e1, e2, e3, e4, e5, e6, e7] with
  | false =>
    rw [hv2] at HY
    have HQ := hid hv2
    clear hv2
    go_wp2_with fail
    rw [rounds_succ]
    go_wp2_with fail
    refine HY.out.mono ?_
    rintro e w2 ⟨rfl, hB2⟩
    simp only [World.size_alloc] at hB2
    have b2 := hid (HW2.out.trans (hB2.mono (by omega)))
    clear hB2
    go_wp2_with fail
    go_ret2
    exact ⟨b2.out, .inr ⟨HQ.out, rfl⟩⟩
  | true =>
    rw [hv2] at HY
    obtain ⟨bW, hVb⟩ := HVb.out hv2
    have HBW := hid bW
    have HVB := hid hVb
    have HQ := hid hv2
    clear hv2 bW hVb
    go_wp2_with fail
    rw [rounds_succ]
    go_wp2_with fail
    refine HY.out.mono ?_
    rintro e w2 ⟨rfl, hB2⟩
    have HR2 := hid (HRE.out.below hB2 (by simp))
    have HM2 := hid (HMB.out.below hB2)
    simp only [World.size_alloc] at hB2
    have b2 := hid (HW2.out.trans (hB2.mono (by omega)))
    have HS2 := hid (HSt.out.below b2.out hbs)
    have z3 := b2.out.size
    clear hB2
    go_wp2_with fail
    refine wp_region_held (S := (fun W' : World => Row W' (u0.heap.size) 28 [.int .u8 e0, .int .u8 e1, .int .u8 e2, .int .u8 e3, .int .u8 e4, .int .u8 e5, .int .u8 e6, .int .u8 e7])) (by kernel_rfl) ?_
    change wpAnyH _ _ _ _ _ _ _ _ (World.drew _)
    have hS0 : (fun W' : World => Row W' (u0.heap.size) 28 [.int .u8 e0, .int .u8 e1, .int .u8 e2, .int .u8 e3, .int .u8 e4, .int .u8 e5, .int .u8 e6, .int .u8 e7]) w2.drew := HR2.out.below (Below.refl w2.heap.size w2).drew HR2.out.lt
    refine wpAnyH_takeD (some 22) (i := 0) (v := ?_) rfl rfl (by kernel_rfl) (by kernel_rfl) (by kernel_rfl) (fun _ _ _ h => h) (.inl ⟨by kernel_rfl, ?_⟩) hS0 ?_
    rotate_left
    · intro w' hw'; have f0 := hw'.cell 0; have f1 := hw'.cell 1; have f2 := hw'.cell 2; have f3 := hw'.cell 3; have f4 := hw'.cell 4; have f5 := hw'.cell 5; have f6 := hw'.cell 6; have f7 := hw'.cell 7; simp only [List.getElem?_cons_zero, List.getElem?_cons_succ] at f0 f1 f2 f3 f4 f5 f6 f7; clear hw'; go_simp; try with_reducible rfl
    try simp only [Act.put, List.setIfInBounds_toArray, List.set_cons_zero, List.set_cons_succ]
    refine wpAnyH_takeD (some 23) (i := 1) (v := ?_) rfl rfl (by kernel_rfl) (by kernel_rfl) (by kernel_rfl) (fun _ _ _ h => h) (.inl ⟨by kernel_rfl, ?_⟩) hS0 ?_
    rotate_left
    · intro w' hw'; have f0 := hw'.cell 0; have f1 := hw'.cell 1; have f2 := hw'.cell 2; have f3 := hw'.cell 3; have f4 := hw'.cell 4; have f5 := hw'.cell 5; have f6 := hw'.cell 6; have f7 := hw'.cell 7; simp only [List.getElem?_cons_zero, List.getElem?_cons_succ] at f0 f1 f2 f3 f4 f5 f6 f7; clear hw'; go_simp; try with_reducible rfl
    try simp only [Act.put, List.setIfInBounds_toArray, List.set_cons_zero, List.set_cons_succ]
    refine wpAnyH_takeD (some 24) (i := 2) (v := ?_) rfl rfl (by kernel_rfl) (by kernel_rfl) (by kernel_rfl) (fun _ _ _ h => h) (.inl ⟨by kernel_rfl, ?_⟩) hS0 ?_
    rotate_left
    · intro w' hw'; have f0 := hw'.cell 0; have f1 := hw'.cell 1; have f2 := hw'.cell 2; have f3 := hw'.cell 3; have f4 := hw'.cell 4; have f5 := hw'.cell 5; have f6 := hw'.cell 6; have f7 := hw'.cell 7; simp only [List.getElem?_cons_zero, List.getElem?_cons_succ] at f0 f1 f2 f3 f4 f5 f6 f7; clear hw'; go_simp; try with_reducible rfl
    try simp only [Act.put, List.setIfInBounds_toArray, List.set_cons_zero, List.set_cons_succ]
    refine wpAnyH_takeD (some 25) (i := 3) (v := ?_) rfl rfl (by kernel_rfl) (by kernel_rfl) (by kernel_rfl) (fun _ _ _ h => h) (.inl ⟨by kernel_rfl, ?_⟩) hS0 ?_
    rotate_left
    · intro w' hw'; have f0 := hw'.cell 0; have f1 := hw'.cell 1; have f2 := hw'.cell 2; have f3 := hw'.cell 3; have f4 := hw'.cell 4; have f5 := hw'.cell 5; have f6 := hw'.cell 6; have f7 := hw'.cell 7; simp only [List.getElem?_cons_zero, List.getElem?_cons_succ] at f0 f1 f2 f3 f4 f5 f6 f7; clear hw'; go_simp; try with_reducible rfl
    try simp only [Act.put, List.setIfInBounds_toArray, List.set_cons_zero, List.set_cons_succ]
    refine wpAnyH_all (rs := [4]) (by kernel_rfl) (by simp) ?_
    intro i hi; simp only [List.mem_singleton] at hi; subst hi
    refine wpOp_step rfl (fun K hK => ?_)
    go_simp
    with_reducible refine (HVB.out _ (HS2.out.below (Below.refl w2.heap.size w2).drew (Nat.lt_of_lt_of_le hbs z3))).mono ?_
    rintro e v1 ⟨rfl, hC1⟩
    have hD1 : Below w2.heap.size w2 v1 := (Below.refl w2.heap.size w2).drew.trans hC1
    have hS1 := hS0.below hC1 hS0.lt
    obtain ⟨u1, hrun, hM1, hG1⟩ := (HM2.out.below hD1).put (by omega) HK2.out (valL zs [e0, e1, e2, e3, e4, e5, e6, e7] n) (by have := HBW.out; omega)
    refine hK _ _ ⟨hS1, ?_⟩
    try simp only [Act.put, List.setIfInBounds_toArray, List.set_cons_zero, List.set_cons_succ]
    have HS1r := hid (row_put hS1 hG1 (by have := HGB.out; omega))
    have HMr1 := hid hM1
    have HGr1 := hid hG1
    have HDr1 := hid hD1
    clear hM1 hG1 hD1 hC1 hS0 hS1
    refine wpAnyH_all (rs := [5]) (by kernel_rfl) (by simp) ?_
    intro i hi; simp only [List.mem_singleton] at hi; subst hi
    refine wpOp_step rfl (fun K hK => ?_)
    go_simp
    refine hK _ _ ⟨HS1r.out, ?_⟩
    try simp only [Act.put, List.setIfInBounds_toArray, List.set_cons_zero, List.set_cons_succ]
    refine wpAnyH_done (by kernel_rfl) ?_ _
    have k2 := hid ((b2.out.trans (HDr1.out.mono z3)).grown HGr1.out (Nat.le_trans z3 HDr1.out.size) (fun k e => by cases e; exact Nat.le_refl _))
    clear hrun
    go_wp2_with fail
    rw [rounds_succ]
    go_wp2_with fail
    go_ret2
    exact ⟨k2.out, .inl ⟨HQ.out, _, rfl, Nat.le_refl _, HMr1.out⟩⟩
end Go.Proofs.Ytigiegdkfgjmcaa
