/- Which tickets of a list are genuine, in a map: the program's. -/
import Derived.Test.YtnfgapgjkkeofaaKeyT
import Derived.Test.YtnfgapgjkkeofaaTick
import Derived.OrdersHeld
namespace Go.Proofs.Ytnfgapgjkkeofaa
open Go.RowKit Go.Maps
set_option linter.unusedVariables false
set_option linter.unusedSimpArgs false
/-- whether a ticket is genuine, of its numbers -/
def genF (zs : List Int) (f : Nat → Int) : Bool := gen zs [f 1, f 2, f 3, f 4, f 5, f 6, f 7, f 8] (f 0) (f 9)
theorem genF_same (zs : List Int) (f h : Nat → Int) (e : tkVal f = tkVal h) : genF zs f = genF zs h := by
  have k := tkVal_inj e
  unfold genF
  rw [k 0 (by omega), k 1 (by omega), k 2 (by omega), k 3 (by omega), k 4 (by omega), k 5 (by omega), k 6 (by omega), k 7 (by omega), k 8 (by omega), k 9 (by omega)]
/-- the map of a list of tickets, with a code -/
def GoR (w : World) (zs : List Int) (ts : List (Nat → Int)) (e : Ending) (w' : World) : Prop :=
  Below w.heap.size w w' ∧ ((okL zs = false ∧ e = .returned (.tuple #[.map none, .int .i64 1])) ∨ (okL zs = true ∧ 60 < ts.length ∧ e = .returned (.tuple #[.map none, .int .i64 3])) ∨
    (okL zs = true ∧ ts.length ≤ 60 ∧ ∃ M, e = .returned (.tuple #[.map (some w.heap.size), .int .i64 0]) ∧ TM w' w.heap.size ts.length M ∧ TkM (genF zs) ts ts.length M))
set_option maxRecDepth 100000 in
set_option maxHeartbeats 4000000 in
theorem genuineOf_any (B m cap : Nat) (zs : List Int) (hm : m = zs.length) (b n cap' : Nat) (ts : List (Nat → Int)) (hn : n = ts.length) (w : World) (hS : Stk w B zs) (hT : Tst w b ts) (hb : ∀ j, j < ts.length → tkB (ts[j]?.getD (fun _ => 0))) :
    Calls Try.prog 22 #[.slice (some ⟨B, 0, none⟩) m cap, .slice (some ⟨b, 0, none⟩) n cap'] w (GoR w zs ts) := by
  have hl := hT.2.2
  rw [← hn] at hl
  have hbl := hT.1
  have hsl := hS.1
  have hC := hid hT.2.1
  have HV := hid (validStack_any B m cap zs w hS hm)
  have HN := hid hn
  have HSS := hid hS
  have HTB := hid hb
  cases hv : okL zs with
  | false =>
    have HQ := hid hv
    rw [hv] at HV
    clear hv hS hT hn hm hb
    go_enter Try.func22, Try.ntmps22
    go_wp2_with fail
    refine HV.out.mono ?_
    rintro e w1 ⟨rfl, rfl⟩
    go_wp2_with fail
    go_ret2
    exact ⟨Below.refl _ _, .inl ⟨HQ.out, rfl⟩⟩
  | true =>
    have HQ := hid hv
    rw [hv] at HV
    by_cases h60 : 60 < n
    · have h61 : (60 : Int) < (n : Int) := by omega
      clear hv hS hT hn hm hb
      go_enter Try.func22, Try.ntmps22
      go_wp2_with fail
      refine HV.out.mono ?_
      rintro e w1 ⟨rfl, rfl⟩
      go_wp2_with fail
      go_ret2
      exact ⟨Below.refl _ _, .inr (.inl ⟨HQ.out, by rw [← HN.out]; exact h60, rfl⟩)⟩
    · have h61 : ¬ (60 : Int) < (n : Int) := by omega
      have HGG := hid (fun (x0 x1 x2 x3 x4 x5 x6 x7 x8 x9 : Int) (W : World) (k : Stk W B zs) h0 h1 => genuine_any B m cap zs x0 x1 x2 x3 x4 x5 x6 x7 x8 x9 W k hm hv h0 h1)
      have M0 := hid (World.ownsMap_made (H := Unit) w Try.prog 48 (plainElem Try.prog 4))
      have B0 := hid ((Below.refl w.heap.size w).alloc (Nat.le_refl _) (.map #[] 0))
      have MK : ∀ w, Sem.run Try.prog (Instr.makeMap 52 none) w = .ok (.map (some w.heap.size)) (w.alloc (.map #[] 0)) := fun _ => rfl
      clear hv hS hT hn hm hb
      go_enter Try.func22, Try.ntmps22
      go_wp2_with fail
      refine HV.out.mono ?_
      rintro e w1 ⟨rfl, rfl⟩
      go_wp2_with fail
      go_loopw [18] (fun i wr => ∃ (k : Nat) (M : DataW Unit), k ≤ n ∧ i = .int .i64 k ∧ TM wr w.heap.size k M ∧ TkM (genF zs) ts k M ∧ Below w.heap.size w wr) (fun i _ => n - (intOf i).toNat)
      case atStart => exact ⟨0, _, Nat.zero_le _, rfl, M0.out, TkM.start _ _, B0.out⟩
      case round =>
        obtain ⟨k, M, hk, rfl, hM, hTk, hB⟩ := hrel
        have HM := hid hM
        have HTK := hid hTk
        by_cases hlt : k < n
        · have hlt' : (k : Int) < (n : Int) := by omega
          have hk0 : (0 : Int) ≤ (k : Int) := by omega
          have hzr := hB.size
          have hgl := hM.lt
          have HTBk := HTB.out k (by rw [← HN.out]; exact hlt)
          have hcc := hC.out k (by rw [← HN.out]; exact hlt)
          obtain ⟨f, hf⟩ : ∃ f, ts[k]?.getD (fun _ => 0) = f := ⟨_, rfl⟩
          have hcc' : ∀ i, i < 10 → w.cell? ⟨b, k * 10 + i, none⟩ = some (tkv i (f i)) := fun i hi => by rw [hcc i hi, tk, hf]
          rw [hf] at HTBk
          obtain ⟨l, hkl⟩ := keyTk HTBk
          have HST := hid (fun M' (h : M' = M.put l (.lit (.bool (genF zs f)))) => show TkM (genF zs) ts (k + 1) M' by
            rw [h, ← hf]; exact HTK.out.step (by rw [hf]; exact hkl) (genF_same zs))
          have c0 := (hB.cell (p := ⟨b, k * 10, none⟩) hbl).trans (hcc' 0 (by omega))
          have c1 := (hB.cell (p := ⟨b, k * 10 + 1, none⟩) hbl).trans (hcc' 1 (by omega))
          have c2 := (hB.cell (p := ⟨b, k * 10 + 2, none⟩) hbl).trans (hcc' 2 (by omega))
          have c3 := (hB.cell (p := ⟨b, k * 10 + 3, none⟩) hbl).trans (hcc' 3 (by omega))
          have c4 := (hB.cell (p := ⟨b, k * 10 + 4, none⟩) hbl).trans (hcc' 4 (by omega))
          have c5 := (hB.cell (p := ⟨b, k * 10 + 5, none⟩) hbl).trans (hcc' 5 (by omega))
          have c6 := (hB.cell (p := ⟨b, k * 10 + 6, none⟩) hbl).trans (hcc' 6 (by omega))
          have c7 := (hB.cell (p := ⟨b, k * 10 + 7, none⟩) hbl).trans (hcc' 7 (by omega))
          have c8 := (hB.cell (p := ⟨b, k * 10 + 8, none⟩) hbl).trans (hcc' 8 (by omega))
          have c9 := (hB.cell (p := ⟨b, k * 10 + 9, none⟩) hbl).trans (hcc' 9 (by omega))
          obtain ⟨t0, t1, t2⟩ := HTBk
          have HG0 := hid (HGG.out (f 0) (f 1) (f 2) (f 3) (f 4) (f 5) (f 6) (f 7) (f 8) (f 9))
          have HG := hid (fun W k => HG0.out W k t0 t1)
          have hgv : gen zs [f 1, f 2, f 3, f 4, f 5, f 6, f 7, f 8] (f 0) (f 9) = genF zs f := rfl
          rw [hgv] at HG
          obtain ⟨gv, hgv2⟩ : ∃ z, genF zs f = z := ⟨_, rfl⟩
          rw [hgv2] at HG HST
          unfold tkVal at hkl
          obtain ⟨x0, hx0⟩ : ∃ x, f 0 = x := ⟨_, rfl⟩
          obtain ⟨x1, hx1⟩ : ∃ x, f 1 = x := ⟨_, rfl⟩
          obtain ⟨x2, hx2⟩ : ∃ x, f 2 = x := ⟨_, rfl⟩
          obtain ⟨x3, hx3⟩ : ∃ x, f 3 = x := ⟨_, rfl⟩
          obtain ⟨x4, hx4⟩ : ∃ x, f 4 = x := ⟨_, rfl⟩
          obtain ⟨x5, hx5⟩ : ∃ x, f 5 = x := ⟨_, rfl⟩
          obtain ⟨x6, hx6⟩ : ∃ x, f 6 = x := ⟨_, rfl⟩
          obtain ⟨x7, hx7⟩ : ∃ x, f 7 = x := ⟨_, rfl⟩
          obtain ⟨x8, hx8⟩ : ∃ x, f 8 = x := ⟨_, rfl⟩
          obtain ⟨x9, hx9⟩ : ∃ x, f 9 = x := ⟨_, rfl⟩
          rw [hx0] at c0
          rw [hx1] at c1
          rw [hx2] at c2
          rw [hx3] at c3
          rw [hx4] at c4
          rw [hx5] at c5
          rw [hx6] at c6
          rw [hx7] at c7
          rw [hx8] at c8
          rw [hx9] at c9
          change _ = some (Value.int .i64 x0) at c0
          change _ = some (Value.int .u8 x1) at c1
          change _ = some (Value.int .u8 x2) at c2
          change _ = some (Value.int .u8 x3) at c3
          change _ = some (Value.int .u8 x4) at c4
          change _ = some (Value.int .u8 x5) at c5
          change _ = some (Value.int .u8 x6) at c6
          change _ = some (Value.int .u8 x7) at c7
          change _ = some (Value.int .u8 x8) at c8
          change _ = some (Value.int .u16 x9) at c9
          rw [hx0, hx1, hx2, hx3, hx4, hx5, hx6, hx7, hx8, hx9] at HG hkl
          have HK := hid hkl
          clear hx0 hx1 hx2 hx3 hx4 hx5 hx6 hx7 hx8 hx9 hkl hf hcc hcc' HG0 hgv hgv2 t0 t1 t2
          obtain ⟨U, hU⟩ : ∃ U, U = wr.alloc (.cells #[.int .i64 x0, .int .u8 x1, .int .u8 x2, .int .u8 x3, .int .u8 x4, .int .u8 x5, .int .u8 x6, .int .u8 x7, .int .u8 x8, .int .u16 x9] 48) := ⟨_, rfl⟩
          have bU : Below wr.heap.size wr U := by rw [hU]; exact (Below.refl _ _).alloc (Nat.le_refl _) _
          have RB := hid (show Row U wr.heap.size 48 [.int .i64 x0, .int .u8 x1, .int .u8 x2, .int .u8 x3, .int .u8 x4, .int .u8 x5, .int .u8 x6, .int .u8 x7, .int .u8 x8, .int .u16 x9] by rw [hU]; exact Row.new _ _ _)
          have HMU := hid (hM.below bU)
          have BU := hid (hB.trans (bU.mono hzr))
          have SU := hid (HSS.out.below BU.out hsl)
          have HZ := hid (show w.heap.size < wr.heap.size from hgl)
          have HU := hid hU
          clear hM hTk hB bU hU
          go_upto_region 9 with fail
          rw [← HU.out]
          clear c0 c1 c2 c3 c4 c5 c6 c7 c8 c9
          refine wp_region_held (S := (fun W' : World => Row W' wr.heap.size 48 [.int .i64 x0, .int .u8 x1, .int .u8 x2, .int .u8 x3, .int .u8 x4, .int .u8 x5, .int .u8 x6, .int .u8 x7, .int .u8 x8, .int .u16 x9])) (by kernel_rfl) ?_
          change wpAnyH _ _ _ _ _ _ _ _ (World.drew _)
          have SUd := hid (SU.out.below (Below.refl U.heap.size U).drew SU.out.1)
          have hS0 : (fun W' : World => Row W' wr.heap.size 48 [.int .i64 x0, .int .u8 x1, .int .u8 x2, .int .u8 x3, .int .u8 x4, .int .u8 x5, .int .u8 x6, .int .u8 x7, .int .u8 x8, .int .u16 x9]) U.drew := RB.out.below (Below.refl _ _).drew RB.out.lt
          refine wpAnyH_takeD (some 22) (i := 0) (v := ?_) rfl rfl (by kernel_rfl) (by kernel_rfl) (by kernel_rfl) (fun _ _ _ h => h) (.inl ⟨by kernel_rfl, ?_⟩) hS0 ?_
          rotate_left
          · intro w' hw'; have f0 := hw'.cell 0; have f1 := hw'.cell 1; have f2 := hw'.cell 2; have f3 := hw'.cell 3; have f4 := hw'.cell 4; have f5 := hw'.cell 5; have f6 := hw'.cell 6; have f7 := hw'.cell 7; have f8 := hw'.cell 8; have f9 := hw'.cell 9; simp only [List.getElem?_cons_zero, List.getElem?_cons_succ] at f0 f1 f2 f3 f4 f5 f6 f7 f8 f9; clear hw'; go_simp; try with_reducible rfl
          try simp only [Act.put, List.setIfInBounds_toArray, List.set_cons_zero, List.set_cons_succ]
          refine wpAnyH_takeD (some 23) (i := 1) (v := ?_) rfl rfl (by kernel_rfl) (by kernel_rfl) (by kernel_rfl) (fun _ _ _ h => h) (.inl ⟨by kernel_rfl, ?_⟩) hS0 ?_
          rotate_left
          · intro w' hw'; have f0 := hw'.cell 0; have f1 := hw'.cell 1; have f2 := hw'.cell 2; have f3 := hw'.cell 3; have f4 := hw'.cell 4; have f5 := hw'.cell 5; have f6 := hw'.cell 6; have f7 := hw'.cell 7; have f8 := hw'.cell 8; have f9 := hw'.cell 9; simp only [List.getElem?_cons_zero, List.getElem?_cons_succ] at f0 f1 f2 f3 f4 f5 f6 f7 f8 f9; clear hw'; go_simp; try with_reducible rfl
          try simp only [Act.put, List.setIfInBounds_toArray, List.set_cons_zero, List.set_cons_succ]
          refine wpAnyH_takeD (some 24) (i := 2) (v := ?_) rfl rfl (by kernel_rfl) (by kernel_rfl) (by kernel_rfl) (fun _ _ _ h => h) (.inl ⟨by kernel_rfl, ?_⟩) hS0 ?_
          rotate_left
          · intro w' hw'; have f0 := hw'.cell 0; have f1 := hw'.cell 1; have f2 := hw'.cell 2; have f3 := hw'.cell 3; have f4 := hw'.cell 4; have f5 := hw'.cell 5; have f6 := hw'.cell 6; have f7 := hw'.cell 7; have f8 := hw'.cell 8; have f9 := hw'.cell 9; simp only [List.getElem?_cons_zero, List.getElem?_cons_succ] at f0 f1 f2 f3 f4 f5 f6 f7 f8 f9; clear hw'; go_simp; try with_reducible rfl
          try simp only [Act.put, List.setIfInBounds_toArray, List.set_cons_zero, List.set_cons_succ]
          refine wpAnyH_takeD (some 25) (i := 3) (v := ?_) rfl rfl (by kernel_rfl) (by kernel_rfl) (by kernel_rfl) (fun _ _ _ h => h) (.inl ⟨by kernel_rfl, ?_⟩) hS0 ?_
          rotate_left
          · intro w' hw'; have f0 := hw'.cell 0; have f1 := hw'.cell 1; have f2 := hw'.cell 2; have f3 := hw'.cell 3; have f4 := hw'.cell 4; have f5 := hw'.cell 5; have f6 := hw'.cell 6; have f7 := hw'.cell 7; have f8 := hw'.cell 8; have f9 := hw'.cell 9; simp only [List.getElem?_cons_zero, List.getElem?_cons_succ] at f0 f1 f2 f3 f4 f5 f6 f7 f8 f9; clear hw'; go_simp; try with_reducible rfl
          try simp only [Act.put, List.setIfInBounds_toArray, List.set_cons_zero, List.set_cons_succ]
          refine wpAnyH_all (rs := [4]) (by kernel_rfl) (by simp) ?_
          intro i hi; simp only [List.mem_singleton] at hi; subst hi
          refine wpOp_step rfl (fun K hK => ?_)
          go_simp
          with_reducible refine (HG.out U.drew SUd.out).mono ?_
          rintro e v0 ⟨rfl, hC0⟩
          have hD0 : Below U.heap.size U v0 := (Below.refl U.heap.size U).drew.trans hC0
          have hS1 := hS0.below hC0 hS0.lt
          obtain ⟨u0, hrun, hM0, hG0⟩ := (HMU.out.below hD0).put (by omega) HK.out gv
          refine hK _ _ ⟨hS1, ?_⟩
          try simp only [Act.put, List.setIfInBounds_toArray, List.set_cons_zero, List.set_cons_succ]
          have HS0r := hid (row_putT hS1 hG0 (by have := HZ.out; omega))
          have HMr := hid hM0
          have HGr := hid hG0
          have HDr := hid hD0
          clear hM0 hG0 hD0 hC0 hS0 hS1
          refine wpAnyH_all (rs := [5]) (by kernel_rfl) (by simp) ?_
          intro i hi; simp only [List.mem_singleton] at hi; subst hi
          refine wpOp_step rfl (fun K hK => ?_)
          go_simp
          refine hK _ _ ⟨HS0r.out, ?_⟩
          try simp only [Act.put, List.setIfInBounds_toArray, List.set_cons_zero, List.set_cons_succ]
          refine wpAnyH_done (by kernel_rfl) ?_ _
          have HBn := hid ((BU.out.trans (HDr.out.mono BU.out.size)).grown HGr.out (Nat.le_trans BU.out.size HDr.out.size) (fun k e => by cases e; exact Nat.le_refl _))
          clear hrun
          go_wp2_with fail
          go_roundw
          case rel => exact ⟨k + 1, _, by omega, by go_num, HMr.out, HST.out _ rfl, HBn.out⟩
          case measure => simp [intOf]; omega
        · obtain rfl : k = n := by omega
          clear hM hTk
          go_wp2_with fail
          go_ret2
          refine ⟨hB, .inr (.inr ⟨HQ.out, by rw [← HN.out]; omega, M, rfl, ?_, ?_⟩)⟩
          · rw [← HN.out]; exact HM.out
          · rw [← HN.out]; exact HTK.out
end Go.Proofs.Ytnfgapgjkkeofaa
