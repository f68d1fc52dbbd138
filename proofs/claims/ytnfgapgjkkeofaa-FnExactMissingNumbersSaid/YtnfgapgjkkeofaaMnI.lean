/- MissingNumbers: the model's and the program's answers. -/
import Derived.Test.YtnfgapgjkkeofaaMnM
import Derived.Laws.OwnMore
namespace Go.Proofs.Ytnfgapgjkkeofaa
open Go.RowKit Go.Maps
set_option linter.unusedVariables false
set_option linter.unusedSimpArgs false
theorem Try.infoI64m : (Try.prog.info? 2).map (fun i => (i.zero, i.size, i.bytes)) = some (some (.int .i64 0), 1, 8) := by kernel_rfl
def MnR (w : World) (R : List Int × Int) (e : Ending) (w' : World) : Prop := ∃ v, e = .returned (.tuple #[v, .int .i64 R.2]) ∧ OwnI w' w.heap.size v R.1 ∧ Below w.heap.size w w'
theorem OwnI.lowb {w : World} {base b' : Nat} {v : Value} {zs : List Int} (h : OwnI w base v zs) (hb : b' ≤ base) : OwnI w b' v zs := by
  obtain ⟨a, cap, h1, h2, h3⟩ := h
  refine ⟨a, cap, h1, h2, ?_⟩
  rcases h3 with h0 | ⟨g, rest, e, hg, hr⟩
  · exact .inl h0
  · exact .inr ⟨g, rest, e, Nat.le_trans hb hg, hr⟩
theorem maxN_any (a b : Int) (w : World) : Calls Try.prog 25 #[.int .i64 a, .int .i64 b] w fun e w' => e = .returned (.int .i64 (max a b)) ∧ w = w' := by
  by_cases h : a > b
  · have hm := hid (show max a b = a from by omega)
    go_enter Try.func25, Try.ntmps25
    go_wp2
    go_ret
    exact ⟨by rw [hm.out]; rfl, rfl⟩
  · have hm := hid (show max a b = b from by omega)
    go_enter Try.func25, Try.ntmps25
    go_wp2
    go_ret
    exact ⟨by rw [hm.out]; rfl, rfl⟩
theorem mem_take_succ (N : List Int) (k : Nat) (h : k < N.length) (x : Int) : x ∈ N.take (k + 1) ↔ x ∈ N.take k ∨ x = N[k]?.getD 0 := by
  rw [List.take_add_one, List.getElem?_eq_getElem h]
  simp only [Option.toList, List.mem_append, List.mem_singleton, Option.getD_some]
set_option maxHeartbeats 1000000 in
theorem has_any (base : Nat) (v : Value) (N : List Int) (x : Int) (w : World) (h : OwnI w base v N) : Calls Try.prog 24 #[v, .int .i64 x] w fun e w' => e = .returned (.bool (decide (x ∈ N))) ∧ w = w' := by
  obtain ⟨a, c, rfl, hl, k1⟩ := h
  rcases k1 with hz | ⟨g, rest, rfl, hg, R⟩
  · subst hz
    simp only [List.length_nil]
    go_enter Try.func24, Try.ntmps24
    go_wp2_with fail
    refine wp_loop_rounds 1 ?_
    rw [rounds_succ]
    go_wp2_with fail
    go_ret
    exact ⟨by simp, rfl⟩
  · have C := hid (fun j (hj : j < N.length) => OwnI.cell R j hj)
    have HT := hid (mem_take_succ N)
    have HA := hid (show ∀ y, y ∈ N.take N.length ↔ y ∈ N from fun y => by rw [List.take_length])
    have HM := hid (fun k (hk : k < N.length) => show N[k]?.getD 0 ∈ N from by rw [List.getElem?_eq_getElem hk]; exact List.getElem_mem hk)
    obtain ⟨n, hn⟩ : ∃ n, N.length = n := ⟨_, rfl⟩
    rw [hn] at C hl HT HA HM ⊢
    clear R hn
    go_enter Try.func24, Try.ntmps24
    go_wp2_with fail
    go_loop [5] (fun i => ∃ k : Nat, k ≤ n ∧ i = .int .i64 k ∧ ¬ x ∈ N.take k) (fun i => n - (intOf i).toNat)
    case atStart => exact ⟨0, Nat.zero_le _, rfl, by simp⟩
    case round =>
      obtain ⟨k, hk, rfl, hx⟩ := hrel
      have HX := hid hx
      clear hx
      by_cases hlt : k < n
      · have hlt' : (k : Int) < (n : Int) := by omega
        have hk0 : (0 : Int) ≤ (k : Int) := by omega
        have c0 := C.out k hlt
        have HMk := HM.out k hlt
        have HTk := hid (HT.out k hlt x)
        obtain ⟨y, hy⟩ : ∃ y, N[k]?.getD 0 = y := ⟨_, rfl⟩
        rw [hy] at c0 HMk HTk
        by_cases e : y = x
        · have e1 : (y == x) = true := by simp [e]
          have HD := hid (show decide (x ∈ N) = true from decide_eq_true (e ▸ HMk))
          clear hy e HMk
          go_wp2_with fail
          go_ret
          exact ⟨by rw [HD.out]; rfl, rfl⟩
        · have e1 : (y == x) = false := by simp [e]
          have HN := hid (show ¬ x ∈ N.take (k + 1) from fun h => (HTk.out.1 h).elim HX.out (fun h => e h.symm))
          clear hy e HMk
          go_wp2_with fail
          go_round
          case rel => exact ⟨k + 1, by omega, by go_num, HN.out⟩
          case measure => simp [intOf]; omega
      · obtain rfl : k = n := by omega
        have HD := hid (show decide (x ∈ N) = false from decide_eq_false (fun h => HX.out ((HA.out x).2 h)))
        go_wp2_with fail
        go_ret
        exact ⟨by rw [HD.out]; rfl, rfl⟩
set_option maxRecDepth 100000 in
set_option maxHeartbeats 8000000 in
theorem implMissingNumbers_any (B m cap : Nat) (zs : List Int) (hm : m = zs.length) (b n cap' : Nat) (ts : List (Nat → Int)) (hn : n = ts.length) (w : World) (hS : Stk w B zs) (hT : Tst w b ts) (hb : ∀ j, j < ts.length → tkB (ts[j]?.getD (fun _ => 0))) :
    Calls Try.prog 13 #[.slice (some ⟨B, 0, none⟩) m cap, .slice (some ⟨b, 0, none⟩) n cap'] w (MnR w (mnR zs ts)) := by
  obtain ⟨i0, hi, iz0, iz1, iz2⟩ := info_parts Try.infoI64m
  have hl := hT.2.2
  rw [← hn] at hl
  have hbl := hT.1
  have hC := hid hT.2.1
  have HV := hid (genuineOf_any B m cap zs hm b n cap' ts hn w hS hT hb)
  have HN := hid hn
  have HTB := hid hb
  have E1 := hid (fun h => mnR_no (zs := zs) (ts := ts) h)
  have E2 := hid (fun h k => mnR_limit (zs := zs) (ts := ts) h k)
  have E3 := hid (fun h k j hj g => mnR_proof (zs := zs) (ts := ts) h k j hj g)
  have E4 := hid (fun h k g => mnR_rest (zs := zs) (ts := ts) h k g)
  have HMI := hid (mostT_in ts)
  have HMB := hid (mostT_bd ts)
  obtain ⟨Q, hQ⟩ : ∃ Q, mnR zs ts = Q := ⟨_, rfl⟩
  rw [hQ] at E1 E2 E3 E4 ⊢
  clear hS hT hn hm hb hQ
  go_enter Try.func13, Try.ntmps13
  go_wp2_with fail
  refine HV.out.mono ?_
  rintro e w1 ⟨hB1, h⟩
  have HB1 := hid hB1
  rcases h with ⟨hv, rfl⟩ | ⟨hv, h60, rfl⟩ | ⟨hv, h60, M, rfl, hM, hTk⟩
  · have E := E1.out hv
    subst E
    clear hv hB1
    go_wp2_with fail
    go_ret2
    exact ⟨_, rfl, OwnI.nil _ _ _ _, HB1.out⟩
  · have E := E2.out hv h60
    subst E
    clear hv h60 hB1
    go_wp2_with fail
    go_ret2
    exact ⟨_, rfl, OwnI.nil _ _ _ _, HB1.out⟩
  · have HM := hid hM
    have HTK := hid hTk
    have H60 := hid h60
    have hn60 : n ≤ 60 := by have := HN.out; omega
    have E3 := hid (E3.out hv h60)
    have E4 := hid (E4.out hv h60)
    have hz1 := hB1.size
    have M0 := hid (World.ownsMap_made (H := Unit) w1 Try.prog 2 (plainElem Try.prog 4))
    have B0 := hid ((Below.refl w1.heap.size w1).alloc (Nat.le_refl _) (.map #[] 0))
    have MK : ∀ w, Sem.run Try.prog (Instr.makeMap 58 none) w = .ok (.map (some w.heap.size)) (w.alloc (.map #[] 0)) := fun _ => rfl
    clear hv h60 hM hTk hB1
    go_wp2_with fail
    go_loopw [9, 26] (fun v i wr => ∃ (k : Nat) (H : DataW Unit), k ≤ n ∧ i = .int .i64 k ∧ v = .int .i64 (mostT ts k) ∧ NM wr w1.heap.size k H ∧ HsM (numsT ts k) H ∧ (∀ j, j < k → genF zs (ts[j]?.getD (fun _ => 0)) = true) ∧ Below w1.heap.size w1 wr) (fun _ i _ => n - (intOf i).toNat)
    case atStart => exact ⟨0, _, Nat.zero_le _, rfl, rfl, M0.out, HsM.start, fun j h => by omega, B0.out⟩
    case round =>
      obtain ⟨k, H, hk, rfl, rfl, hNM, hHs, hg, hB⟩ := hrel
      have HHS := hid hHs
      have HNM := hid hNM
      have HGJ := hid hg
      clear hHs hg
      by_cases hlt : k < n
      · have hlt' : (k : Int) < (n : Int) := by omega
        have hk0 : (0 : Int) ≤ (k : Int) := by omega
        have hzr := hB.size
        have hgl := hNM.lt
        have HTBk := HTB.out k (by rw [← HN.out]; exact hlt)
        have hcc := hC.out k (by rw [← HN.out]; exact hlt)
        have HBAD := hid (fun g => E3.out k (by rw [← HN.out]; exact hlt) g)
        obtain ⟨f, hf⟩ : ∃ f, ts[k]?.getD (fun _ => 0) = f := ⟨_, rfl⟩
        have hcc' : ∀ i, i < 10 → w.cell? ⟨b, k * 10 + i, none⟩ = some (tkv i (f i)) := fun i hi => by rw [hcc i hi, tk, hf]
        have ht0 : tk ts k 0 = f 0 := by rw [tk, hf]
        have HNS := hid (numsT_succ ts k)
        have HMS := hid (mostT_succ ts k)
        rw [hf] at HTBk HBAD
        rw [ht0] at HNS HMS
        have HGF := hid hf
        obtain ⟨l, hkl⟩ := keyTk HTBk
        have hat := HTK.out.2 k (by rw [← HN.out]; exact hlt) l (by rw [hf]; exact hkl)
        rw [hf] at hat
        have t0 := HTBk.1
        have HGJ2 := hid (fun (g : genF zs f = true) => show ∀ j, j < k + 1 → genF zs (ts[j]?.getD (fun _ => 0)) = true from fun j hj => by
          by_cases e : j = k
          · rw [e, HGF.out]; exact g
          · exact HGJ.out j (by omega))
        obtain ⟨gv, hgv⟩ : ∃ z, genF zs f = z := ⟨_, rfl⟩
        rw [hgv] at hat HBAD HGJ2
        unfold tkVal at hkl
        have c0 := (hB.cell (p := ⟨b, k * 10, none⟩) (Nat.lt_of_lt_of_le hbl hz1)).trans ((HB1.out.cell (p := ⟨b, k * 10, none⟩) hbl).trans (hcc' 0 (by omega)))
        have c1 := (hB.cell (p := ⟨b, k * 10 + 1, none⟩) (Nat.lt_of_lt_of_le hbl hz1)).trans ((HB1.out.cell (p := ⟨b, k * 10 + 1, none⟩) hbl).trans (hcc' 1 (by omega)))
        have c2 := (hB.cell (p := ⟨b, k * 10 + 2, none⟩) (Nat.lt_of_lt_of_le hbl hz1)).trans ((HB1.out.cell (p := ⟨b, k * 10 + 2, none⟩) hbl).trans (hcc' 2 (by omega)))
        have c3 := (hB.cell (p := ⟨b, k * 10 + 3, none⟩) (Nat.lt_of_lt_of_le hbl hz1)).trans ((HB1.out.cell (p := ⟨b, k * 10 + 3, none⟩) hbl).trans (hcc' 3 (by omega)))
        have c4 := (hB.cell (p := ⟨b, k * 10 + 4, none⟩) (Nat.lt_of_lt_of_le hbl hz1)).trans ((HB1.out.cell (p := ⟨b, k * 10 + 4, none⟩) hbl).trans (hcc' 4 (by omega)))
        have c5 := (hB.cell (p := ⟨b, k * 10 + 5, none⟩) (Nat.lt_of_lt_of_le hbl hz1)).trans ((HB1.out.cell (p := ⟨b, k * 10 + 5, none⟩) hbl).trans (hcc' 5 (by omega)))
        have c6 := (hB.cell (p := ⟨b, k * 10 + 6, none⟩) (Nat.lt_of_lt_of_le hbl hz1)).trans ((HB1.out.cell (p := ⟨b, k * 10 + 6, none⟩) hbl).trans (hcc' 6 (by omega)))
        have c7 := (hB.cell (p := ⟨b, k * 10 + 7, none⟩) (Nat.lt_of_lt_of_le hbl hz1)).trans ((HB1.out.cell (p := ⟨b, k * 10 + 7, none⟩) hbl).trans (hcc' 7 (by omega)))
        have c8 := (hB.cell (p := ⟨b, k * 10 + 8, none⟩) (Nat.lt_of_lt_of_le hbl hz1)).trans ((HB1.out.cell (p := ⟨b, k * 10 + 8, none⟩) hbl).trans (hcc' 8 (by omega)))
        have c9 := (hB.cell (p := ⟨b, k * 10 + 9, none⟩) (Nat.lt_of_lt_of_le hbl hz1)).trans ((HB1.out.cell (p := ⟨b, k * 10 + 9, none⟩) hbl).trans (hcc' 9 (by omega)))
        obtain ⟨x0, hx0⟩ : ∃ x, f 0 = x := ⟨_, rfl⟩
        obtain ⟨x1, hx1⟩ : ∃ x, f 1 = x := ⟨_, rfl⟩
        obtain ⟨x2, hx2⟩ : ∃ x, f 2 = x := ⟨_, rfl⟩
        obtain ⟨x3, hx3⟩ : ∃ x, f 3 = x := ⟨_, rfl⟩
        obtain ⟨x4, hx4⟩ : ∃ x, f 4 = x := ⟨_, rfl⟩
        obtain ⟨x5, hx5⟩ : ∃ x, f 5 = x := ⟨_, rfl⟩
        obtain ⟨x6, hx6⟩ : ∃ x, f 6 = x := ⟨_, rfl⟩
        obtain ⟨x7, hx7⟩ : ∃ x, f 7 = x := ⟨_, rfl⟩
        obtain ⟨x8, hx8⟩ : ∃ x, f 8 = x := ⟨_, rfl⟩
        obtain ⟨x9, hx9⟩ : ∃ x, f 9 = x := ⟨_, rfl⟩
        rw [hx0] at c0
        rw [hx1] at c1
        rw [hx2] at c2
        rw [hx3] at c3
        rw [hx4] at c4
        rw [hx5] at c5
        rw [hx6] at c6
        rw [hx7] at c7
        rw [hx8] at c8
        rw [hx9] at c9
        change _ = some (Value.int .i64 x0) at c0
        change _ = some (Value.int .u8 x1) at c1
        change _ = some (Value.int .u8 x2) at c2
        change _ = some (Value.int .u8 x3) at c3
        change _ = some (Value.int .u8 x4) at c4
        change _ = some (Value.int .u8 x5) at c5
        change _ = some (Value.int .u8 x6) at c6
        change _ = some (Value.int .u8 x7) at c7
        change _ = some (Value.int .u8 x8) at c8
        change _ = some (Value.int .u16 x9) at c9
        rw [hx0, hx1, hx2, hx3, hx4, hx5, hx6, hx7, hx8, hx9] at hkl
        rw [hx0] at HNS HMS t0
        obtain ⟨U, hU⟩ : ∃ U, U = wr.alloc (.cells #[.int .i64 x0, .int .u8 x1, .int .u8 x2, .int .u8 x3, .int .u8 x4, .int .u8 x5, .int .u8 x6, .int .u8 x7, .int .u8 x8, .int .u16 x9] 48) := ⟨_, rfl⟩
        have bU : Below wr.heap.size wr U := by rw [hU]; exact (Below.refl _ _).alloc (Nat.le_refl _) _
        have rB : Row U wr.heap.size 48 [.int .i64 x0, .int .u8 x1, .int .u8 x2, .int .u8 x3, .int .u8 x4, .int .u8 x5, .int .u8 x6, .int .u8 x7, .int .u8 x8, .int .u16 x9] := by rw [hU]; exact Row.new _ _ _
        have BU := hid (hB.trans (bU.mono hzr))
        have hLK := TM.look (HM.out.below BU.out) hkl hat
        obtain ⟨u0, hrun, hM0, hG0⟩ := (hNM.below bU).put (by omega) t0
        have RU0 := hid (row_putT rB hG0 (by omega))
        have HM0 := hid hM0
        have BU0 := hid (BU.out.grown hG0 BU.out.size (fun k e => by cases e; exact Nat.le_refl _))
        have HU := hid hU
        obtain ⟨mo, hmo⟩ : ∃ z, mostT ts k = z := ⟨_, rfl⟩
        rw [hmo] at HMS ⊢
        obtain ⟨mx, hmx⟩ : ∃ z, max mo x0 = z := ⟨_, rfl⟩
        rw [hmx] at HMS
        have MX : ∀ w, Sem.run Try.prog (Builtin.max_ #[2, 2] 2 #[.int .i64 mo, .int .i64 x0]) w = .ok (.int .i64 mx) w := fun w => by
          have : (if x0 > mo then x0 else mo) = max mo x0 := by split <;> omega
          rw [← hmx, ← this]; rfl
        have y0 := rB.cell 0; have y1 := rB.cell 1; have y2 := rB.cell 2; have y3 := rB.cell 3; have y4 := rB.cell 4; have y5 := rB.cell 5; have y6 := rB.cell 6; have y7 := rB.cell 7; have y8 := rB.cell 8; have y9 := rB.cell 9
        simp only [List.getElem?_cons_zero, List.getElem?_cons_succ] at y0 y1 y2 y3 y4 y5 y6 y7 y8 y9
        have y0u := RU0.out.cell 0
        simp only [List.getElem?_cons_zero] at y0u
        clear hx0 hx1 hx2 hx3 hx4 hx5 hx6 hx7 hx8 hx9 hkl hf hcc hcc' hgv HTBk hB bU hU rB hat ht0 hmo hmx hM0 hG0 hNM t0
        go_upto_region 8 with fail
        rw [← HU.out]
        clear c0 c1 c2 c3 c4 c5 c6 c7 c8 c9
        cases gv
        · have EQ := HBAD.out rfl
          subst EQ
          clear hrun
          go_wp2_with fail
          go_ret2
          exact ⟨_, rfl, OwnI.nil _ _ _ _, HB1.out.trans (BU.out.mono hz1)⟩
        · go_wp2_with fail
          go_roundw
          case rel => exact ⟨k + 1, _, by omega, by go_num, by rw [HMS.out], HM0.out, by rw [HNS.out]; exact HHS.out.put x0, HGJ2.out rfl, BU0.out⟩
          case measure => simp [intOf]; omega
      · obtain rfl : k = n := by omega
        obtain ⟨wo, rfl⟩ : ∃ z, z = wr := ⟨_, rfl⟩
        have hgn := HGJ.out
        have E := E4.out (fun j hj => hgn j (by have := HN.out; omega))
        have hnum := fun j (hj : j < k) => genF_num (hgn j hj)
        have hin := HMI.out k (fun j hj => (hnum j hj).1)
        have hbd := HMB.out k (fun j hj => (hnum j hj).2)
        rw [← HN.out] at E
        have hNl := numsT_len ts k
        have hsz := HHS.out.2.2.2
        obtain ⟨N, hNN⟩ : ∃ N, numsT ts k = N := ⟨_, rfl⟩
        obtain ⟨mo, hmo⟩ : ∃ z, mostT ts k = z := ⟨_, rfl⟩
        rw [hNN] at E hin HHS hNl hsz
        rw [hmo] at E hin hbd ⊢
        have LEN := World.ownsMap.len HNM.out Try.mapI 3
        rw [hsz] at LEN
        obtain ⟨g, rfl⟩ := Int.eq_ofNat_of_zero_le hbd.1
        have hg6 : g ≤ 1000000 := by omega
        have tw : IntKind.i64.wrap ((g : Int) - (N.length : Int)) = (g : Int) - (N.length : Int) := IntWalk.i64_in _ (by omega)
        clear hgn hnum hNN hmo hbd hsz
        by_cases h1000 : (1000 : Int) < (g : Int) - (N.length : Int)
        · rw [if_pos h1000] at E
          subst E
          have d1 : decide ((1000 : Int) < (g : Int) - (N.length : Int)) = true := decide_eq_true h1000
          clear hNM
          go_wp2_with fail
          go_ret2
          exact ⟨_, rfl, OwnI.nil _ _ _ _, HB1.out.trans (hB.mono hz1)⟩
        · rw [if_neg h1000] at E
          have E := hid E
          have d1 : decide ((1000 : Int) < (g : Int) - (N.length : Int)) = false := decide_eq_false h1000
          have HIN := hid hin
          have BR := hid hB
          have hzr := hB.size
          clear hin h1000 hNM hB
          go_wp2_with fail
          clear LEN
          go_loopw [12, 13] (fun v i wr => ∃ q : Nat, (q = 0 ∨ q + 1 ≤ g) ∧ i = .int .i64 ((q : Int) + 1) ∧ wr.ownsRow wo.heap.size 2 1 v (missL N q).length ((missL N q).map (Value.int .i64)) ∧ Below wo.heap.size wo wr) (fun _ i _ => g + 1 - (intOf i).toNat)
          case atStart => exact ⟨0, .inl rfl, rfl, World.ownsRow_nil _ _ _ _, Below.refl _ _⟩
          case round =>
            obtain ⟨q, hq, rfl, hown, hBx⟩ := hrel
            have hzx := hBx.size
            have HOW := hid hown
            have HBX := hid hBx
            by_cases hlt2 : q + 1 < g
            · have hl1 : (q : Int) + 1 < (g : Int) := by omega
              have hI : I64 ((q : Int) + 1) := ⟨by omega, by omega⟩
              have hlook := (HNM.out.below hBx).look hI (HHS.out.at ((q : Int) + 1))
              have ecast : ((q + 1 : Nat) : Int) = (q : Int) + 1 := by omega
              have tq : IntKind.i64.wrap ((q : Int) + 1 + 1) = (q : Int) + 1 + 1 := IntWalk.i64_in _ (by omega)
              have HY := hid (fun h => missL_yes (N := N) (k := q) h)
              have HNO := hid (fun h => missL_no (N := N) (k := q) h)
              rw [ecast] at HY HNO
              have MLEN := hid (missL_len N q)
              clear hown hBx
              by_cases hmem : (q : Int) + 1 ∈ N
              · rw [decide_eq_true hmem] at hlook
                have HY := hid (HY.out hmem)
                clear hmem
                go_wp2_with fail
                go_roundw
                case rel => exact ⟨q + 1, by omega, by first | go_num | (congr 1; omega), by rw [HY.out]; exact HOW.out, HBX.out⟩
                case measure => simp [intOf]; omega
              · rw [decide_eq_false hmem] at hlook
                have HNO := hid (HNO.out hmem)
                clear hmem
                have HO1 := hid (HOW.out.alloc (.cells #[.int .i64 ((q : Int) + 1)] 2))
                have HBA := hid (HBX.out.alloc hzx (.cells #[.int .i64 ((q : Int) + 1)] 2))
                have n0 := (Row.new wr 2 [.int .i64 ((q : Int) + 1)]).cell 0
                simp only [List.getElem?_cons_zero] at n0
                go_wp2_with (at_builtin; refine wpList_append_own _ rfl _ _ 34 rfl wo.heap.size 2 i0 (.int .i64 0) 1 8 Try.underlying34 hi iz0 iz1 iz2 rfl (by decide) _ _ _ rfl HO1.out ⟨wr.heap.size, 0, none⟩ 1 1 [.int .i64 ((q : Int) + 1)] rfl rfl (by intro j u hj; match j, hj with | 0, hj => simp at hj; subst hj; simp [Addr.add, n0]) (by intro u hu; simp at hu; subst hu; rfl) (by have := MLEN.out; unfold maxLen; omega) (by have := MLEN.out; omega) (by simp; omega) ?_; intro v' w2 hown' hgrow _)
                have HB2 := hid (HBA.out.grown hgrow (by simp; omega) (fun k e => by have := (HO1.out.lt k e).1; omega))
                have hown2 := hid (show w2.ownsRow wo.heap.size 2 1 v' (missL N (q + 1)).length ((missL N (q + 1)).map (Value.int .i64)) by
                  rw [HNO.out, List.length_append, List.map_append]; exact hown')
                clear hown' hgrow n0
                go_roundw
                case rel => exact ⟨q + 1, by omega, by first | go_num | (congr 1; omega), hown2.out, HB2.out⟩
                case measure => simp [intOf]; omega
            · have hl1 : ¬ (q : Int) + 1 < (g : Int) := by omega
              have hl2 : (g : Int) ≤ (q : Int) + 1 := by omega
              have HRES := hid (show missL N g = missL N q from by
                rcases HIN.out with ⟨_, h0⟩ | ⟨h1, hmem⟩
                · have : g = 0 := by omega
                  have : q = 0 := by omega
                  subst_vars; rfl
                · obtain ⟨p, rfl⟩ : ∃ p, g = p + 1 := ⟨g - 1, by omega⟩
                  have : q = p := by omega
                  subst this
                  exact missL_yes hmem)
              have E := E.out
              rw [Int.toNat_natCast, HRES.out] at E
              subst E
              have HO := hid (OwnI.of_owns hown (by have := missL_len N q; omega))
              clear hown hBx
              go_wp2_with fail
              go_ret2
              have HO := HO.out.lowb (b' := w.heap.size) (by omega)
              refine ⟨_, rfl, ?_, HB1.out.trans ((BR.out.trans (HBX.out.mono hzr)).mono hz1)⟩
              have e := HRES.out
              first | exact HO | (rw [← e] at HO; exact HO)
end Go.Proofs.Ytnfgapgjkkeofaa
