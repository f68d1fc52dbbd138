/- WrongWheels: the model's answers. -/
import Derived.Test.YtomhmkdfhhmenaaWwC
namespace Go.Proofs.Ytomhmkdfhhmenaa
open Go.RowKit
set_option linter.unusedVariables false
set_option linter.unusedSimpArgs false
theorem l02Eye_yes (y : Int) (w : World) (h : 0 ≤ y ∧ y ≤ 1) : Calls Try.prog 16 #[.int .i64 y] w fun e w' => e = .returned (.bool true) ∧ w = w' := by
  go_enter Try.func16, Try.ntmps16
  go_wp2_with (go_at_call 31; refine (inr_yes _ _ _ _ (by omega)).mono ?_; rintro e w' ⟨rfl, rfl⟩)
  go_ret
  exact ⟨rfl, rfl⟩
theorem l02Eye_no (y : Int) (w : World) (h : y < 0 ∨ 1 < y) : Calls Try.prog 16 #[.int .i64 y] w fun e w' => e = .returned (.bool false) ∧ w = w' := by
  go_enter Try.func16, Try.ntmps16
  go_wp2_with (go_at_call 31; refine (inr_no _ _ _ _ (by omega)).mono ?_; rintro e w' ⟨rfl, rfl⟩)
  go_ret
  exact ⟨rfl, rfl⟩
set_option maxRecDepth 100000 in
set_option maxHeartbeats 8000000 in
theorem l02Wrong_at (e : Nat) (Y : Int) (B b n cap g m cap' : Nat) (zs : List Int) (js : List (Int × Int)) (turn : Int) (d0 d1 d2 d3 d4 d5 d6 d7 c0 c1 c2 c3 c4 c5 c6 c7 : Int) (w : World) (M0 : MoAt w B b n cap g m cap' zs js) (hn8 : n ≤ 8) (ht : 0 ≤ turn ∧ turn ≤ 1000000000000000)
    (hP : ∀ w1, MoAt w1 B b n cap g m cap' zs js → Calls Try.prog 35 #[.pointer (some ⟨B, 0, none⟩), .int .i64 turn] w1 fun e w' => e = .returned (.agg #[.int .i64 d0, .int .i64 d1, .int .i64 d2, .int .i64 d3, .int .i64 d4, .int .i64 d5, .int .i64 d6, .int .i64 d7]) ∧ Below w1.heap.size w1 w')
    (hR : ∀ w1, MoAt w1 B b n cap g m cap' zs js → Calls Try.prog 34 #[.pointer (some ⟨B, 0, none⟩), .agg ([.int .i64 d0, .int .i64 d1, .int .i64 d2, .int .i64 d3, .int .i64 d4, .int .i64 d5, .int .i64 d6, .int .i64 d7] : List Value).toArray, .int .i64 Y] w1 fun x w' => x = .returned (.agg (rdV e zs [d0, d1, d2, d3, d4, d5, d6, d7] n).toArray) ∧ Below w1.heap.size w1 w')
    (hD : ∀ w1, Stk w1 b zs → Calls Try.prog 33 #[.slice (some ⟨b, 0, none⟩) n cap, .int .i64 (turn / 1000)] w1 fun e w' => e = .returned (.tuple #[.agg #[.int .u8 c0, .int .u8 c1, .int .u8 c2, .int .u8 c3, .int .u8 c4, .int .u8 c5, .int .u8 c6, .int .u8 c7], .int .i64 0]) ∧ Below w1.heap.size w1 w') :
    Calls Try.prog 17 #[.pointer (some ⟨B, 0, none⟩), .int .i64 turn, .int .i64 Y] w fun x w' => ∃ v, x = .returned v ∧ OwnI w' w.heap.size v (wrE (rdL e zs [d0, d1, d2, d3, d4, d5, d6, d7]) [c0, c1, c2, c3, c4, c5, c6, c7] n) ∧ Below w.heap.size w w' := by
  obtain ⟨i0, hi, iz0, iz1, iz2⟩ := info_parts Try.infoI64m
  have hd := Try.infoDigits8
  have HP := hid hP
  have HR := hid hR
  have HD := hid hD
  have ht0 := ht.1
  have ht9 := ht.2
  have t0 := Int.ediv_nonneg ht0 (show (0 : Int) ≤ 1000 by decide)
  have t9 : turn / 1000 ≤ 1000000000000 := by omega
  have HLEN := hid (wrE_len (rdL e zs [d0, d1, d2, d3, d4, d5, d6, d7]) [c0, c1, c2, c3, c4, c5, c6, c7])
  have HRD := hid (fun k hk => rdL_dg e zs [d0, d1, d2, d3, d4, d5, d6, d7] k hk)
  have HRV := hid (fun k hk h8 => rdV_get e zs [d0, d1, d2, d3, d4, d5, d6, d7] k n hk h8)
  have hd8 : (Try.prog.info? 65).map (·.size) = some (rdV e zs [d0, d1, d2, d3, d4, d5, d6, d7] n).toArray.size := by rw [hd]; simp [rdV]
  have hl8 := rdV_len e zs [d0, d1, d2, d3, d4, d5, d6, d7] n
  obtain ⟨fs, hfs⟩ : ∃ fs, rdL e zs [d0, d1, d2, d3, d4, d5, d6, d7] = fs := ⟨_, rfl⟩
  rw [hfs] at HLEN HRD ⊢
  obtain ⟨p0, p1⟩ := M0.cells
  have hBl := M0.1.lt
  have M := hid M0
  have HL8 := hid hl8
  have INTS := hid (ints_rd e zs [d0, d1, d2, d3, d4, d5, d6, d7] n)
  clear hP hR hD hfs ht M0 hl8
  go_enter Try.func17, Try.ntmps17
  go_wp2_with fail
  refine (HD.out _ M.out.2.1).mono ?_
  rintro e' w1 ⟨rfl, hB1⟩
  have hz1 := hB1.size
  have hbx : Below w1.heap.size w1 (w1.alloc (.cells #[.int .u8 c0, .int .u8 c1, .int .u8 c2, .int .u8 c3, .int .u8 c4, .int .u8 c5, .int .u8 c6, .int .u8 c7] 65)) := (Below.refl _ _).alloc (Nat.le_refl _) _
  have M1 := hid ((M.out.keep hB1).keep hbx)
  have b1 := hid (hB1.trans (hbx.mono hz1))
  have r1 := hid (Row.new w1 65 [.int .u8 c0, .int .u8 c1, .int .u8 c2, .int .u8 c3, .int .u8 c4, .int .u8 c5, .int .u8 c6, .int .u8 c7])
  have l1 : w.heap.size ≤ w1.heap.size := hz1
  clear hB1 hbx
  go_wp2_with fail
  obtain ⟨W, hW⟩ : ∃ W, W = w1.alloc (.cells #[.int .u8 c0, .int .u8 c1, .int .u8 c2, .int .u8 c3, .int .u8 c4, .int .u8 c5, .int .u8 c6, .int .u8 c7] 65) := ⟨_, rfl⟩
  rw [show w1.alloc (.cells ([.int .u8 c0, .int .u8 c1, .int .u8 c2, .int .u8 c3, .int .u8 c4, .int .u8 c5, .int .u8 c6, .int .u8 c7] : List Value).toArray 65) = W from hW.symm] at r1
  rw [← hW] at b1 M1 ⊢
  clear hW p0 p1
  refine (HP.out W M1.out).mono ?_
  rintro e' w2 ⟨rfl, hB2⟩
  have M2 := hid (M1.out.keep hB2)
  have r2 := hid (r1.out.below hB2 r1.out.lt)
  have b2 := hid (b1.out.trans (hB2.mono b1.out.size))
  clear hB2
  go_wp2_with fail
  refine (HR.out w2 M2.out).mono ?_
  rintro e' w3 ⟨rfl, hB3⟩
  have hbx : Below w3.heap.size w3 (w3.alloc (.cells #[.int .u8 0, .int .u8 0, .int .u8 0, .int .u8 0, .int .u8 0, .int .u8 0, .int .u8 0, .int .u8 0] 65)) := (Below.refl _ _).alloc (Nat.le_refl _) _
  have b3' := b2.out.trans ((hB3.mono b2.out.size).trans (hbx.mono (b2.out.trans (hB3.mono b2.out.size)).size))
  have lz3 : w.heap.size ≤ w3.heap.size := (b2.out.trans (hB3.mono b2.out.size)).size
  have r3 := hid (((r2.out.below hB3 r2.out.lt).below hbx (Nat.lt_of_lt_of_le r2.out.lt hB3.size)))
  have l32 : w1.heap.size < w3.heap.size := Nat.lt_of_lt_of_le r2.out.lt hB3.size
  have M3 := hid ((M2.out.keep hB3).keep hbx)
  have n3 := Row.new w3 65 [.int .u8 0, .int .u8 0, .int .u8 0, .int .u8 0, .int .u8 0, .int .u8 0, .int .u8 0, .int .u8 0]
  have T1 := n3.there (rdV e zs [d0, d1, d2, d3, d4, d5, d6, d7] n).toArray.size (by simp [rdV])
  have ST := hid (show ∀ V, V = (w3.alloc (.cells #[.int .u8 0, .int .u8 0, .int .u8 0, .int .u8 0, .int .u8 0, .int .u8 0, .int .u8 0, .int .u8 0] 65)).setCells w3.heap.size 0 (rdV e zs [d0, d1, d2, d3, d4, d5, d6, d7] n) → Row V w3.heap.size 65 (rdV e zs [d0, d1, d2, d3, d4, d5, d6, d7] n) ∧ Row V w1.heap.size 65 [.int .u8 c0, .int .u8 c1, .int .u8 c2, .int .u8 c3, .int .u8 c4, .int .u8 c5, .int .u8 c6, .int .u8 c7] ∧ MoAt V B b n cap g m cap' zs js ∧ Below w.heap.size w V by
    rintro V rfl
    have hb9 := below_setCells (rdV e zs [d0, d1, d2, d3, d4, d5, d6, d7] n) 0 (w3.alloc (.cells #[.int .u8 0, .int .u8 0, .int .u8 0, .int .u8 0, .int .u8 0, .int .u8 0, .int .u8 0, .int .u8 0] 65)) (Below.refl w3.heap.size _) (g := w3.heap.size) (Nat.le_refl _)
    refine ⟨n3.setCells (ys := (rdV e zs [d0, d1, d2, d3, d4, d5, d6, d7] n)) (by simp [rdV]), r3.out.below hb9 l32, ?_, below_setCells (rdV e zs [d0, d1, d2, d3, d4, d5, d6, d7] n) 0 _ b3' (g := w3.heap.size) lz3⟩
    have m := M2.out.keep hB3
    exact (M3.out).below hb9 m.1.lt m.2.1.1 m.2.2.1)
  clear hB3 b3' hbx n3 r3 M3 T1 
  go_wp2_with ((with_reducible refine wpList_store_mid rfl 65 _ _ rfl w3.heap.size 0 (rdV e zs [d0, d1, d2, d3, d4, d5, d6, d7] n).toArray ?_ ?_ ?_ ?_ (all_oneCell_toArray (one_of8 INTS.out)) ?_); rfl; rfl; exact (Row.new w3 65 [.int .u8 0, .int .u8 0, .int .u8 0, .int .u8 0, .int .u8 0, .int .u8 0, .int .u8 0, .int .u8 0]).there (rdV e zs [d0, d1, d2, d3, d4, d5, d6, d7] n).toArray.size (by simp [rdV]); exact hd8)
  obtain ⟨V, hV⟩ : ∃ V, V = (w3.alloc (.cells #[.int .u8 0, .int .u8 0, .int .u8 0, .int .u8 0, .int .u8 0, .int .u8 0, .int .u8 0, .int .u8 0] 65)).setCells w3.heap.size 0 (rdV e zs [d0, d1, d2, d3, d4, d5, d6, d7] n) := ⟨_, rfl⟩
  obtain ⟨rG', rH', MV', bV'⟩ := ST.out V hV
  rw [← hV]
  have RG := hid rG'
  have RH := hid rH'
  have MV := hid MV'
  have BV := hid bV'
  have hzV := bV'.size
  have O0 := hid (World.ownsRow_lit (base := V.heap.size) (e := 2) (size := 1) V #[] 0 (Nat.le_refl _) (by unfold maxLen; omega) rfl)
  have BX0 := hid ((Below.refl V.heap.size V).alloc (Nat.le_refl _) (.cells #[] 2))
  clear rG' rH' MV' bV' hV
  go_loopw [10, 11] (fun v i wr => ∃ k : Nat, k ≤ n ∧ i = .int .i64 k ∧ wr.ownsRow V.heap.size 2 1 v (wrE fs [c0, c1, c2, c3, c4, c5, c6, c7] k).length ((wrE fs [c0, c1, c2, c3, c4, c5, c6, c7] k).map (Value.int .i64)) ∧ Below V.heap.size V wr) (fun _ i _ => n - (intOf i).toNat)
  case atStart => exact ⟨0, Nat.zero_le _, rfl, O0.out, BX0.out⟩
  case round =>
    obtain ⟨k, hk, rfl, hown, hB⟩ := hrel
    have HOW := hid hown
    have HBX := hid hB
    have hzx := hB.size
    have MLEN := hid (HLEN.out k)
    obtain ⟨x0, _⟩ := (MV.out.keep hB).cells
    by_cases hlt : k < n
    · have hlt' : (k : Int) < (n : Int) := by omega
      have hk0 : (0 : Int) ≤ (k : Int) := by omega
      have hk8 : (k : Int) < 8 := by omega
      have hk9 : k < 8 := by omega
      have cx := ((RG.out.below hB RG.out.lt).cell k).trans (HRV.out k hlt hk9)
      have cy := ((RH.out.below hB RH.out.lt).cell k).trans (octw_get c0 c1 c2 c3 c4 c5 c6 c7 k hk9)
      rw [← HRD.out k hk9] at cx
      have HY := hid (fun h => wrE_yes (fs := fs) (gs := [c0, c1, c2, c3, c4, c5, c6, c7]) (k := k) h)
      have HN := hid (fun h => wrE_no (fs := fs) (gs := [c0, c1, c2, c3, c4, c5, c6, c7]) (k := k) h)
      obtain ⟨x, hx⟩ : ∃ x, dg fs k = x := ⟨_, rfl⟩
      obtain ⟨y, hy⟩ : ∃ y, dg [c0, c1, c2, c3, c4, c5, c6, c7] k = y := ⟨_, rfl⟩
      rw [hx] at cx HY HN
      rw [hy] at cy HY HN
      clear hown hB hx hy
      by_cases hz9 : x = y
      · have HX := hid (HY.out hz9)
        have d1 : (y != x) = false := by simp [hz9]
        clear hz9
        go_wp2_with fail
        go_quiet (fail)
        go_wp2_with fail
        go_roundw
        case rel => exact ⟨k + 1, by omega, by first | rfl | go_num, by rw [HX.out]; exact HOW.out, below_drewN HBX.out _⟩
        case measure => simp [intOf]; omega
      · have HX := hid (HN.out hz9)
        have d1 : (y != x) = true := by simpa using fun h => hz9 h.symm
        clear hz9
        go_wp2_with fail
        go_quiet (fail)
        have HO1 := hid ((show (wr.drewN nq).ownsRow V.heap.size 2 1 u10 (wrE fs [c0, c1, c2, c3, c4, c5, c6, c7] k).length ((wrE fs [c0, c1, c2, c3, c4, c5, c6, c7] k).map (Value.int .i64)) from HOW.out).alloc (.cells #[.int .i64 (k : Int)] 2))
        have HBA := hid ((below_drewN HBX.out nq).alloc (by simpa using hzx) (.cells #[.int .i64 (k : Int)] 2))
        have n0 := (Row.new (wr.drewN nq) 2 [.int .i64 (k : Int)]).cell 0
        simp only [List.getElem?_cons_zero] at n0
        go_wp2_with (at_builtin; refine wpList_append_own _ rfl _ _ 27 rfl V.heap.size 2 i0 (.int .i64 0) 1 8 Try.underlying27 hi iz0 iz1 iz2 rfl (by decide) _ _ _ rfl HO1.out ⟨wr.heap.size, 0, none⟩ 1 1 [.int .i64 (k : Int)] rfl rfl (by intro j u hj; match j, hj with | 0, hj => simp at hj; subst hj; simpa [Addr.add] using n0) (by intro u hu; simp at hu; subst hu; rfl) (by have := MLEN.out; unfold maxLen; omega) (by have := MLEN.out; omega) (by simp; omega) ?_; intro v' w2 hown' hgrow _)
        have HB2 := hid (HBA.out.grown hgrow (by simp; omega) (fun k e => by have := (HO1.out.lt k e).1; omega))
        have hown2 := hid (show w2.ownsRow V.heap.size 2 1 v' (wrE fs [c0, c1, c2, c3, c4, c5, c6, c7] (k + 1)).length ((wrE fs [c0, c1, c2, c3, c4, c5, c6, c7] (k + 1)).map (Value.int .i64)) by
          rw [HX.out, List.length_append, List.map_append]; exact hown')
        clear hown' hgrow n0
        go_roundw
        case rel => exact ⟨k + 1, by omega, by first | rfl | go_num, hown2.out, HB2.out⟩
        case measure => simp [intOf]; omega
    · obtain rfl : k = n := by omega
      have HO := hid ((OwnI.of_owns hown (by have := MLEN.out; omega)).base (b' := w.heap.size) (by omega))
      have BF := hid (BV.out.trans (hB.mono hzV))
      clear hown hB
      go_wp2_with fail
      go_ret
      exact ⟨_, rfl, HO.out, BF.out⟩
theorem l02Wrong_e (e : Nat) (Y : Int) (B b n cap g m cap' : Nat) (zs : List Int) (js : List (Int × Int)) (turn : Int) (w : World) (M0 : MoAt w B b n cap g m cap' zs js) (hn : n = zs.length) (hm : m = js.length) (hcap : n ≤ cap) (hv : okM zs js = true) (ht : turnOk zs turn = true)
    (hRd : ∀ w1 d0 d1 d2 d3 d4 d5 d6 d7, MoAt w1 B b n cap g m cap' zs js → hasR zs js [d0, d1, d2, d3, d4, d5, d6, d7] = true → Calls Try.prog 34 #[.pointer (some ⟨B, 0, none⟩), .agg ([.int .i64 d0, .int .i64 d1, .int .i64 d2, .int .i64 d3, .int .i64 d4, .int .i64 d5, .int .i64 d6, .int .i64 d7] : List Value).toArray, .int .i64 Y] w1 fun x w' => x = .returned (.agg (rdV e zs [d0, d1, d2, d3, d4, d5, d6, d7] n).toArray) ∧ Below w1.heap.size w1 w') :
    Calls Try.prog 17 #[.pointer (some ⟨B, 0, none⟩), .int .i64 turn, .int .i64 Y] w fun x w' => ∃ v, x = .returned v ∧ OwnI w' w.heap.size v (wwE e zs js turn) ∧ Below w.heap.size w w' := by
  have hv1 := (okM_out hv).1
  have sb := spanL_bd hv1
  have tb := turnOk_out ht
  have h8 : zs.length ≤ 8 := (okL_out hv1).2.1
  have HL := partsL_8 zs js turn
  have HR0 : hasR zs js (partsL zs js turn) = true := hasR_parts hv
  have HP := fun w1 (s : MoAt w1 B b n cap g m cap' zs js) => l02Parts_any B b n cap g m cap' zs js turn w1 s hn hm hcap hv ht
  have HDD := fun w1 (s : Stk w1 b zs) => specDigitsOf_any b n cap zs (turn / 1000) w1 s hn hcap
  have hd := dofR_yes (turn / 1000) hv1 (by unfold spanL at tb; omega)
  rw [hd] at HDD
  have HC := fun j (hj : j < 8) => dg_list8 (dgL zs (turn / 1000)) j hj
  dsimp only at HDD
  obtain ⟨p0, hp0⟩ : ∃ x, x = dg (partsL zs js turn) 0 := ⟨_, rfl⟩
  obtain ⟨c0, hc0⟩ : ∃ x, x = dg (dgL zs (turn / 1000)) 0 := ⟨_, rfl⟩
  obtain ⟨p1, hp1⟩ : ∃ x, x = dg (partsL zs js turn) 1 := ⟨_, rfl⟩
  obtain ⟨c1, hc1⟩ : ∃ x, x = dg (dgL zs (turn / 1000)) 1 := ⟨_, rfl⟩
  obtain ⟨p2, hp2⟩ : ∃ x, x = dg (partsL zs js turn) 2 := ⟨_, rfl⟩
  obtain ⟨c2, hc2⟩ : ∃ x, x = dg (dgL zs (turn / 1000)) 2 := ⟨_, rfl⟩
  obtain ⟨p3, hp3⟩ : ∃ x, x = dg (partsL zs js turn) 3 := ⟨_, rfl⟩
  obtain ⟨c3, hc3⟩ : ∃ x, x = dg (dgL zs (turn / 1000)) 3 := ⟨_, rfl⟩
  obtain ⟨p4, hp4⟩ : ∃ x, x = dg (partsL zs js turn) 4 := ⟨_, rfl⟩
  obtain ⟨c4, hc4⟩ : ∃ x, x = dg (dgL zs (turn / 1000)) 4 := ⟨_, rfl⟩
  obtain ⟨p5, hp5⟩ : ∃ x, x = dg (partsL zs js turn) 5 := ⟨_, rfl⟩
  obtain ⟨c5, hc5⟩ : ∃ x, x = dg (dgL zs (turn / 1000)) 5 := ⟨_, rfl⟩
  obtain ⟨p6, hp6⟩ : ∃ x, x = dg (partsL zs js turn) 6 := ⟨_, rfl⟩
  obtain ⟨c6, hc6⟩ : ∃ x, x = dg (dgL zs (turn / 1000)) 6 := ⟨_, rfl⟩
  obtain ⟨p7, hp7⟩ : ∃ x, x = dg (partsL zs js turn) 7 := ⟨_, rfl⟩
  obtain ⟨c7, hc7⟩ : ∃ x, x = dg (dgL zs (turn / 1000)) 7 := ⟨_, rfl⟩
  rw [← hp0, ← hp1, ← hp2, ← hp3, ← hp4, ← hp5, ← hp6, ← hp7] at HL HP
  rw [← hc0, ← hc1, ← hc2, ← hc3, ← hc4, ← hc5, ← hc6, ← hc7] at HDD
  have HC' : ∀ j, j < 8 → dg [c0, c1, c2, c3, c4, c5, c6, c7] j = dg (dgL zs (turn / 1000)) j := by
    intro j hj; rw [hc0, hc1, hc2, hc3, hc4, hc5, hc6, hc7]; exact HC j hj
  rw [HL] at HR0
  have E : wwE e zs js turn = wrE (rdL e zs [p0, p1, p2, p3, p4, p5, p6, p7]) [c0, c1, c2, c3, c4, c5, c6, c7] n := by
    unfold wwE
    rw [HL, ← hn]
    exact (wrE_congr _ _ _ n (fun j hj => HC' j (by omega))).symm
  rw [E]
  exact l02Wrong_at e Y B b n cap g m cap' zs js turn p0 p1 p2 p3 p4 p5 p6 p7 c0 c1 c2 c3 c4 c5 c6 c7 w M0 (by omega) (by omega) HP (fun w1 s => hRd w1 p0 p1 p2 p3 p4 p5 p6 p7 s HR0) HDD
set_option maxRecDepth 100000 in
set_option maxHeartbeats 4000000 in
theorem specWw_no (b n cap g m cap' : Nat) (zs : List Int) (js : List (Int × Int)) (turn : Int) (w : World) (hS : Stk w b zs) (hJ : Jst w g js) (hn : n = zs.length) (hm : m = js.length) (hcap : n ≤ cap) (hb : ∀ j, j < js.length → (-128 ≤ jk js j ∧ jk js j ≤ 127) ∧ (-32768 ≤ jf js j ∧ jf js j ≤ 32767)) (y : Int) (hv : okM zs js = false) :
    Calls Try.prog 5 #[.agg #[.slice (some ⟨b, 0, none⟩) n cap, .slice (some ⟨g, 0, none⟩) m cap'], .int .i64 turn, .int .i64 y] w fun e w' => ∃ x, e = .returned (.tuple #[x, .int .i64 (wwR zs js turn y).2]) ∧ OwnI w' w.heap.size x (wwR zs js turn y).1 ∧ Below w.heap.size w w' := by
  have bel : Below w.heap.size w (w.alloc (.cells #[.slice (some ⟨b, 0, none⟩) n cap, .slice (some ⟨g, 0, none⟩) m cap'] 33)) := (Below.refl _ w).alloc (Nat.le_refl _) _
  have M0 := hid (MoAt.new w b n cap g m cap' zs js hS hJ)
  have HA := hid (l02Asked_any w.heap.size b n cap g m cap' zs js turn _ M0.out hn hm hb)
  rw [wwR_no hv]
  rw [show askR zs js turn = 1 from by simp [askR, hv]] at HA
  clear hS hJ hn hm hv hb hcap
  go_enter Try.func5, Try.ntmps5
  go_wp2_with fail
  refine HA.out.mono ?_
  rintro e w1 ⟨rfl, hB⟩
  have hz := hB.size
  have M1 := hid (M0.out.keep hB)
  simp only [World.size_alloc] at hB hz
  have b2 := hid ((bel.trans (hB.mono (by omega))).alloc (by omega) (.cells #[] 2))
  clear hB
  go_wp2_with fail
  go_ret2
  exact ⟨_, rfl, OwnI.nil _ _ _ _, b2.out⟩
set_option maxRecDepth 100000 in
set_option maxHeartbeats 4000000 in
theorem specWw_turn (b n cap g m cap' : Nat) (zs : List Int) (js : List (Int × Int)) (turn : Int) (w : World) (hS : Stk w b zs) (hJ : Jst w g js) (hn : n = zs.length) (hm : m = js.length) (hcap : n ≤ cap) (hb : ∀ j, j < js.length → (-128 ≤ jk js j ∧ jk js j ≤ 127) ∧ (-32768 ≤ jf js j ∧ jf js j ≤ 32767)) (y : Int) (hv : okM zs js = true) (ht : turnOk zs turn = false) :
    Calls Try.prog 5 #[.agg #[.slice (some ⟨b, 0, none⟩) n cap, .slice (some ⟨g, 0, none⟩) m cap'], .int .i64 turn, .int .i64 y] w fun e w' => ∃ x, e = .returned (.tuple #[x, .int .i64 (wwR zs js turn y).2]) ∧ OwnI w' w.heap.size x (wwR zs js turn y).1 ∧ Below w.heap.size w w' := by
  have bel : Below w.heap.size w (w.alloc (.cells #[.slice (some ⟨b, 0, none⟩) n cap, .slice (some ⟨g, 0, none⟩) m cap'] 33)) := (Below.refl _ w).alloc (Nat.le_refl _) _
  have M0 := hid (MoAt.new w b n cap g m cap' zs js hS hJ)
  have HA := hid (l02Asked_any w.heap.size b n cap g m cap' zs js turn _ M0.out hn hm hb)
  rw [wwR_turn hv ht]
  rw [show askR zs js turn = 2 from by simp [askR, hv, ht]] at HA
  clear hS hJ hn hm hv hb ht hcap
  go_enter Try.func5, Try.ntmps5
  go_wp2_with fail
  refine HA.out.mono ?_
  rintro e w1 ⟨rfl, hB⟩
  have hz := hB.size
  have M1 := hid (M0.out.keep hB)
  simp only [World.size_alloc] at hB hz
  have b2 := hid ((bel.trans (hB.mono (by omega))).alloc (by omega) (.cells #[] 2))
  clear hB
  go_wp2_with fail
  go_ret2
  exact ⟨_, rfl, OwnI.nil _ _ _ _, b2.out⟩
set_option maxRecDepth 100000 in
set_option maxHeartbeats 4000000 in
theorem specWw_eye (b n cap g m cap' : Nat) (zs : List Int) (js : List (Int × Int)) (turn : Int) (w : World) (hS : Stk w b zs) (hJ : Jst w g js) (hn : n = zs.length) (hm : m = js.length) (hcap : n ≤ cap) (hb : ∀ j, j < js.length → (-128 ≤ jk js j ∧ jk js j ≤ 127) ∧ (-32768 ≤ jf js j ∧ jf js j ≤ 32767)) (y : Int) (hv : okM zs js = true) (ht : turnOk zs turn = true) (hy : y < 0 ∨ 2 ≤ y) :
    Calls Try.prog 5 #[.agg #[.slice (some ⟨b, 0, none⟩) n cap, .slice (some ⟨g, 0, none⟩) m cap'], .int .i64 turn, .int .i64 y] w fun e w' => ∃ x, e = .returned (.tuple #[x, .int .i64 (wwR zs js turn y).2]) ∧ OwnI w' w.heap.size x (wwR zs js turn y).1 ∧ Below w.heap.size w w' := by
  have bel : Below w.heap.size w (w.alloc (.cells #[.slice (some ⟨b, 0, none⟩) n cap, .slice (some ⟨g, 0, none⟩) m cap'] 33)) := (Below.refl _ w).alloc (Nat.le_refl _) _
  have M0 := hid (MoAt.new w b n cap g m cap' zs js hS hJ)
  have HA := hid (l02Asked_any w.heap.size b n cap g m cap' zs js turn _ M0.out hn hm hb)
  rw [wwR_eye hv hy]
  rw [show askR zs js turn = 0 from by simp [askR, hv, ht]] at HA
  have HE := hid (fun w => l02Eye_no y w (by omega))
  clear hS hJ hn hm hv hb ht hy hcap
  go_enter Try.func5, Try.ntmps5
  go_wp2_with fail
  refine HA.out.mono ?_
  rintro e w1 ⟨rfl, hB⟩
  have hz := hB.size
  have M1 := hid (M0.out.keep hB)
  simp only [World.size_alloc] at hB hz
  go_wp2_with fail
  refine (HE.out _).mono ?_
  rintro e w2 ⟨rfl, rfl⟩
  have b2 := hid ((bel.trans (hB.mono (by omega))).alloc (by omega) (.cells #[] 2))
  clear hB
  go_wp2_with fail
  go_ret2
  exact ⟨_, rfl, OwnI.nil _ _ _ _, b2.out⟩
set_option maxRecDepth 100000 in
set_option maxHeartbeats 4000000 in
theorem specWw_zero (b n cap g m cap' : Nat) (zs : List Int) (js : List (Int × Int)) (turn : Int) (w : World) (hS : Stk w b zs) (hJ : Jst w g js) (hn : n = zs.length) (hm : m = js.length) (hcap : n ≤ cap) (hb : ∀ j, j < js.length → (-128 ≤ jk js j ∧ jk js j ≤ 127) ∧ (-32768 ≤ jf js j ∧ jf js j ≤ 32767)) (hv : okM zs js = true) (ht : turnOk zs turn = true) :
    Calls Try.prog 5 #[.agg #[.slice (some ⟨b, 0, none⟩) n cap, .slice (some ⟨g, 0, none⟩) m cap'], .int .i64 turn, .int .i64 0] w fun e w' => ∃ x, e = .returned (.tuple #[x, .int .i64 (wwR zs js turn 0).2]) ∧ OwnI w' w.heap.size x (wwR zs js turn 0).1 ∧ Below w.heap.size w w' := by
  have bel : Below w.heap.size w (w.alloc (.cells #[.slice (some ⟨b, 0, none⟩) n cap, .slice (some ⟨g, 0, none⟩) m cap'] 33)) := (Below.refl _ w).alloc (Nat.le_refl _) _
  have M0 := hid (MoAt.new w b n cap g m cap' zs js hS hJ)
  have HA := hid (l02Asked_any w.heap.size b n cap g m cap' zs js turn _ M0.out hn hm hb)
  rw [wwR_zero hv ht]
  rw [show askR zs js turn = 0 from by simp [askR, hv, ht]] at HA
  have HE := hid (fun w => l02Eye_yes 0 w (by omega))
  have HW := hid (fun w1 (M : MoAt w1 w.heap.size b n cap g m cap' zs js) => l02Wrong_e 0 0 w.heap.size b n cap g m cap' zs js turn w1 M hn hm hcap hv ht (fun w1 d0 d1 d2 d3 d4 d5 d6 d7 M r => l02Reads_zero w.heap.size b n cap g m cap' zs js d0 d1 d2 d3 d4 d5 d6 d7 w1 M hn r))
  obtain ⟨E, hE⟩ : ∃ E, wwE 0 zs js turn = E := ⟨_, rfl⟩
  rw [hE] at HW ⊢
  clear hS hJ hn hm hv hb ht hE hcap
  go_enter Try.func5, Try.ntmps5
  go_wp2_with fail
  refine HA.out.mono ?_
  rintro e w1 ⟨rfl, hB⟩
  have hz := hB.size
  have M1 := hid (M0.out.keep hB)
  simp only [World.size_alloc] at hB hz
  go_wp2_with fail
  refine (HE.out _).mono ?_
  rintro e w2 ⟨rfl, rfl⟩
  go_wp2_with fail
  refine (HW.out _ M1.out).mono ?_
  rintro e w2 ⟨x, rfl, hO, hB2⟩
  have O2 := hid (hO.base (b' := w.heap.size) (by omega))
  have b2 := hid (bel.trans ((hB.mono (by omega)).trans (hB2.mono (by omega))))
  clear hB hB2 hO
  go_wp2_with fail
  go_ret2
  exact ⟨_, rfl, O2.out, b2.out⟩
set_option maxRecDepth 100000 in
set_option maxHeartbeats 4000000 in
theorem specWw_one (b n cap g m cap' : Nat) (zs : List Int) (js : List (Int × Int)) (turn : Int) (w : World) (hS : Stk w b zs) (hJ : Jst w g js) (hn : n = zs.length) (hm : m = js.length) (hcap : n ≤ cap) (hb : ∀ j, j < js.length → (-128 ≤ jk js j ∧ jk js j ≤ 127) ∧ (-32768 ≤ jf js j ∧ jf js j ≤ 32767)) (hv : okM zs js = true) (ht : turnOk zs turn = true) :
    Calls Try.prog 5 #[.agg #[.slice (some ⟨b, 0, none⟩) n cap, .slice (some ⟨g, 0, none⟩) m cap'], .int .i64 turn, .int .i64 1] w fun e w' => ∃ x, e = .returned (.tuple #[x, .int .i64 (wwR zs js turn 1).2]) ∧ OwnI w' w.heap.size x (wwR zs js turn 1).1 ∧ Below w.heap.size w w' := by
  have bel : Below w.heap.size w (w.alloc (.cells #[.slice (some ⟨b, 0, none⟩) n cap, .slice (some ⟨g, 0, none⟩) m cap'] 33)) := (Below.refl _ w).alloc (Nat.le_refl _) _
  have M0 := hid (MoAt.new w b n cap g m cap' zs js hS hJ)
  have HA := hid (l02Asked_any w.heap.size b n cap g m cap' zs js turn _ M0.out hn hm hb)
  rw [wwR_one hv ht]
  rw [show askR zs js turn = 0 from by simp [askR, hv, ht]] at HA
  have HE := hid (fun w => l02Eye_yes 1 w (by omega))
  have HW := hid (fun w1 (M : MoAt w1 w.heap.size b n cap g m cap' zs js) => l02Wrong_e 1 1 w.heap.size b n cap g m cap' zs js turn w1 M hn hm hcap hv ht (fun w1 d0 d1 d2 d3 d4 d5 d6 d7 M r => l02Reads_one w.heap.size b n cap g m cap' zs js d0 d1 d2 d3 d4 d5 d6 d7 w1 M hn r))
  obtain ⟨E, hE⟩ : ∃ E, wwE 1 zs js turn = E := ⟨_, rfl⟩
  rw [hE] at HW ⊢
  clear hS hJ hn hm hv hb ht hE hcap
  go_enter Try.func5, Try.ntmps5
  go_wp2_with fail
  refine HA.out.mono ?_
  rintro e w1 ⟨rfl, hB⟩
  have hz := hB.size
  have M1 := hid (M0.out.keep hB)
  simp only [World.size_alloc] at hB hz
  go_wp2_with fail
  refine (HE.out _).mono ?_
  rintro e w2 ⟨rfl, rfl⟩
  go_wp2_with fail
  refine (HW.out _ M1.out).mono ?_
  rintro e w2 ⟨x, rfl, hO, hB2⟩
  have O2 := hid (hO.base (b' := w.heap.size) (by omega))
  have b2 := hid (bel.trans ((hB.mono (by omega)).trans (hB2.mono (by omega))))
  clear hB hB2 hO
  go_wp2_with fail
  go_ret2
  exact ⟨_, rfl, O2.out, b2.out⟩
theorem specWrong_any (b n cap g m cap' : Nat) (zs : List Int) (js : List (Int × Int)) (turn y : Int) (w : World) (hS : Stk w b zs) (hJ : Jst w g js) (hn : n = zs.length) (hm : m = js.length) (hcap : n ≤ cap) (hb : ∀ j, j < js.length → (-128 ≤ jk js j ∧ jk js j ≤ 127) ∧ (-32768 ≤ jf js j ∧ jf js j ≤ 32767)) :
    Calls Try.prog 5 #[.agg #[.slice (some ⟨b, 0, none⟩) n cap, .slice (some ⟨g, 0, none⟩) m cap'], .int .i64 turn, .int .i64 y] w fun e w' => ∃ x, e = .returned (.tuple #[x, .int .i64 (wwR zs js turn y).2]) ∧ OwnI w' w.heap.size x (wwR zs js turn y).1 ∧ Below w.heap.size w w' := by
  cases hv : okM zs js with
  | false => exact specWw_no b n cap g m cap' zs js turn w hS hJ hn hm hcap hb y hv
  | true =>
    cases ht : turnOk zs turn with
    | false => exact specWw_turn b n cap g m cap' zs js turn w hS hJ hn hm hcap hb y hv ht
    | true =>
      by_cases h0 : y = 0
      · subst h0; exact specWw_zero b n cap g m cap' zs js turn w hS hJ hn hm hcap hb hv ht
      · by_cases h1 : y = 1
        · subst h1; exact specWw_one b n cap g m cap' zs js turn w hS hJ hn hm hcap hb hv ht
        · exact specWw_eye b n cap g m cap' zs js turn w hS hJ hn hm hcap hb y hv ht (by omega)
end Go.Proofs.Ytomhmkdfhhmenaa
