/- MovingWheels: the model's. -/
import Derived.Test.YtnblflafmmllgaaMwI
namespace Go.Proofs.Ytnblflafmmllgaa
open Go.RowKit
set_option linter.unusedVariables false
set_option linter.unusedSimpArgs false
theorem map_dg (es : List Int) (k : Nat) (hk : k < es.length) : (es.map (Value.int .i64))[k]? = some (.int .i64 (dg es k)) := by simp [dg, hk]
set_option maxRecDepth 100000 in
set_option maxHeartbeats 4000000 in
theorem specMoving_any (b n cap g m cap' : Nat) (zs : List Int) (js : List (Int × Int)) (turn : Int) (w : World) (hS : Stk w b zs) (hJ : Jst w g js) (hn : n = zs.length) (hm : m = js.length) (hcap : n ≤ cap) (hb : ∀ j, j < js.length → (-128 ≤ jk js j ∧ jk js j ≤ 127) ∧ (-32768 ≤ jf js j ∧ jf js j ≤ 32767)) :
    Calls Try.prog 14 #[.agg #[.slice (some ⟨b, 0, none⟩) n cap, .slice (some ⟨g, 0, none⟩) m cap'], .int .i64 turn] w fun e w' => ∃ x, e = .returned (.tuple #[x, .int .i64 (mwR zs js turn).2]) ∧ OwnI w' w.heap.size x (mwR zs js turn).1 ∧ Below w.heap.size w w' := by
  obtain ⟨i0, hi, iz0, iz1, iz2⟩ := info_parts Try.infoI64m
  have bel : Below w.heap.size w (w.alloc (.cells #[.slice (some ⟨b, 0, none⟩) n cap, .slice (some ⟨g, 0, none⟩) m cap'] 33)) := (Below.refl _ w).alloc (Nat.le_refl _) _
  have M0 := hid (MoAt.new w b n cap g m cap' zs js hS hJ)
  have HA := hid (l02Asked_any w.heap.size b n cap g m cap' zs js turn _ M0.out hn hm hb)
  have hbl := hS.1
  have hgl := hJ.1
  cases hv : okM zs js with
  | false =>
    rw [mwR_no hv]
    rw [show askR zs js turn = 1 from by simp [askR, hv]] at HA
    clear hS hJ hn hm hv hb
    go_enter Try.func14, Try.ntmps14
    go_wp2_with fail
    refine HA.out.mono ?_
    rintro e w1 ⟨rfl, hB⟩
    have hz := hB.size
    simp only [World.size_alloc] at hB hz
    have b2 := hid ((bel.trans (hB.mono (by omega))).alloc (by omega) (.cells #[] 2))
    clear hB
    go_wp2_with fail
    go_ret2
    exact ⟨_, rfl, OwnI.nil _ _ _ _, b2.out⟩
  | true =>
    have hv1 := (okM_out hv).1
    cases ht : turnOk zs turn with
    | false =>
      rw [mwR_turn hv ht]
      rw [show askR zs js turn = 2 from by simp [askR, hv, ht]] at HA
      clear hS hJ hn hm hv hb hv1 ht
      go_enter Try.func14, Try.ntmps14
      go_wp2_with fail
      refine HA.out.mono ?_
      rintro e w1 ⟨rfl, hB⟩
      have hz := hB.size
      simp only [World.size_alloc] at hB hz
      have b2 := hid ((bel.trans (hB.mono (by omega))).alloc (by omega) (.cells #[] 2))
      clear hB
      go_wp2_with fail
      go_ret2
      exact ⟨_, rfl, OwnI.nil _ _ _ _, b2.out⟩
    | true =>
      rw [mwR_yes hv ht]
      rw [show askR zs js turn = 0 from by simp [askR, hv, ht]] at HA
      have h8 : zs.length ≤ 8 := (okL_out hv1).2.1
      have HD := hid (fun w1 (h : MoAt w1 w.heap.size b n cap g m cap' zs js) => l02Parts_any w.heap.size b n cap g m cap' zs js turn w1 h hn hm hcap hv ht)
      have HBD := hid (fun k hk => dg_parts_bd (turn := turn) hv k hk)
      have HL := hid (partsL_list zs js turn)
      have HLE := hid (show (partsL zs js turn).length = 8 from by simp [partsL])
      have HALL := hid (show movE (partsL zs js turn) 8 = movE (partsL zs js turn) n from by
        have := movE_all js turn h8 (8 - zs.length) (by omega)
        rw [show zs.length + (8 - zs.length) = 8 from by omega] at this
        rw [hn]; exact this)
      have hn8 : n ≤ 8 := by omega
      obtain ⟨es, hes⟩ : ∃ es, partsL zs js turn = es := ⟨_, rfl⟩
      rw [hes] at HD HBD HL HLE HALL ⊢
      obtain ⟨e0, he0⟩ : ∃ x, x = dg es 0 := ⟨_, rfl⟩
      obtain ⟨e1, he1⟩ : ∃ x, x = dg es 1 := ⟨_, rfl⟩
      obtain ⟨e2, he2⟩ : ∃ x, x = dg es 2 := ⟨_, rfl⟩
      obtain ⟨e3, he3⟩ : ∃ x, x = dg es 3 := ⟨_, rfl⟩
      obtain ⟨e4, he4⟩ : ∃ x, x = dg es 4 := ⟨_, rfl⟩
      obtain ⟨e5, he5⟩ : ∃ x, x = dg es 5 := ⟨_, rfl⟩
      obtain ⟨e6, he6⟩ : ∃ x, x = dg es 6 := ⟨_, rfl⟩
      obtain ⟨e7, he7⟩ : ∃ x, x = dg es 7 := ⟨_, rfl⟩
      rw [← he0, ← he1, ← he2, ← he3, ← he4, ← he5, ← he6, ← he7] at HD HL
      have HLEN := hid (movE_len es)
      rw [HALL.out]
      clear hS hJ hn hm hv hb hv1 ht hes he0 he1 he2 he3 he4 he5 he6 he7
      go_enter Try.func14, Try.ntmps14
      go_wp2_with fail
      refine HA.out.mono ?_
      rintro e w1 ⟨rfl, hB⟩
      have hz := hB.size
      have M1 := hid (M0.out.keep hB)
      simp only [World.size_alloc] at hB hz
      have B1 := hid (bel.trans (hB.mono (by omega)))
      clear hB
      go_wp2_with fail
      refine (HD.out w1 M1.out).mono ?_
      rintro e w2 ⟨rfl, hB2⟩
      have hz2 := hB2.size
      have hbx := (Below.refl w2.heap.size w2).alloc (Nat.le_refl _) (.cells #[.int .i64 e0, .int .i64 e1, .int .i64 e2, .int .i64 e3, .int .i64 e4, .int .i64 e5, .int .i64 e6, .int .i64 e7] 64)
      have m2 := hid ((M1.out.keep hB2).keep hbx)
      have b2 := hid ((B1.out.trans (hB2.mono (by omega))).trans (hbx.mono (by omega)))
      have r2 := hid (Row.new w2 64 [.int .i64 e0, .int .i64 e1, .int .i64 e2, .int .i64 e3, .int .i64 e4, .int .i64 e5, .int .i64 e6, .int .i64 e7])
      clear hB2 hbx
      go_wp2_with fail
      obtain ⟨W, hW⟩ : ∃ W, W = w2.alloc (.cells #[.int .i64 e0, .int .i64 e1, .int .i64 e2, .int .i64 e3, .int .i64 e4, .int .i64 e5, .int .i64 e6, .int .i64 e7] 64) := ⟨_, rfl⟩
      rw [show w2.alloc (.cells [.int .i64 e0, .int .i64 e1, .int .i64 e2, .int .i64 e3, .int .i64 e4, .int .i64 e5, .int .i64 e6, .int .i64 e7].toArray 64) = W from hW.symm] at r2
      rw [← HL.out] at r2
      have hWs : w2.heap.size + 1 = W.heap.size := by rw [hW]; simp
      rw [← hW] at b2 m2 ⊢
      clear hW
      have hzW := b2.out.size
      have O0 := hid (World.ownsRow_lit (base := W.heap.size) (e := 2) (size := 1) W #[] 0 (Nat.le_refl _) (by unfold maxLen; omega) rfl)
      have BX0 := hid ((Below.refl W.heap.size W).alloc (Nat.le_refl _) (.cells #[] 2))
      go_wp2_with fail
      go_loopw [8, 9] (fun v i wr => ∃ k : Nat, k ≤ n ∧ i = .int .i64 k ∧ wr.ownsRow W.heap.size 2 1 v (movE es k).length ((movE es k).map (Value.int .i64)) ∧ Below W.heap.size W wr) (fun _ i _ => n - (intOf i).toNat)
      case atStart => exact ⟨0, Nat.zero_le _, rfl, by first | exact O0.out | (rw [hWs]; exact O0.out), BX0.out⟩
      case round =>
        obtain ⟨k, hk, rfl, hown, hB⟩ := hrel
        have hzx := hB.size
        have HOW := hid hown
        have HBX := hid hB
        have MLEN := hid (HLEN.out k)
        obtain ⟨c0, _⟩ := (m2.out.keep hB).cells
        by_cases hlt : k < n
        · have hlt' : (k : Int) < (n : Int) := by omega
          have hk0 : (0 : Int) ≤ (k : Int) := by omega
          have hk8 : (k : Int) < 8 := by omega
          have hbd := HBD.out k (by omega)
          have cx := ((r2.out.below hB r2.out.lt).cell k).trans (map_dg es k (by rw [HLE.out]; omega))
          have HY := hid (fun h => movE_yes (es := es) (k := k) h)
          have HN := hid (fun h => movE_no (es := es) (k := k) h)
          obtain ⟨x, hx⟩ : ∃ x, dg es k = x := ⟨_, rfl⟩
          rw [hx] at hbd cx HY HN
          have e1 : x.tmod 1000 = x % 1000 := Int.tmod_eq_emod_of_nonneg hbd.1
          clear hown hB hbd hx
          by_cases hz9 : x % 1000 = 0
          · have HX := hid (HY.out hz9)
            have d1 : (x % 1000 != 0) = false := by simp [hz9]
            clear hz9
            go_wp2_with fail
            go_roundw
            case rel => exact ⟨k + 1, by omega, by first | rfl | go_num, by rw [HX.out]; exact HOW.out, HBX.out⟩
            case measure => simp [intOf]; omega
          · have HX := hid (HN.out hz9)
            have d1 : (x % 1000 != 0) = true := by simp [hz9]
            have HO1 := hid (HOW.out.alloc (.cells #[.int .i64 (k : Int)] 2))
            have HBA := hid (HBX.out.alloc hzx (.cells #[.int .i64 (k : Int)] 2))
            have n0 := (Row.new wr 2 [.int .i64 (k : Int)]).cell 0
            simp only [List.getElem?_cons_zero] at n0
            clear hz9
            go_wp2_with (at_builtin; refine wpList_append_own _ rfl _ _ 27 rfl W.heap.size 2 i0 (.int .i64 0) 1 8 Try.underlying27 hi iz0 iz1 iz2 rfl (by decide) _ _ _ rfl HO1.out ⟨wr.heap.size, 0, none⟩ 1 1 [.int .i64 (k : Int)] rfl rfl (by intro j u hj; match j, hj with | 0, hj => simp at hj; subst hj; simp [Addr.add, n0]) (by intro u hu; simp at hu; subst hu; rfl) (by have := MLEN.out; unfold maxLen; omega) (by have := MLEN.out; omega) (by simp; omega) ?_; intro v' w2 hown' hgrow _)
            have HB2 := hid (HBA.out.grown hgrow (by simp; omega) (fun k e => by have := (HO1.out.lt k e).1; omega))
            have hown2 := hid (show w2.ownsRow W.heap.size 2 1 v' (movE es (k + 1)).length ((movE es (k + 1)).map (Value.int .i64)) by
              rw [HX.out, List.length_append, List.map_append]; exact hown')
            clear hown' hgrow n0
            go_roundw
            case rel => exact ⟨k + 1, by omega, by first | rfl | go_num, hown2.out, HB2.out⟩
            case measure => simp [intOf]; omega
        · obtain rfl : k = n := by omega
          have HO := hid ((OwnI.of_owns hown (by have := MLEN.out; omega)).base (b' := w.heap.size) (by omega))
          have BF := hid (b2.out.trans (hB.mono hzW))
          clear hown hB
          go_wp2_with fail
          go_ret2
          exact ⟨_, rfl, HO.out, BF.out⟩
end Go.Proofs.Ytnblflafmmllgaa
