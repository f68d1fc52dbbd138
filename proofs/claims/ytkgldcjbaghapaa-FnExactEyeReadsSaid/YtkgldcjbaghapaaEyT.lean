/- EyeReads: the program's and the model's answers. -/
import Derived.Test.YtkgldcjbaghapaaEyS
namespace Go.Proofs.Ytkgldcjbaghapaa
open Go.RowKit
theorem l02Eye_yes (y : Int) (w : World) (h : 0 ≤ y ∧ y ≤ 1) : Calls Try.prog 25 #[.int .i64 y] w fun e w' => e = .returned (.bool true) ∧ w = w' := by
  go_enter Try.func25, Try.ntmps25
  go_wp2_with (go_at_call 46; refine (inr_yes _ _ _ _ (by omega)).mono ?_; rintro e w' ⟨rfl, rfl⟩)
  go_ret
  exact ⟨rfl, rfl⟩
theorem l02Eye_no (y : Int) (w : World) (h : y < 0 ∨ 1 < y) : Calls Try.prog 25 #[.int .i64 y] w fun e w' => e = .returned (.bool false) ∧ w = w' := by
  go_enter Try.func25, Try.ntmps25
  go_wp2_with (go_at_call 46; refine (inr_no _ _ _ _ (by omega)).mono ?_; rintro e w' ⟨rfl, rfl⟩)
  go_ret
  exact ⟨rfl, rfl⟩
set_option maxRecDepth 100000 in
set_option maxHeartbeats 1000000 in
theorem implEyeReads_any (b n cap g m cap' : Nat) (zs : List Int) (js : List (Int × Int)) (d0 d1 d2 d3 d4 d5 d6 d7 y : Int) (w : World) (hS : Stk w b zs) (hJ : Jst w g js) (hn : n = zs.length) (hm : m = js.length) :
    Calls Try.prog 11 #[.agg #[.slice (some ⟨b, 0, none⟩) n cap, .slice (some ⟨g, 0, none⟩) m cap'], .agg #[.int .i64 d0, .int .i64 d1, .int .i64 d2, .int .i64 d3, .int .i64 d4, .int .i64 d5, .int .i64 d6, .int .i64 d7], .int .i64 y] w fun e w' => e = .returned (.tuple #[.agg (eyR zs js [d0, d1, d2, d3, d4, d5, d6, d7] y).1.toArray, .int .i64 (eyR zs js [d0, d1, d2, d3, d4, d5, d6, d7] y).2]) ∧ Below w.heap.size w w' := by
  have bel1 : Below (w.alloc (.cells #[.slice (some ⟨b, 0, none⟩) n cap, .slice (some ⟨g, 0, none⟩) m cap'] 35)).heap.size (w.alloc (.cells #[.slice (some ⟨b, 0, none⟩) n cap, .slice (some ⟨g, 0, none⟩) m cap'] 35)) (((w.alloc (.cells #[.slice (some ⟨b, 0, none⟩) n cap, .slice (some ⟨g, 0, none⟩) m cap'] 35)).alloc (.cells #[.int .i64 d0, .int .i64 d1, .int .i64 d2, .int .i64 d3, .int .i64 d4, .int .i64 d5, .int .i64 d6, .int .i64 d7] 37)).alloc (.cells #[.int .u8 0, .int .u8 0, .int .u8 0, .int .u8 0, .int .u8 0, .int .u8 0, .int .u8 0, .int .u8 0] 29)) := ((Below.refl _ _).alloc (Nat.le_refl _) _).alloc (by first | (simp; done) | (simp; omega)) _
  have hB : Below w.heap.size w (((w.alloc (.cells #[.slice (some ⟨b, 0, none⟩) n cap, .slice (some ⟨g, 0, none⟩) m cap'] 35)).alloc (.cells #[.int .i64 d0, .int .i64 d1, .int .i64 d2, .int .i64 d3, .int .i64 d4, .int .i64 d5, .int .i64 d6, .int .i64 d7] 37)).alloc (.cells #[.int .u8 0, .int .u8 0, .int .u8 0, .int .u8 0, .int .u8 0, .int .u8 0, .int .u8 0, .int .u8 0] 29)) := (((Below.refl _ _).alloc (Nat.le_refl _) _).alloc (by first | (simp; done) | (simp; omega)) _).alloc (by first | (simp; done) | (simp; omega)) _
  have M := (MoAt.new w b n cap g m cap' zs js hS hJ).keep bel1
  have rP := (Row.new (w.alloc (.cells #[.slice (some ⟨b, 0, none⟩) n cap, .slice (some ⟨g, 0, none⟩) m cap'] 35)) 37 [.int .i64 d0, .int .i64 d1, .int .i64 d2, .int .i64 d3, .int .i64 d4, .int .i64 d5, .int .i64 d6, .int .i64 d7]).alloc (.cells #[.int .u8 0, .int .u8 0, .int .u8 0, .int .u8 0, .int .u8 0, .int .u8 0, .int .u8 0, .int .u8 0] 29)
  have rR := Row.new ((w.alloc (.cells #[.slice (some ⟨b, 0, none⟩) n cap, .slice (some ⟨g, 0, none⟩) m cap'] 35)).alloc (.cells #[.int .i64 d0, .int .i64 d1, .int .i64 d2, .int .i64 d3, .int .i64 d4, .int .i64 d5, .int .i64 d6, .int .i64 d7] 37)) 29 [.int .u8 0, .int .u8 0, .int .u8 0, .int .u8 0, .int .u8 0, .int .u8 0, .int .u8 0, .int .u8 0]
  simp only [World.size_alloc] at rP rR
  have hi := Try.infoParts
  have hd := Try.infoDigits8
  have HP := hid (fun (W : World) (M : MoAt W w.heap.size b n cap g m cap' zs js) => hasParts_any b n cap g m cap' zs js d0 d1 d2 d3 d4 d5 d6 d7 W M.2.1 M.2.2 hn hm)
  clear hS hJ bel1 hm
  cases hv : hasR zs js [d0, d1, d2, d3, d4, d5, d6, d7] with
  | false =>
    rw [hv] at HP
    have HV := hid (eyR_no (y := y) hv)
    clear hv hn
    obtain ⟨p0, p1⟩ := M.cells
    have HRP := hid rP
    go_enter Try.func11, Try.ntmps11
    go_wp2_with ((with_reducible refine wpList_load_row rfl 37 _ rfl (w.heap.size + 1) ?_ 37 ([.int .i64 d0, .int .i64 d1, .int .i64 d2, .int .i64 d3, .int .i64 d4, .int .i64 d5, .int .i64 d6, .int .i64 d7] : List Value).toArray (0, 0) _ ?_ Try.underlying37 ?_ ?_ ?_); rfl; exact HRP.out; rfl; exact hi)
    clear HRP p0 p1
    with_reducible refine (HP.out _ M).mono ?_
    rintro e W1 ⟨rfl, hC⟩
    replace M := M.keep hC
    replace rP := rP.below hC rP.lt
    replace rR := rR.below hC rR.lt
    replace hB := hB.trans (hC.mono hB.size)
    clear hC
    have R1 := hid (rR.setCells (ys := [.int .u8 0, .int .u8 0, .int .u8 0, .int .u8 0, .int .u8 0, .int .u8 0, .int .u8 0, .int .u8 0]) rfl)
    have T1 := rR.there 8 rfl
    have SB := hid (below_setCells [.int .u8 0, .int .u8 0, .int .u8 0, .int .u8 0, .int .u8 0, .int .u8 0, .int .u8 0, .int .u8 0] 0 _ hB (g := w.heap.size + 1 + 1) (by omega))
    clear rP rR hB M
    go_wp2_with ((with_reducible refine wpList_store_mid rfl 29 _ _ rfl (w.heap.size + 1 + 1) 0 ([.int .u8 0, .int .u8 0, .int .u8 0, .int .u8 0, .int .u8 0, .int .u8 0, .int .u8 0, .int .u8 0] : List Value).toArray ?_ ?_ ?_ ?_ (all_oneCell_toArray (one_of8 zeros_int8)) ?_); rfl; rfl; exact T1; exact hd)
    exact bodyPost_ret (v := .tuple #[.agg ([.int .u8 0, .int .u8 0, .int .u8 0, .int .u8 0, .int .u8 0, .int .u8 0, .int .u8 0, .int .u8 0] : List Value).toArray, .int .i64 1]) (results_cell_tmp2 (p := 6) (q := 7) (fn := Try.f11) rfl _ _ _ _ _ (0, 0) _ _ rfl rfl R1.out Try.underlying29 rfl hd) rfl ⟨by rw [HV.out], SB.out⟩
  | true =>
    rw [hv] at HP
    by_cases h0 : y = 0
    · subst h0
      have HV := hid (eyR_zero hv)
      rw [← hn] at HV
      have HE := hid (fun (W : World) (M : MoAt W w.heap.size b n cap g m cap' zs js) => reads_zero b n cap g m cap' zs js d0 d1 d2 d3 d4 d5 d6 d7 W M.2.1 M.2.2 hn hv)
      clear hv hn
      obtain ⟨p0, p1⟩ := M.cells
      have HRP := hid rP
      go_enter Try.func11, Try.ntmps11
      go_wp2_with ((with_reducible refine wpList_load_row rfl 37 _ rfl (w.heap.size + 1) ?_ 37 ([.int .i64 d0, .int .i64 d1, .int .i64 d2, .int .i64 d3, .int .i64 d4, .int .i64 d5, .int .i64 d6, .int .i64 d7] : List Value).toArray (0, 0) _ ?_ Try.underlying37 ?_ ?_ ?_); rfl; exact HRP.out; rfl; exact hi)
      clear HRP p0 p1
      with_reducible refine (HP.out _ M).mono ?_
      rintro e W1 ⟨rfl, hC⟩
      replace M := M.keep hC
      replace rP := rP.below hC rP.lt
      replace rR := rR.below hC rR.lt
      replace hB := hB.trans (hC.mono hB.size)
      clear hC
      go_wp2_with fail
      with_reducible refine (look_zero _).mono ?_
      rintro e W2 ⟨rfl, hC⟩
      replace M := M.keep hC
      replace rP := rP.below hC rP.lt
      replace rR := rR.below hC rR.lt
      replace hB := hB.trans (hC.mono hB.size)
      clear hC
      have HRP := hid rP
      obtain ⟨p0, p1⟩ := M.cells
      go_wp2_with ((with_reducible refine wpList_load_row rfl 37 _ rfl (w.heap.size + 1) ?_ 37 ([.int .i64 d0, .int .i64 d1, .int .i64 d2, .int .i64 d3, .int .i64 d4, .int .i64 d5, .int .i64 d6, .int .i64 d7] : List Value).toArray (0, 0) _ ?_ Try.underlying37 ?_ ?_ ?_); rfl; exact HRP.out; rfl; exact hi)
      clear HRP p0 p1
      with_reducible refine (HE.out _ M).mono ?_
      rintro e W4 ⟨rfl, hC⟩
      replace rR := rR.below hC rR.lt
      replace hB := hB.trans (hC.mono hB.size)
      have T1 := rR.there (rdV 0 zs [d0, d1, d2, d3, d4, d5, d6, d7] n).toArray.size (by simp [rdV])
      have R1 := hid (rR.setCells (ys := rdV 0 zs [d0, d1, d2, d3, d4, d5, d6, d7] n) (by simp [rdV]))
      have SB := hid (below_setCells (rdV 0 zs [d0, d1, d2, d3, d4, d5, d6, d7] n) 0 _ hB (g := w.heap.size + 1 + 1) (by omega))
      have hd8 : (Try.prog.info? 29).map (·.size) = some (rdV 0 zs [d0, d1, d2, d3, d4, d5, d6, d7] n).toArray.size := by rw [hd]; simp [rdV]
      clear rP rR hB M hC
      go_wp2_with ((with_reducible refine wpList_store_mid rfl 29 _ _ rfl (w.heap.size + 1 + 1) 0 (rdV 0 zs [d0, d1, d2, d3, d4, d5, d6, d7] n : List Value).toArray ?_ ?_ ?_ ?_ (all_oneCell_toArray (one_of8 (ints_rd _ _ _ _))) ?_); rfl; rfl; exact T1; exact hd8)
      exact bodyPost_ret (v := .tuple #[.agg (rdV 0 zs [d0, d1, d2, d3, d4, d5, d6, d7] n : List Value).toArray, .int .i64 0]) (results_cell_tmp2 (p := 6) (q := 7) (fn := Try.f11) rfl _ _ _ _ _ (0, 0) _ _ rfl rfl R1.out Try.underlying29 rfl hd8) rfl ⟨by rw [HV.out], SB.out⟩
    · by_cases h1 : y = 1
      · subst h1
        have HV := hid (eyR_one hv)
        rw [← hn] at HV
        have HE := hid (fun (W : World) (M : MoAt W w.heap.size b n cap g m cap' zs js) => reads_one b n cap g m cap' zs js d0 d1 d2 d3 d4 d5 d6 d7 W M.2.1 M.2.2 hn hv)
        clear hv hn h0
        obtain ⟨p0, p1⟩ := M.cells
        have HRP := hid rP
        go_enter Try.func11, Try.ntmps11
        go_wp2_with ((with_reducible refine wpList_load_row rfl 37 _ rfl (w.heap.size + 1) ?_ 37 ([.int .i64 d0, .int .i64 d1, .int .i64 d2, .int .i64 d3, .int .i64 d4, .int .i64 d5, .int .i64 d6, .int .i64 d7] : List Value).toArray (0, 0) _ ?_ Try.underlying37 ?_ ?_ ?_); rfl; exact HRP.out; rfl; exact hi)
        clear HRP p0 p1
        with_reducible refine (HP.out _ M).mono ?_
        rintro e W1 ⟨rfl, hC⟩
        replace M := M.keep hC
        replace rP := rP.below hC rP.lt
        replace rR := rR.below hC rR.lt
        replace hB := hB.trans (hC.mono hB.size)
        clear hC
        go_wp2_with fail
        with_reducible refine (look_one _).mono ?_
        rintro e W2 ⟨rfl, hC⟩
        replace M := M.keep hC
        replace rP := rP.below hC rP.lt
        replace rR := rR.below hC rR.lt
        replace hB := hB.trans (hC.mono hB.size)
        clear hC
        have HRP := hid rP
        obtain ⟨p0, p1⟩ := M.cells
        go_wp2_with ((with_reducible refine wpList_load_row rfl 37 _ rfl (w.heap.size + 1) ?_ 37 ([.int .i64 d0, .int .i64 d1, .int .i64 d2, .int .i64 d3, .int .i64 d4, .int .i64 d5, .int .i64 d6, .int .i64 d7] : List Value).toArray (0, 0) _ ?_ Try.underlying37 ?_ ?_ ?_); rfl; exact HRP.out; rfl; exact hi)
        clear HRP p0 p1
        with_reducible refine (HE.out _ M).mono ?_
        rintro e W4 ⟨rfl, hC⟩
        replace rR := rR.below hC rR.lt
        replace hB := hB.trans (hC.mono hB.size)
        have T1 := rR.there (rdV 1 zs [d0, d1, d2, d3, d4, d5, d6, d7] n).toArray.size (by simp [rdV])
        have R1 := hid (rR.setCells (ys := rdV 1 zs [d0, d1, d2, d3, d4, d5, d6, d7] n) (by simp [rdV]))
        have SB := hid (below_setCells (rdV 1 zs [d0, d1, d2, d3, d4, d5, d6, d7] n) 0 _ hB (g := w.heap.size + 1 + 1) (by omega))
        have hd8 : (Try.prog.info? 29).map (·.size) = some (rdV 1 zs [d0, d1, d2, d3, d4, d5, d6, d7] n).toArray.size := by rw [hd]; simp [rdV]
        clear rP rR hB M hC
        go_wp2_with ((with_reducible refine wpList_store_mid rfl 29 _ _ rfl (w.heap.size + 1 + 1) 0 (rdV 1 zs [d0, d1, d2, d3, d4, d5, d6, d7] n : List Value).toArray ?_ ?_ ?_ ?_ (all_oneCell_toArray (one_of8 (ints_rd _ _ _ _))) ?_); rfl; rfl; exact T1; exact hd8)
        exact bodyPost_ret (v := .tuple #[.agg (rdV 1 zs [d0, d1, d2, d3, d4, d5, d6, d7] n : List Value).toArray, .int .i64 0]) (results_cell_tmp2 (p := 6) (q := 7) (fn := Try.f11) rfl _ _ _ _ _ (0, 0) _ _ rfl rfl R1.out Try.underlying29 rfl hd8) rfl ⟨by rw [HV.out], SB.out⟩
      · have HV := hid (eyR_out hv h0 h1)
        have HN := hid (show y < 0 ∨ 2 ≤ y by omega)
        clear hv hn h0 h1
        obtain ⟨p0, p1⟩ := M.cells
        have HRP := hid rP
        go_enter Try.func11, Try.ntmps11
        go_wp2_with ((with_reducible refine wpList_load_row rfl 37 _ rfl (w.heap.size + 1) ?_ 37 ([.int .i64 d0, .int .i64 d1, .int .i64 d2, .int .i64 d3, .int .i64 d4, .int .i64 d5, .int .i64 d6, .int .i64 d7] : List Value).toArray (0, 0) _ ?_ Try.underlying37 ?_ ?_ ?_); rfl; exact HRP.out; rfl; exact hi)
        clear HRP p0 p1
        with_reducible refine (HP.out _ M).mono ?_
        rintro e W1 ⟨rfl, hC⟩
        replace M := M.keep hC
        replace rP := rP.below hC rP.lt
        replace rR := rR.below hC rR.lt
        replace hB := hB.trans (hC.mono hB.size)
        clear hC
        go_wp2_with fail
        with_reducible refine (look_no y _ HN.out).mono ?_
        rintro e W2 ⟨rfl, hC⟩
        replace M := M.keep hC
        replace rP := rP.below hC rP.lt
        replace rR := rR.below hC rR.lt
        replace hB := hB.trans (hC.mono hB.size)
        clear hC
        have R1 := hid (rR.setCells (ys := [.int .u8 0, .int .u8 0, .int .u8 0, .int .u8 0, .int .u8 0, .int .u8 0, .int .u8 0, .int .u8 0]) rfl)
        have T1 := rR.there 8 rfl
        have SB := hid (below_setCells [.int .u8 0, .int .u8 0, .int .u8 0, .int .u8 0, .int .u8 0, .int .u8 0, .int .u8 0, .int .u8 0] 0 _ hB (g := w.heap.size + 1 + 1) (by omega))
        clear rP rR hB M
        go_wp2_with ((with_reducible refine wpList_store_mid rfl 29 _ _ rfl (w.heap.size + 1 + 1) 0 ([.int .u8 0, .int .u8 0, .int .u8 0, .int .u8 0, .int .u8 0, .int .u8 0, .int .u8 0, .int .u8 0] : List Value).toArray ?_ ?_ ?_ ?_ (all_oneCell_toArray (one_of8 zeros_int8)) ?_); rfl; rfl; exact T1; exact hd)
        exact bodyPost_ret (v := .tuple #[.agg ([.int .u8 0, .int .u8 0, .int .u8 0, .int .u8 0, .int .u8 0, .int .u8 0, .int .u8 0, .int .u8 0] : List Value).toArray, .int .i64 2]) (results_cell_tmp2 (p := 6) (q := 7) (fn := Try.f11) rfl _ _ _ _ _ (0, 0) _ _ rfl rfl R1.out Try.underlying29 rfl hd) rfl ⟨by rw [HV.out], SB.out⟩
set_option maxRecDepth 100000 in
set_option maxHeartbeats 1000000 in
theorem specEyeReads_any (b n cap g m cap' : Nat) (zs : List Int) (js : List (Int × Int)) (d0 d1 d2 d3 d4 d5 d6 d7 y : Int) (w : World) (hS : Stk w b zs) (hJ : Jst w g js) (hn : n = zs.length) (hm : m = js.length) (hb : ∀ j, j < js.length → (-128 ≤ jk js j ∧ jk js j ≤ 127) ∧ (-32768 ≤ jf js j ∧ jf js j ≤ 32767)) :
    Calls Try.prog 8 #[.agg #[.slice (some ⟨b, 0, none⟩) n cap, .slice (some ⟨g, 0, none⟩) m cap'], .agg #[.int .i64 d0, .int .i64 d1, .int .i64 d2, .int .i64 d3, .int .i64 d4, .int .i64 d5, .int .i64 d6, .int .i64 d7], .int .i64 y] w fun e w' => e = .returned (.tuple #[.agg (eyR zs js [d0, d1, d2, d3, d4, d5, d6, d7] y).1.toArray, .int .i64 (eyR zs js [d0, d1, d2, d3, d4, d5, d6, d7] y).2]) ∧ Below w.heap.size w w' := by
  have bel1 : Below (w.alloc (.cells #[.slice (some ⟨b, 0, none⟩) n cap, .slice (some ⟨g, 0, none⟩) m cap'] 35)).heap.size (w.alloc (.cells #[.slice (some ⟨b, 0, none⟩) n cap, .slice (some ⟨g, 0, none⟩) m cap'] 35)) (((w.alloc (.cells #[.slice (some ⟨b, 0, none⟩) n cap, .slice (some ⟨g, 0, none⟩) m cap'] 35)).alloc (.cells #[.int .i64 d0, .int .i64 d1, .int .i64 d2, .int .i64 d3, .int .i64 d4, .int .i64 d5, .int .i64 d6, .int .i64 d7] 37)).alloc (.cells #[.int .u8 0, .int .u8 0, .int .u8 0, .int .u8 0, .int .u8 0, .int .u8 0, .int .u8 0, .int .u8 0] 29)) := ((Below.refl _ _).alloc (Nat.le_refl _) _).alloc (by first | (simp; done) | (simp; omega)) _
  have hB : Below w.heap.size w (((w.alloc (.cells #[.slice (some ⟨b, 0, none⟩) n cap, .slice (some ⟨g, 0, none⟩) m cap'] 35)).alloc (.cells #[.int .i64 d0, .int .i64 d1, .int .i64 d2, .int .i64 d3, .int .i64 d4, .int .i64 d5, .int .i64 d6, .int .i64 d7] 37)).alloc (.cells #[.int .u8 0, .int .u8 0, .int .u8 0, .int .u8 0, .int .u8 0, .int .u8 0, .int .u8 0, .int .u8 0] 29)) := (((Below.refl _ _).alloc (Nat.le_refl _) _).alloc (by first | (simp; done) | (simp; omega)) _).alloc (by first | (simp; done) | (simp; omega)) _
  have M := (MoAt.new w b n cap g m cap' zs js hS hJ).keep bel1
  have rP := (Row.new (w.alloc (.cells #[.slice (some ⟨b, 0, none⟩) n cap, .slice (some ⟨g, 0, none⟩) m cap'] 35)) 37 [.int .i64 d0, .int .i64 d1, .int .i64 d2, .int .i64 d3, .int .i64 d4, .int .i64 d5, .int .i64 d6, .int .i64 d7]).alloc (.cells #[.int .u8 0, .int .u8 0, .int .u8 0, .int .u8 0, .int .u8 0, .int .u8 0, .int .u8 0, .int .u8 0] 29)
  have rR := Row.new ((w.alloc (.cells #[.slice (some ⟨b, 0, none⟩) n cap, .slice (some ⟨g, 0, none⟩) m cap'] 35)).alloc (.cells #[.int .i64 d0, .int .i64 d1, .int .i64 d2, .int .i64 d3, .int .i64 d4, .int .i64 d5, .int .i64 d6, .int .i64 d7] 37)) 29 [.int .u8 0, .int .u8 0, .int .u8 0, .int .u8 0, .int .u8 0, .int .u8 0, .int .u8 0, .int .u8 0]
  simp only [World.size_alloc] at rP rR
  have hi := Try.infoParts
  have hd := Try.infoDigits8
  have HK := hid (fun (W : World) (M : MoAt W w.heap.size b n cap g m cap' zs js) => l02Ok_any w.heap.size b n cap g m cap' zs js W M.1 M.2.1 M.2.2 hn hm hb)
  have HG := hid (fun (W : World) (M : MoAt W w.heap.size b n cap g m cap' zs js) => l02Given_any w.heap.size b n cap g m cap' zs js d0 d1 d2 d3 d4 d5 d6 d7 W M hn)
  clear hS hJ bel1 hm hb
  cases hv : okM zs js with
  | false =>
    rw [hv] at HK
    have HV := hid (eyR_no (ds := [d0, d1, d2, d3, d4, d5, d6, d7]) (y := y) (hasR_no hv))
    clear hv hn
    go_enter Try.func8, Try.ntmps8
    go_wp2_with fail
    with_reducible refine (HK.out _ M).mono ?_
    rintro e W1 ⟨rfl, hC⟩
    replace M := M.keep hC
    replace rP := rP.below hC rP.lt
    replace rR := rR.below hC rR.lt
    replace hB := hB.trans (hC.mono hB.size)
    clear hC
    have R1 := hid (rR.setCells (ys := [.int .u8 0, .int .u8 0, .int .u8 0, .int .u8 0, .int .u8 0, .int .u8 0, .int .u8 0, .int .u8 0]) rfl)
    have T1 := rR.there 8 rfl
    have SB := hid (below_setCells [.int .u8 0, .int .u8 0, .int .u8 0, .int .u8 0, .int .u8 0, .int .u8 0, .int .u8 0, .int .u8 0] 0 _ hB (g := w.heap.size + 1 + 1) (by omega))
    clear rP rR hB M
    go_wp2_with ((with_reducible refine wpList_store_mid rfl 29 _ _ rfl (w.heap.size + 1 + 1) 0 ([.int .u8 0, .int .u8 0, .int .u8 0, .int .u8 0, .int .u8 0, .int .u8 0, .int .u8 0, .int .u8 0] : List Value).toArray ?_ ?_ ?_ ?_ (all_oneCell_toArray (one_of8 zeros_int8)) ?_); rfl; rfl; exact T1; exact hd)
    exact bodyPost_ret (v := .tuple #[.agg ([.int .u8 0, .int .u8 0, .int .u8 0, .int .u8 0, .int .u8 0, .int .u8 0, .int .u8 0, .int .u8 0] : List Value).toArray, .int .i64 1]) (results_cell_tmp2 (p := 6) (q := 7) (fn := Try.f8) rfl _ _ _ _ _ (0, 0) _ _ rfl rfl R1.out Try.underlying29 rfl hd) rfl ⟨by rw [HV.out], SB.out⟩
  | true =>
    rw [hv] at HK
    cases hq : okPs zs [d0, d1, d2, d3, d4, d5, d6, d7] with
    | false =>
      rw [hq] at HG
      have HV := hid (eyR_no (ds := [d0, d1, d2, d3, d4, d5, d6, d7]) (y := y) (by rw [hasR_yes hv, hq]))
      clear hv hq hn
      go_enter Try.func8, Try.ntmps8
      go_wp2_with fail
      with_reducible refine (HK.out _ M).mono ?_
      rintro e W1 ⟨rfl, hC⟩
      replace M := M.keep hC
      replace rP := rP.below hC rP.lt
      replace rR := rR.below hC rR.lt
      replace hB := hB.trans (hC.mono hB.size)
      clear hC
      have HRP := hid rP
      go_wp2_with ((with_reducible refine wpList_load_rowG ?_ 37 _ rfl (w.heap.size + 1) ?_ 37 ([.int .i64 d0, .int .i64 d1, .int .i64 d2, .int .i64 d3, .int .i64 d4, .int .i64 d5, .int .i64 d6, .int .i64 d7] : List Value).toArray (0, 0) _ ?_ Try.underlying37 ?_ ?_ ?_); rfl; rfl; exact HRP.out; rfl; exact hi)
      clear HRP
      with_reducible refine (HG.out _ M).mono ?_
      rintro e W2 ⟨rfl, hC⟩
      replace M := M.keep hC
      replace rP := rP.below hC rP.lt
      replace rR := rR.below hC rR.lt
      replace hB := hB.trans (hC.mono hB.size)
      clear hC
      have R1 := hid (rR.setCells (ys := [.int .u8 0, .int .u8 0, .int .u8 0, .int .u8 0, .int .u8 0, .int .u8 0, .int .u8 0, .int .u8 0]) rfl)
      have T1 := rR.there 8 rfl
      have SB := hid (below_setCells [.int .u8 0, .int .u8 0, .int .u8 0, .int .u8 0, .int .u8 0, .int .u8 0, .int .u8 0, .int .u8 0] 0 _ hB (g := w.heap.size + 1 + 1) (by omega))
      clear rP rR hB M
      go_wp2_with ((with_reducible refine wpList_store_mid rfl 29 _ _ rfl (w.heap.size + 1 + 1) 0 ([.int .u8 0, .int .u8 0, .int .u8 0, .int .u8 0, .int .u8 0, .int .u8 0, .int .u8 0, .int .u8 0] : List Value).toArray ?_ ?_ ?_ ?_ (all_oneCell_toArray (one_of8 zeros_int8)) ?_); rfl; rfl; exact T1; exact hd)
      exact bodyPost_ret (v := .tuple #[.agg ([.int .u8 0, .int .u8 0, .int .u8 0, .int .u8 0, .int .u8 0, .int .u8 0, .int .u8 0, .int .u8 0] : List Value).toArray, .int .i64 1]) (results_cell_tmp2 (p := 6) (q := 7) (fn := Try.f8) rfl _ _ _ _ _ (0, 0) _ _ rfl rfl R1.out Try.underlying29 rfl hd) rfl ⟨by rw [HV.out], SB.out⟩
    | true =>
      rw [hq] at HG
      have hR : hasR zs js [d0, d1, d2, d3, d4, d5, d6, d7] = true := by rw [hasR_yes hv, hq]
      by_cases h0 : y = 0
      · subst h0
        have HV := hid (eyR_zero hR)
        rw [← hn] at HV
        have HE := hid (fun (W : World) (M : MoAt W w.heap.size b n cap g m cap' zs js) => l02Reads_zero w.heap.size b n cap g m cap' zs js d0 d1 d2 d3 d4 d5 d6 d7 W M hn hR)
        clear hv hq hn hR
        go_enter Try.func8, Try.ntmps8
        go_wp2_with fail
        with_reducible refine (HK.out _ M).mono ?_
        rintro e W1 ⟨rfl, hC⟩
        replace M := M.keep hC
        replace rP := rP.below hC rP.lt
        replace rR := rR.below hC rR.lt
        replace hB := hB.trans (hC.mono hB.size)
        clear hC
        have HRP := hid rP
        go_wp2_with ((with_reducible refine wpList_load_rowG ?_ 37 _ rfl (w.heap.size + 1) ?_ 37 ([.int .i64 d0, .int .i64 d1, .int .i64 d2, .int .i64 d3, .int .i64 d4, .int .i64 d5, .int .i64 d6, .int .i64 d7] : List Value).toArray (0, 0) _ ?_ Try.underlying37 ?_ ?_ ?_); rfl; rfl; exact HRP.out; rfl; exact hi)
        clear HRP
        with_reducible refine (HG.out _ M).mono ?_
        rintro e W2 ⟨rfl, hC⟩
        replace M := M.keep hC
        replace rP := rP.below hC rP.lt
        replace rR := rR.below hC rR.lt
        replace hB := hB.trans (hC.mono hB.size)
        clear hC
        go_wp2_with fail
        with_reducible refine (l02Eye_yes _ _ ⟨by omega, by omega⟩).mono ?_
        rintro e W3 ⟨rfl, rfl⟩
        have HRP := hid rP
        
        go_wp2_with ((with_reducible refine wpList_load_row rfl 37 _ rfl (w.heap.size + 1) ?_ 37 ([.int .i64 d0, .int .i64 d1, .int .i64 d2, .int .i64 d3, .int .i64 d4, .int .i64 d5, .int .i64 d6, .int .i64 d7] : List Value).toArray (0, 0) _ ?_ Try.underlying37 ?_ ?_ ?_); rfl; exact HRP.out; rfl; exact hi)
        clear HRP 
        with_reducible refine (HE.out _ M).mono ?_
        rintro e W4 ⟨rfl, hC⟩
        replace rR := rR.below hC rR.lt
        replace hB := hB.trans (hC.mono hB.size)
        have T1 := rR.there (rdV 0 zs [d0, d1, d2, d3, d4, d5, d6, d7] n).toArray.size (by simp [rdV])
        have R1 := hid (rR.setCells (ys := rdV 0 zs [d0, d1, d2, d3, d4, d5, d6, d7] n) (by simp [rdV]))
        have SB := hid (below_setCells (rdV 0 zs [d0, d1, d2, d3, d4, d5, d6, d7] n) 0 _ hB (g := w.heap.size + 1 + 1) (by omega))
        have hd8 : (Try.prog.info? 29).map (·.size) = some (rdV 0 zs [d0, d1, d2, d3, d4, d5, d6, d7] n).toArray.size := by rw [hd]; simp [rdV]
        clear rP rR hB M hC
        go_wp2_with ((with_reducible refine wpList_store_mid rfl 29 _ _ rfl (w.heap.size + 1 + 1) 0 (rdV 0 zs [d0, d1, d2, d3, d4, d5, d6, d7] n : List Value).toArray ?_ ?_ ?_ ?_ (all_oneCell_toArray (one_of8 (ints_rd _ _ _ _))) ?_); rfl; rfl; exact T1; exact hd8)
        exact bodyPost_ret (v := .tuple #[.agg (rdV 0 zs [d0, d1, d2, d3, d4, d5, d6, d7] n : List Value).toArray, .int .i64 0]) (results_cell_tmp2 (p := 6) (q := 7) (fn := Try.f8) rfl _ _ _ _ _ (0, 0) _ _ rfl rfl R1.out Try.underlying29 rfl hd8) rfl ⟨by rw [HV.out], SB.out⟩
      · by_cases h1 : y = 1
        · subst h1
          have HV := hid (eyR_one hR)
          rw [← hn] at HV
          have HE := hid (fun (W : World) (M : MoAt W w.heap.size b n cap g m cap' zs js) => l02Reads_one w.heap.size b n cap g m cap' zs js d0 d1 d2 d3 d4 d5 d6 d7 W M hn hR)
          clear hv hq hn h0 hR
          go_enter Try.func8, Try.ntmps8
          go_wp2_with fail
          with_reducible refine (HK.out _ M).mono ?_
          rintro e W1 ⟨rfl, hC⟩
          replace M := M.keep hC
          replace rP := rP.below hC rP.lt
          replace rR := rR.below hC rR.lt
          replace hB := hB.trans (hC.mono hB.size)
          clear hC
          have HRP := hid rP
          go_wp2_with ((with_reducible refine wpList_load_rowG ?_ 37 _ rfl (w.heap.size + 1) ?_ 37 ([.int .i64 d0, .int .i64 d1, .int .i64 d2, .int .i64 d3, .int .i64 d4, .int .i64 d5, .int .i64 d6, .int .i64 d7] : List Value).toArray (0, 0) _ ?_ Try.underlying37 ?_ ?_ ?_); rfl; rfl; exact HRP.out; rfl; exact hi)
          clear HRP
          with_reducible refine (HG.out _ M).mono ?_
          rintro e W2 ⟨rfl, hC⟩
          replace M := M.keep hC
          replace rP := rP.below hC rP.lt
          replace rR := rR.below hC rR.lt
          replace hB := hB.trans (hC.mono hB.size)
          clear hC
          go_wp2_with fail
          with_reducible refine (l02Eye_yes _ _ ⟨by omega, by omega⟩).mono ?_
          rintro e W3 ⟨rfl, rfl⟩
          have HRP := hid rP
          
          go_wp2_with ((with_reducible refine wpList_load_row rfl 37 _ rfl (w.heap.size + 1) ?_ 37 ([.int .i64 d0, .int .i64 d1, .int .i64 d2, .int .i64 d3, .int .i64 d4, .int .i64 d5, .int .i64 d6, .int .i64 d7] : List Value).toArray (0, 0) _ ?_ Try.underlying37 ?_ ?_ ?_); rfl; exact HRP.out; rfl; exact hi)
          clear HRP 
          with_reducible refine (HE.out _ M).mono ?_
          rintro e W4 ⟨rfl, hC⟩
          replace rR := rR.below hC rR.lt
          replace hB := hB.trans (hC.mono hB.size)
          have T1 := rR.there (rdV 1 zs [d0, d1, d2, d3, d4, d5, d6, d7] n).toArray.size (by simp [rdV])
          have R1 := hid (rR.setCells (ys := rdV 1 zs [d0, d1, d2, d3, d4, d5, d6, d7] n) (by simp [rdV]))
          have SB := hid (below_setCells (rdV 1 zs [d0, d1, d2, d3, d4, d5, d6, d7] n) 0 _ hB (g := w.heap.size + 1 + 1) (by omega))
          have hd8 : (Try.prog.info? 29).map (·.size) = some (rdV 1 zs [d0, d1, d2, d3, d4, d5, d6, d7] n).toArray.size := by rw [hd]; simp [rdV]
          clear rP rR hB M hC
          go_wp2_with ((with_reducible refine wpList_store_mid rfl 29 _ _ rfl (w.heap.size + 1 + 1) 0 (rdV 1 zs [d0, d1, d2, d3, d4, d5, d6, d7] n : List Value).toArray ?_ ?_ ?_ ?_ (all_oneCell_toArray (one_of8 (ints_rd _ _ _ _))) ?_); rfl; rfl; exact T1; exact hd8)
          exact bodyPost_ret (v := .tuple #[.agg (rdV 1 zs [d0, d1, d2, d3, d4, d5, d6, d7] n : List Value).toArray, .int .i64 0]) (results_cell_tmp2 (p := 6) (q := 7) (fn := Try.f8) rfl _ _ _ _ _ (0, 0) _ _ rfl rfl R1.out Try.underlying29 rfl hd8) rfl ⟨by rw [HV.out], SB.out⟩
        · have HV := hid (eyR_out hR h0 h1)
          have HN := hid (show y < 0 ∨ 1 < y by omega)
          clear hv hq hn h0 h1 hR
          go_enter Try.func8, Try.ntmps8
          go_wp2_with fail
          with_reducible refine (HK.out _ M).mono ?_
          rintro e W1 ⟨rfl, hC⟩
          replace M := M.keep hC
          replace rP := rP.below hC rP.lt
          replace rR := rR.below hC rR.lt
          replace hB := hB.trans (hC.mono hB.size)
          clear hC
          have HRP := hid rP
          go_wp2_with ((with_reducible refine wpList_load_rowG ?_ 37 _ rfl (w.heap.size + 1) ?_ 37 ([.int .i64 d0, .int .i64 d1, .int .i64 d2, .int .i64 d3, .int .i64 d4, .int .i64 d5, .int .i64 d6, .int .i64 d7] : List Value).toArray (0, 0) _ ?_ Try.underlying37 ?_ ?_ ?_); rfl; rfl; exact HRP.out; rfl; exact hi)
          clear HRP
          with_reducible refine (HG.out _ M).mono ?_
          rintro e W2 ⟨rfl, hC⟩
          replace M := M.keep hC
          replace rP := rP.below hC rP.lt
          replace rR := rR.below hC rR.lt
          replace hB := hB.trans (hC.mono hB.size)
          clear hC
          go_wp2_with fail
          with_reducible refine (l02Eye_no _ _ HN.out).mono ?_
          rintro e W3 ⟨rfl, rfl⟩
          have R1 := hid (rR.setCells (ys := [.int .u8 0, .int .u8 0, .int .u8 0, .int .u8 0, .int .u8 0, .int .u8 0, .int .u8 0, .int .u8 0]) rfl)
          have T1 := rR.there 8 rfl
          have SB := hid (below_setCells [.int .u8 0, .int .u8 0, .int .u8 0, .int .u8 0, .int .u8 0, .int .u8 0, .int .u8 0, .int .u8 0] 0 _ hB (g := w.heap.size + 1 + 1) (by omega))
          clear rP rR hB M
          go_wp2_with ((with_reducible refine wpList_store_mid rfl 29 _ _ rfl (w.heap.size + 1 + 1) 0 ([.int .u8 0, .int .u8 0, .int .u8 0, .int .u8 0, .int .u8 0, .int .u8 0, .int .u8 0, .int .u8 0] : List Value).toArray ?_ ?_ ?_ ?_ (all_oneCell_toArray (one_of8 zeros_int8)) ?_); rfl; rfl; exact T1; exact hd)
          exact bodyPost_ret (v := .tuple #[.agg ([.int .u8 0, .int .u8 0, .int .u8 0, .int .u8 0, .int .u8 0, .int .u8 0, .int .u8 0, .int .u8 0] : List Value).toArray, .int .i64 2]) (results_cell_tmp2 (p := 6) (q := 7) (fn := Try.f8) rfl _ _ _ _ _ (0, 0) _ _ rfl rfl R1.out Try.underlying29 rfl hd) rfl ⟨by rw [HV.out], SB.out⟩
end Go.Proofs.Ytkgldcjbaghapaa
