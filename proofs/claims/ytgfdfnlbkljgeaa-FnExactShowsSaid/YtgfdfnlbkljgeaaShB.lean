/- Shows: the program's and the model's. -/
import Derived.Test.YtgfdfnlbkljgeaaShA
namespace Go.Proofs.Ytgfdfnlbkljgeaa
open Go.RowKit
def showsR (zs : List Int) (ps : List (Int × Int)) (ds : List Int) : Bool × Int := if okPh zs ps && okV zs ds then (showsB zs.length ps ds, 0) else (false, 1)
theorem showsR_no1 {zs : List Int} {ps : List (Int × Int)} {ds : List Int} (h : okPh zs ps = false) : showsR zs ps ds = (false, 1) := by simp [showsR, h]
theorem showsR_no2 {zs : List Int} {ps : List (Int × Int)} {ds : List Int} (h : okV zs ds = false) : showsR zs ps ds = (false, 1) := by simp [showsR, h]
theorem showsR_yes {zs : List Int} {ps : List (Int × Int)} {ds : List Int} (h : okPh zs ps = true) (k : okV zs ds = true) : showsR zs ps ds = (showsB zs.length ps ds, 0) := by simp [showsR, h, k]
set_option maxRecDepth 100000 in
set_option maxHeartbeats 2000000 in
theorem implShows_any (b n cap : Nat) (zs : List Int) (ps : List (Int × Int)) (d0 d1 d2 d3 d4 d5 d6 d7 : Int) (w : World) (h : Stk w b zs) (hn : n = zs.length) (hps : Ph ps) (ho : Oct d0 d1 d2 d3 d4 d5 d6 d7) :
    Calls Try.prog 31 #[.slice (some ⟨b, 0, none⟩) n cap, .agg (phL ps).toArray, .agg #[.int .u8 d0, .int .u8 d1, .int .u8 d2, .int .u8 d3, .int .u8 d4, .int .u8 d5, .int .u8 d6, .int .u8 d7]] w fun e w' => e = .returned (.tuple #[.bool (showsR zs ps [d0, d1, d2, d3, d4, d5, d6, d7]).1, .int .i64 (showsR zs ps [d0, d1, d2, d3, d4, d5, d6, d7]).2]) ∧ Below w.heap.size w w' := by
  have r4 := (Row.new w 31 (phL ps)).alloc (.cells #[.int .u8 d0, .int .u8 d1, .int .u8 d2, .int .u8 d3, .int .u8 d4, .int .u8 d5, .int .u8 d6, .int .u8 d7] 38)
  have r5 := Row.new (w.alloc (.cells (phL ps).toArray 31)) 38 [.int .u8 d0, .int .u8 d1, .int .u8 d2, .int .u8 d3, .int .u8 d4, .int .u8 d5, .int .u8 d6, .int .u8 d7]
  have hB : Below w.heap.size w ((w.alloc (.cells (phL ps).toArray 31)).alloc (.cells #[.int .u8 d0, .int .u8 d1, .int .u8 d2, .int .u8 d3, .int .u8 d4, .int .u8 d5, .int .u8 d6, .int .u8 d7] 38)) := ((Below.refl _ _).alloc (Nat.le_refl _) _).alloc (by simp) _
  simp only [World.size_alloc] at r5
  have hS := h.below hB h.1
  have hi := Try.infoPhoto
  have HVp := hid (fun (W : World) (hS : Stk W b zs) => implValidPhoto_any b n cap zs ps W hS hn hps)
  have HVd := hid (fun (W : World) (hS : Stk W b zs) => validDigits_any b n cap zs d0 d1 d2 d3 d4 d5 d6 d7 W hS hn ho)
  have HPS := hid hps
  have HO := hid ho
  clear h
  cases hp : okPh zs ps with
  | false =>
    rw [hp] at HVp
    rw [showsR_no1 hp]
    clear hp hn hps ho
    go_enter Try.func31, Try.ntmps31
    have HR4 := hid r4
    go_wp2_with ((with_reducible refine wpList_load_row rfl 31 _ rfl w.heap.size ?_ 31 (phL ps).toArray (0, 0) _ ?_ Try.underlying31 ?_ ?_ ?_); rfl; exact HR4.out; rfl; (rw [sz16]; exact hi))
    clear HR4
    with_reducible refine (HVp.out _ hS).mono ?_
    rintro e W1 ⟨rfl, hC⟩
    replace r4 := r4.below hC r4.lt
    replace r5 := r5.below hC r5.lt
    replace hS := hS.below hC hS.1
    replace hB := hB.trans (hC.mono hB.size)
    clear hC
    clear r4 r5 hS
    go_wp2_with fail
    go_ret2
    exact ⟨rfl, hB⟩
  | true =>
    rw [hp] at HVp
    cases hq : okV zs [d0, d1, d2, d3, d4, d5, d6, d7] with
    | false =>
      rw [hq] at HVd
      rw [showsR_no2 hq]
      clear hp hq hn hps ho
      go_enter Try.func31, Try.ntmps31
      have HR4 := hid r4
      go_wp2_with ((with_reducible refine wpList_load_row rfl 31 _ rfl w.heap.size ?_ 31 (phL ps).toArray (0, 0) _ ?_ Try.underlying31 ?_ ?_ ?_); rfl; exact HR4.out; rfl; (rw [sz16]; exact hi))
      clear HR4
      with_reducible refine (HVp.out _ hS).mono ?_
      rintro e W1 ⟨rfl, hC⟩
      replace r4 := r4.below hC r4.lt
      replace r5 := r5.below hC r5.lt
      replace hS := hS.below hC hS.1
      replace hB := hB.trans (hC.mono hB.size)
      clear hC
      have e0 := r5.cell 0
      have e1 := r5.cell 1
      have e2 := r5.cell 2
      have e3 := r5.cell 3
      have e4 := r5.cell 4
      have e5 := r5.cell 5
      have e6 := r5.cell 6
      have e7 := r5.cell 7
      simp only [List.getElem?_cons_zero, List.getElem?_cons_succ] at e0 e1 e2 e3 e4 e5 e6 e7
      go_wp2_with fail
      with_reducible refine (HVd.out _ hS).mono ?_
      rintro e W2 ⟨rfl, hC⟩
      replace r4 := r4.below hC r4.lt
      replace r5 := r5.below hC r5.lt
      replace hS := hS.below hC hS.1
      replace hB := hB.trans (hC.mono hB.size)
      clear hC
      clear e0 e1 e2 e3 e4 e5 e6 e7
      clear r4 r5 hS
      go_wp2_with fail
      go_ret2
      exact ⟨rfl, hB⟩
    | true =>
      rw [hq] at HVd
      rw [showsR_yes hp hq, ← hn]
      obtain ⟨hv1, hv2⟩ := okV_out hq
      have hl8 := (okL_in hv1).1
      rw [← hn] at hl8
      have HD := hid (show ∀ k, k < n → 0 ≤ [d0, d1, d2, d3, d4, d5, d6, d7][k]?.getD 0 ∧ [d0, d1, d2, d3, d4, d5, d6, d7][k]?.getD 0 ≤ 127 from fun k hk => by
        have x1 := oct_at ho k
        have x2 := (okD_out hv2 k (by omega)).1 (by rw [← hn]; exact hk)
        have x3 := (okL_in hv1).2 k (by rw [← hn]; exact hk)
        omega)
      clear hp hq hn hv1 hv2 hps ho
      go_enter Try.func31, Try.ntmps31
      have HR4 := hid r4
      go_wp2_with ((with_reducible refine wpList_load_row rfl 31 _ rfl w.heap.size ?_ 31 (phL ps).toArray (0, 0) _ ?_ Try.underlying31 ?_ ?_ ?_); rfl; exact HR4.out; rfl; (rw [sz16]; exact hi))
      clear HR4
      with_reducible refine (HVp.out _ hS).mono ?_
      rintro e W1 ⟨rfl, hC⟩
      replace r4 := r4.below hC r4.lt
      replace r5 := r5.below hC r5.lt
      replace hS := hS.below hC hS.1
      replace hB := hB.trans (hC.mono hB.size)
      clear hC
      have e0 := r5.cell 0
      have e1 := r5.cell 1
      have e2 := r5.cell 2
      have e3 := r5.cell 3
      have e4 := r5.cell 4
      have e5 := r5.cell 5
      have e6 := r5.cell 6
      have e7 := r5.cell 7
      simp only [List.getElem?_cons_zero, List.getElem?_cons_succ] at e0 e1 e2 e3 e4 e5 e6 e7
      go_wp2_with fail
      with_reducible refine (HVd.out _ hS).mono ?_
      rintro e W2 ⟨rfl, hC⟩
      replace r4 := r4.below hC r4.lt
      replace r5 := r5.below hC r5.lt
      replace hS := hS.below hC hS.1
      replace hB := hB.trans (hC.mono hB.size)
      clear hC
      clear e0 e1 e2 e3 e4 e5 e6 e7
      have e0 := r5.cell 0
      have e1 := r5.cell 1
      have e2 := r5.cell 2
      have e3 := r5.cell 3
      have e4 := r5.cell 4
      have e5 := r5.cell 5
      have e6 := r5.cell 6
      have e7 := r5.cell 7
      simp only [List.getElem?_cons_zero, List.getElem?_cons_succ] at e0 e1 e2 e3 e4 e5 e6 e7
      have HR4 := hid r4
      go_wp2_with ((with_reducible refine wpList_load_row rfl 31 _ rfl w.heap.size ?_ 31 (phL ps).toArray (0, 0) _ ?_ Try.underlying31 ?_ ?_ ?_); rfl; exact HR4.out; rfl; (rw [sz16]; exact hi))
      clear HR4
      with_reducible refine (shows_any _ n cap ps d0 d1 d2 d3 d4 d5 d6 d7 W2 HPS.out hl8 HD.out).mono ?_
      rintro e W3 ⟨rfl, hC⟩
      replace hB := hB.trans (hC.mono hB.size)
      clear hC r4 r5 hS
      clear e0 e1 e2 e3 e4 e5 e6 e7
      go_wp2_with fail
      go_ret2
      exact ⟨rfl, hB⟩
set_option maxRecDepth 100000 in
set_option maxHeartbeats 2000000 in
theorem specShows_any (b n cap : Nat) (zs : List Int) (ps : List (Int × Int)) (d0 d1 d2 d3 d4 d5 d6 d7 : Int) (w : World) (h : Stk w b zs) (hn : n = zs.length) (hps : Ph ps) (ho : Oct d0 d1 d2 d3 d4 d5 d6 d7) :
    Calls Try.prog 30 #[.slice (some ⟨b, 0, none⟩) n cap, .agg (phL ps).toArray, .agg #[.int .u8 d0, .int .u8 d1, .int .u8 d2, .int .u8 d3, .int .u8 d4, .int .u8 d5, .int .u8 d6, .int .u8 d7]] w fun e w' => e = .returned (.tuple #[.bool (showsR zs ps [d0, d1, d2, d3, d4, d5, d6, d7]).1, .int .i64 (showsR zs ps [d0, d1, d2, d3, d4, d5, d6, d7]).2]) ∧ Below w.heap.size w w' := by
  have r4 := (Row.new w 31 (phL ps)).alloc (.cells #[.int .u8 d0, .int .u8 d1, .int .u8 d2, .int .u8 d3, .int .u8 d4, .int .u8 d5, .int .u8 d6, .int .u8 d7] 38)
  have r5 := Row.new (w.alloc (.cells (phL ps).toArray 31)) 38 [.int .u8 d0, .int .u8 d1, .int .u8 d2, .int .u8 d3, .int .u8 d4, .int .u8 d5, .int .u8 d6, .int .u8 d7]
  have hB : Below w.heap.size w ((w.alloc (.cells (phL ps).toArray 31)).alloc (.cells #[.int .u8 d0, .int .u8 d1, .int .u8 d2, .int .u8 d3, .int .u8 d4, .int .u8 d5, .int .u8 d6, .int .u8 d7] 38)) := ((Below.refl _ _).alloc (Nat.le_refl _) _).alloc (by simp) _
  simp only [World.size_alloc] at r5
  have hS := h.below hB h.1
  have hi := Try.infoPhoto
  have HVp := hid (fun (W : World) (hS : Stk W b zs) => specValidPhoto_any b n cap zs ps W hS hn)
  have HVd := hid (fun (W : World) (hS : Stk W b zs) => specValidDigits_any b n cap zs d0 d1 d2 d3 d4 d5 d6 d7 W hS hn ho)
  have HPS := hid hps
  have HO := hid ho
  clear h
  cases hp : okPh zs ps with
  | false =>
    rw [hp] at HVp
    rw [showsR_no1 hp]
    clear hp hn hps ho
    go_enter Try.func30, Try.ntmps30
    have HR4 := hid r4
    go_wp2_with ((with_reducible refine wpList_load_row rfl 31 _ rfl w.heap.size ?_ 31 (phL ps).toArray (0, 0) _ ?_ Try.underlying31 ?_ ?_ ?_); rfl; exact HR4.out; rfl; (rw [sz16]; exact hi))
    clear HR4
    with_reducible refine (HVp.out _ hS).mono ?_
    rintro e W1 ⟨rfl, hC⟩
    replace r4 := r4.below hC r4.lt
    replace r5 := r5.below hC r5.lt
    replace hS := hS.below hC hS.1
    replace hB := hB.trans (hC.mono hB.size)
    clear hC
    clear r4 r5 hS
    go_wp2_with fail
    go_ret2
    exact ⟨rfl, hB⟩
  | true =>
    rw [hp] at HVp
    cases hq : okV zs [d0, d1, d2, d3, d4, d5, d6, d7] with
    | false =>
      rw [hq] at HVd
      rw [showsR_no2 hq]
      clear hp hq hn hps ho
      go_enter Try.func30, Try.ntmps30
      have HR4 := hid r4
      go_wp2_with ((with_reducible refine wpList_load_row rfl 31 _ rfl w.heap.size ?_ 31 (phL ps).toArray (0, 0) _ ?_ Try.underlying31 ?_ ?_ ?_); rfl; exact HR4.out; rfl; (rw [sz16]; exact hi))
      clear HR4
      with_reducible refine (HVp.out _ hS).mono ?_
      rintro e W1 ⟨rfl, hC⟩
      replace r4 := r4.below hC r4.lt
      replace r5 := r5.below hC r5.lt
      replace hS := hS.below hC hS.1
      replace hB := hB.trans (hC.mono hB.size)
      clear hC
      have e0 := r5.cell 0
      have e1 := r5.cell 1
      have e2 := r5.cell 2
      have e3 := r5.cell 3
      have e4 := r5.cell 4
      have e5 := r5.cell 5
      have e6 := r5.cell 6
      have e7 := r5.cell 7
      simp only [List.getElem?_cons_zero, List.getElem?_cons_succ] at e0 e1 e2 e3 e4 e5 e6 e7
      go_wp2_with fail
      with_reducible refine (HVd.out _ hS).mono ?_
      rintro e W2 ⟨rfl, hC⟩
      replace r4 := r4.below hC r4.lt
      replace r5 := r5.below hC r5.lt
      replace hS := hS.below hC hS.1
      replace hB := hB.trans (hC.mono hB.size)
      clear hC
      clear e0 e1 e2 e3 e4 e5 e6 e7
      clear r4 r5 hS
      go_wp2_with fail
      go_ret2
      exact ⟨rfl, hB⟩
    | true =>
      rw [hq] at HVd
      rw [showsR_yes hp hq, ← hn]
      obtain ⟨hv1, hv2⟩ := okV_out hq
      have hl8 := (okL_in hv1).1
      rw [← hn] at hl8
      have HD := hid (show ∀ k, k < n → 0 ≤ [d0, d1, d2, d3, d4, d5, d6, d7][k]?.getD 0 ∧ [d0, d1, d2, d3, d4, d5, d6, d7][k]?.getD 0 ≤ 127 from fun k hk => by
        have x1 := oct_at ho k
        have x2 := (okD_out hv2 k (by omega)).1 (by rw [← hn]; exact hk)
        have x3 := (okL_in hv1).2 k (by rw [← hn]; exact hk)
        omega)
      clear hp hq hn hv1 hv2 hps ho
      go_enter Try.func30, Try.ntmps30
      have HR4 := hid r4
      go_wp2_with ((with_reducible refine wpList_load_row rfl 31 _ rfl w.heap.size ?_ 31 (phL ps).toArray (0, 0) _ ?_ Try.underlying31 ?_ ?_ ?_); rfl; exact HR4.out; rfl; (rw [sz16]; exact hi))
      clear HR4
      with_reducible refine (HVp.out _ hS).mono ?_
      rintro e W1 ⟨rfl, hC⟩
      replace r4 := r4.below hC r4.lt
      replace r5 := r5.below hC r5.lt
      replace hS := hS.below hC hS.1
      replace hB := hB.trans (hC.mono hB.size)
      clear hC
      have e0 := r5.cell 0
      have e1 := r5.cell 1
      have e2 := r5.cell 2
      have e3 := r5.cell 3
      have e4 := r5.cell 4
      have e5 := r5.cell 5
      have e6 := r5.cell 6
      have e7 := r5.cell 7
      simp only [List.getElem?_cons_zero, List.getElem?_cons_succ] at e0 e1 e2 e3 e4 e5 e6 e7
      go_wp2_with fail
      with_reducible refine (HVd.out _ hS).mono ?_
      rintro e W2 ⟨rfl, hC⟩
      replace r4 := r4.below hC r4.lt
      replace r5 := r5.below hC r5.lt
      replace hS := hS.below hC hS.1
      replace hB := hB.trans (hC.mono hB.size)
      clear hC
      clear e0 e1 e2 e3 e4 e5 e6 e7
      have e0 := r5.cell 0
      have e1 := r5.cell 1
      have e2 := r5.cell 2
      have e3 := r5.cell 3
      have e4 := r5.cell 4
      have e5 := r5.cell 5
      have e6 := r5.cell 6
      have e7 := r5.cell 7
      simp only [List.getElem?_cons_zero, List.getElem?_cons_succ] at e0 e1 e2 e3 e4 e5 e6 e7
      have hr4 := hid r4
      go_wp2_with fail
      with_reducible refine (l05Shows_any _ n cap w.heap.size ps d0 d1 d2 d3 d4 d5 d6 d7 W2 hr4.out HPS.out hl8 HD.out).mono ?_
      rintro e W3 ⟨rfl, hC⟩
      replace hB := hB.trans (hC.mono hB.size)
      clear hC r4 r5 hS
      clear e0 e1 e2 e3 e4 e5 e6 e7
      go_wp2_with fail
      go_ret2
      exact ⟨rfl, hB⟩
end Go.Proofs.Ytgfdfnlbkljgeaa
