/- JoinPhotos and MeetPhotos: the program's, and the model's meeting. -/
import Derived.Test.YtgfdfnlbkljgeaaJoinS
namespace Go.Proofs.Ytgfdfnlbkljgeaa
open Go.RowKit
theorem meetT_no {zs : List Int} {ps qs : List (Int × Int)} (h : okPh zs (andP ps qs) = false) : meetT zs ps qs = ([], 8) := by simp [meetT, h]
theorem meetT_yes {zs : List Int} {ps qs : List (Int × Int)} (h : okPh zs (andP ps qs) = true) : meetT zs ps qs = (andP ps qs, 0) := by simp [meetT, h]
theorem and_ph (ps qs : List (Int × Int)) : Ph (andP ps qs) := fun j => by
  by_cases h : j < 8
  · rw [(meet_at ps qs j h).1, (meet_at ps qs j h).2]
    exact ⟨bits_bd _ _ _, bits_bd _ _ _⟩
  · have : (andP ps qs)[j]? = none := List.getElem?_eq_none (by simp [andP]; omega)
    simp [pa, pb, this]
set_option maxRecDepth 100000 in
set_option maxHeartbeats 2000000 in
theorem implJoinPhotos_any (b n cap : Nat) (zs : List Int) (ps qs : List (Int × Int)) (w : World) (h : Stk w b zs) (hn : n = zs.length) (hps : Ph ps) (hqs : Ph qs) :
    Calls Try.prog 37 #[.slice (some ⟨b, 0, none⟩) n cap, .agg (phL ps).toArray, .agg (phL qs).toArray] w fun e w' => e = .returned (.tuple #[.agg (phL (joinR zs ps qs).1).toArray, .int .i64 (joinR zs ps qs).2]) ∧ Below w.heap.size w w' := by
  have r4 := ((Row.new w 31 (phL ps)).alloc (.cells (phL qs).toArray 31)).alloc (.cells #[.int .u64 0, .int .u64 0, .int .u64 0, .int .u64 0, .int .u64 0, .int .u64 0, .int .u64 0, .int .u64 0, .int .u64 0, .int .u64 0, .int .u64 0, .int .u64 0, .int .u64 0, .int .u64 0, .int .u64 0, .int .u64 0] 31)
  have r5 := (Row.new (w.alloc (.cells (phL ps).toArray 31)) 31 (phL qs)).alloc (.cells #[.int .u64 0, .int .u64 0, .int .u64 0, .int .u64 0, .int .u64 0, .int .u64 0, .int .u64 0, .int .u64 0, .int .u64 0, .int .u64 0, .int .u64 0, .int .u64 0, .int .u64 0, .int .u64 0, .int .u64 0, .int .u64 0] 31)
  have r6 := (Row.new ((w.alloc (.cells (phL ps).toArray 31)).alloc (.cells (phL qs).toArray 31)) 31 [.int .u64 0, .int .u64 0, .int .u64 0, .int .u64 0, .int .u64 0, .int .u64 0, .int .u64 0, .int .u64 0, .int .u64 0, .int .u64 0, .int .u64 0, .int .u64 0, .int .u64 0, .int .u64 0, .int .u64 0, .int .u64 0]).zeros
  have hB : Below w.heap.size w (((w.alloc (.cells (phL ps).toArray 31)).alloc (.cells (phL qs).toArray 31)).alloc (.cells #[.int .u64 0, .int .u64 0, .int .u64 0, .int .u64 0, .int .u64 0, .int .u64 0, .int .u64 0, .int .u64 0, .int .u64 0, .int .u64 0, .int .u64 0, .int .u64 0, .int .u64 0, .int .u64 0, .int .u64 0, .int .u64 0] 31)) := (((Below.refl _ _).alloc (Nat.le_refl _) _).alloc (by simp) _).alloc (by simp; omega) _
  simp only [World.size_alloc] at r5 r6
  have hS := h.below hB h.1
  have hlB := h.1
  have hi := Try.infoPhoto
  have HN := hid hn
  have HVp := hid (fun (W : World) (hS : Stk W b zs) => implValidPhoto_any b n cap zs ps W hS hn hps)
  have HVq := hid (fun (W : World) (hS : Stk W b zs) => implValidPhoto_any b n cap zs qs W hS hn hqs)
  clear h
  cases hp : okPh zs ps with
  | false =>
    rw [hp] at HVp
    rw [joinR_no1 hp]
    clear hp hn
    go_enter Try.func37, Try.ntmps37
    have HR4 := hid r4
    go_wp2_with ((with_reducible refine wpList_load_row rfl 31 _ rfl w.heap.size ?_ 31 (phL ps).toArray (0, 0) _ ?_ Try.underlying31 ?_ ?_ ?_); rfl; exact HR4.out; rfl; (rw [sz16]; exact hi))
    clear HR4
    with_reducible refine (HVp.out _ hS).mono ?_
    rintro e W1 ⟨rfl, hC⟩
    replace r4 := r4.below hC r4.lt
    replace r5 := r5.below hC r5.lt
    replace r6 := r6.below hC r6.lt
    replace hS := hS.below hC hS.1
    replace hB := hB.trans (hC.mono hB.size)
    clear hC
    have R1 := hid (r6.setCells (ys := phL []) rfl)
    have T1 := r6.there 16 rfl
    have SB := hid (below_setCells (phL []) 0 _ hB (g := w.heap.size + 1 + 1) (by omega))
    clear r4 r5 r6 hS hB
    go_wp2_with ((with_reducible refine wpList_store_mid rfl 31 _ _ rfl (w.heap.size + 1 + 1) 0 (phL []).toArray ?_ ?_ ?_ ?_ (all_oneCell_toArray (phL_one _)) ?_); rfl; rfl; (rw [sz16]; exact T1); (rw [sz16]; exact hi))
    exact bodyPost_ret (v := .tuple #[.agg (phL []).toArray, .int .i64 1]) (results_cell_slot (p := 6) (q := 7) (fn := Try.f37) rfl _ _ _ _ _ (0, 0) _ _ rfl rfl R1.out Try.underlying31 rfl (by rw [sz16]; exact hi)) rfl ⟨rfl, SB.out⟩
  | true =>
    rw [hp] at HVp
    cases hq : okPh zs qs with
    | false =>
      rw [hq] at HVq
      rw [joinR_no2 hq]
      clear hp hq hn
      go_enter Try.func37, Try.ntmps37
      have HR4 := hid r4
      go_wp2_with ((with_reducible refine wpList_load_row rfl 31 _ rfl w.heap.size ?_ 31 (phL ps).toArray (0, 0) _ ?_ Try.underlying31 ?_ ?_ ?_); rfl; exact HR4.out; rfl; (rw [sz16]; exact hi))
      clear HR4
      with_reducible refine (HVp.out _ hS).mono ?_
      rintro e W1 ⟨rfl, hC⟩
      replace r4 := r4.below hC r4.lt
      replace r5 := r5.below hC r5.lt
      replace r6 := r6.below hC r6.lt
      replace hS := hS.below hC hS.1
      replace hB := hB.trans (hC.mono hB.size)
      clear hC
      have HR5 := hid r5
      go_wp2_with ((with_reducible refine wpList_load_rowG ?_ 31 _ rfl (w.heap.size + 1) ?_ 31 (phL qs).toArray (0, 0) _ ?_ Try.underlying31 ?_ ?_ ?_); rfl; rfl; exact HR5.out; rfl; (rw [sz16]; exact hi))
      clear HR5
      with_reducible refine (HVq.out _ hS).mono ?_
      rintro e W2 ⟨rfl, hC⟩
      replace r4 := r4.below hC r4.lt
      replace r5 := r5.below hC r5.lt
      replace r6 := r6.below hC r6.lt
      replace hS := hS.below hC hS.1
      replace hB := hB.trans (hC.mono hB.size)
      clear hC
      have R1 := hid (r6.setCells (ys := phL []) rfl)
      have T1 := r6.there 16 rfl
      have SB := hid (below_setCells (phL []) 0 _ hB (g := w.heap.size + 1 + 1) (by omega))
      clear r4 r5 r6 hS hB
      go_wp2_with ((with_reducible refine wpList_store_mid rfl 31 _ _ rfl (w.heap.size + 1 + 1) 0 (phL []).toArray ?_ ?_ ?_ ?_ (all_oneCell_toArray (phL_one _)) ?_); rfl; rfl; (rw [sz16]; exact T1); (rw [sz16]; exact hi))
      exact bodyPost_ret (v := .tuple #[.agg (phL []).toArray, .int .i64 1]) (results_cell_slot (p := 6) (q := 7) (fn := Try.f37) rfl _ _ _ _ _ (0, 0) _ _ rfl rfl R1.out Try.underlying31 rfl (by rw [sz16]; exact hi)) rfl ⟨rfl, SB.out⟩
    | true =>
      rw [hq] at HVq
      rw [joinR_yes hp hq]
      have hv := okPh_ok hp
      have hZp := hid (okPh_high hp)
      have hZq := hid (okPh_high hq)
      have hl8 := (okL_in hv).1
      rw [← hn] at hl8
      have HV := hid hv
      clear hp hq hn hv
      go_enter Try.func37, Try.ntmps37
      have HR4 := hid r4
      go_wp2_with ((with_reducible refine wpList_load_row rfl 31 _ rfl w.heap.size ?_ 31 (phL ps).toArray (0, 0) _ ?_ Try.underlying31 ?_ ?_ ?_); rfl; exact HR4.out; rfl; (rw [sz16]; exact hi))
      clear HR4
      with_reducible refine (HVp.out _ hS).mono ?_
      rintro e W1 ⟨rfl, hC⟩
      replace r4 := r4.below hC r4.lt
      replace r5 := r5.below hC r5.lt
      replace r6 := r6.below hC r6.lt
      replace hS := hS.below hC hS.1
      replace hB := hB.trans (hC.mono hB.size)
      clear hC
      have HR5 := hid r5
      go_wp2_with ((with_reducible refine wpList_load_rowG ?_ 31 _ rfl (w.heap.size + 1) ?_ 31 (phL qs).toArray (0, 0) _ ?_ Try.underlying31 ?_ ?_ ?_); rfl; rfl; exact HR5.out; rfl; (rw [sz16]; exact hi))
      clear HR5
      with_reducible refine (HVq.out _ hS).mono ?_
      rintro e W2 ⟨rfl, hC⟩
      replace r4 := r4.below hC r4.lt
      replace r5 := r5.below hC r5.lt
      replace r6 := r6.below hC r6.lt
      replace hS := hS.below hC hS.1
      replace hB := hB.trans (hC.mono hB.size)
      clear hC
      have HR4 := hid r4
      have HR5 := hid r5
      go_wp2_with (first | ((with_reducible refine wpList_load_row rfl 31 _ rfl w.heap.size ?_ 31 (phL ps).toArray (0, 0) _ ?_ Try.underlying31 ?_ ?_ ?_); rfl; exact HR4.out; rfl; (rw [sz16]; exact hi)) | ((with_reducible refine wpList_load_row rfl 31 _ rfl (w.heap.size + 1) ?_ 31 (phL qs).toArray (0, 0) _ ?_ Try.underlying31 ?_ ?_ ?_); rfl; exact HR5.out; rfl; (rw [sz16]; exact hi)))
      clear HR4 HR5
      with_reducible refine (join_any ps qs W2).mono ?_
      rintro e W3 ⟨rfl, hC⟩
      replace r6 := r6.below hC r6.lt
      replace hS := hS.below hC hS.1
      replace hB := hB.trans (hC.mono hB.size)
      clear hC r4 r5
      have R1 := hid (r6.setCells (ys := (phL (orP ps qs))) rfl)
      have T1 := r6.there 16 rfl
      have SB := hid (below_setCells (phL (orP ps qs)) 0 _ hB (g := w.heap.size + 1 + 1) (by omega))
      clear r6 hS hB
      go_wp2_with ((with_reducible refine wpList_store_mid rfl 31 _ _ rfl (w.heap.size + 1 + 1) 0 (phL (orP ps qs)).toArray ?_ ?_ ?_ ?_ (all_oneCell_toArray (phL_one _)) ?_); rfl; rfl; (rw [sz16]; exact T1); (rw [sz16]; exact hi))
      exact bodyPost_ret (v := .tuple #[.agg (phL (orP ps qs)).toArray, .int .i64 0]) (results_cell_slot (p := 6) (q := 7) (fn := Try.f37) rfl _ _ _ _ _ (0, 0) _ _ rfl rfl R1.out Try.underlying31 rfl (by rw [sz16]; exact hi)) rfl ⟨rfl, SB.out⟩
set_option maxRecDepth 100000 in
set_option maxHeartbeats 2000000 in
theorem implMeetPhotos_any (b n cap : Nat) (zs : List Int) (ps qs : List (Int × Int)) (w : World) (h : Stk w b zs) (hn : n = zs.length) (hps : Ph ps) (hqs : Ph qs) :
    Calls Try.prog 35 #[.slice (some ⟨b, 0, none⟩) n cap, .agg (phL ps).toArray, .agg (phL qs).toArray] w fun e w' => e = .returned (.tuple #[.agg (phL (meetR zs ps qs).1).toArray, .int .i64 (meetR zs ps qs).2]) ∧ Below w.heap.size w w' := by
  have r4 := ((Row.new w 31 (phL ps)).alloc (.cells (phL qs).toArray 31)).alloc (.cells #[.int .u64 0, .int .u64 0, .int .u64 0, .int .u64 0, .int .u64 0, .int .u64 0, .int .u64 0, .int .u64 0, .int .u64 0, .int .u64 0, .int .u64 0, .int .u64 0, .int .u64 0, .int .u64 0, .int .u64 0, .int .u64 0] 31)
  have r5 := (Row.new (w.alloc (.cells (phL ps).toArray 31)) 31 (phL qs)).alloc (.cells #[.int .u64 0, .int .u64 0, .int .u64 0, .int .u64 0, .int .u64 0, .int .u64 0, .int .u64 0, .int .u64 0, .int .u64 0, .int .u64 0, .int .u64 0, .int .u64 0, .int .u64 0, .int .u64 0, .int .u64 0, .int .u64 0] 31)
  have r6 := (Row.new ((w.alloc (.cells (phL ps).toArray 31)).alloc (.cells (phL qs).toArray 31)) 31 [.int .u64 0, .int .u64 0, .int .u64 0, .int .u64 0, .int .u64 0, .int .u64 0, .int .u64 0, .int .u64 0, .int .u64 0, .int .u64 0, .int .u64 0, .int .u64 0, .int .u64 0, .int .u64 0, .int .u64 0, .int .u64 0]).zeros
  have hB : Below w.heap.size w (((w.alloc (.cells (phL ps).toArray 31)).alloc (.cells (phL qs).toArray 31)).alloc (.cells #[.int .u64 0, .int .u64 0, .int .u64 0, .int .u64 0, .int .u64 0, .int .u64 0, .int .u64 0, .int .u64 0, .int .u64 0, .int .u64 0, .int .u64 0, .int .u64 0, .int .u64 0, .int .u64 0, .int .u64 0, .int .u64 0] 31)) := (((Below.refl _ _).alloc (Nat.le_refl _) _).alloc (by simp) _).alloc (by simp; omega) _
  simp only [World.size_alloc] at r5 r6
  have hS := h.below hB h.1
  have hlB := h.1
  have hi := Try.infoPhoto
  have HN := hid hn
  have HVp := hid (fun (W : World) (hS : Stk W b zs) => implValidPhoto_any b n cap zs ps W hS hn hps)
  have HVq := hid (fun (W : World) (hS : Stk W b zs) => implValidPhoto_any b n cap zs qs W hS hn hqs)
  clear h
  cases hp : okPh zs ps with
  | false =>
    rw [hp] at HVp
    rw [meetR_no1 hp]
    clear hp hn
    go_enter Try.func35, Try.ntmps35
    have HR4 := hid r4
    go_wp2_with ((with_reducible refine wpList_load_row rfl 31 _ rfl w.heap.size ?_ 31 (phL ps).toArray (0, 0) _ ?_ Try.underlying31 ?_ ?_ ?_); rfl; exact HR4.out; rfl; (rw [sz16]; exact hi))
    clear HR4
    with_reducible refine (HVp.out _ hS).mono ?_
    rintro e W1 ⟨rfl, hC⟩
    replace r4 := r4.below hC r4.lt
    replace r5 := r5.below hC r5.lt
    replace r6 := r6.below hC r6.lt
    replace hS := hS.below hC hS.1
    replace hB := hB.trans (hC.mono hB.size)
    clear hC
    have R1 := hid (r6.setCells (ys := phL []) rfl)
    have T1 := r6.there 16 rfl
    have SB := hid (below_setCells (phL []) 0 _ hB (g := w.heap.size + 1 + 1) (by omega))
    clear r4 r5 r6 hS hB
    go_wp2_with ((with_reducible refine wpList_store_mid rfl 31 _ _ rfl (w.heap.size + 1 + 1) 0 (phL []).toArray ?_ ?_ ?_ ?_ (all_oneCell_toArray (phL_one _)) ?_); rfl; rfl; (rw [sz16]; exact T1); (rw [sz16]; exact hi))
    exact bodyPost_ret (v := .tuple #[.agg (phL []).toArray, .int .i64 1]) (results_cell_slot (p := 6) (q := 7) (fn := Try.f35) rfl _ _ _ _ _ (0, 0) _ _ rfl rfl R1.out Try.underlying31 rfl (by rw [sz16]; exact hi)) rfl ⟨rfl, SB.out⟩
  | true =>
    rw [hp] at HVp
    cases hq : okPh zs qs with
    | false =>
      rw [hq] at HVq
      rw [meetR_no2 hq]
      clear hp hq hn
      go_enter Try.func35, Try.ntmps35
      have HR4 := hid r4
      go_wp2_with ((with_reducible refine wpList_load_row rfl 31 _ rfl w.heap.size ?_ 31 (phL ps).toArray (0, 0) _ ?_ Try.underlying31 ?_ ?_ ?_); rfl; exact HR4.out; rfl; (rw [sz16]; exact hi))
      clear HR4
      with_reducible refine (HVp.out _ hS).mono ?_
      rintro e W1 ⟨rfl, hC⟩
      replace r4 := r4.below hC r4.lt
      replace r5 := r5.below hC r5.lt
      replace r6 := r6.below hC r6.lt
      replace hS := hS.below hC hS.1
      replace hB := hB.trans (hC.mono hB.size)
      clear hC
      have HR5 := hid r5
      go_wp2_with ((with_reducible refine wpList_load_rowG ?_ 31 _ rfl (w.heap.size + 1) ?_ 31 (phL qs).toArray (0, 0) _ ?_ Try.underlying31 ?_ ?_ ?_); rfl; rfl; exact HR5.out; rfl; (rw [sz16]; exact hi))
      clear HR5
      with_reducible refine (HVq.out _ hS).mono ?_
      rintro e W2 ⟨rfl, hC⟩
      replace r4 := r4.below hC r4.lt
      replace r5 := r5.below hC r5.lt
      replace r6 := r6.below hC r6.lt
      replace hS := hS.below hC hS.1
      replace hB := hB.trans (hC.mono hB.size)
      clear hC
      have R1 := hid (r6.setCells (ys := phL []) rfl)
      have T1 := r6.there 16 rfl
      have SB := hid (below_setCells (phL []) 0 _ hB (g := w.heap.size + 1 + 1) (by omega))
      clear r4 r5 r6 hS hB
      go_wp2_with ((with_reducible refine wpList_store_mid rfl 31 _ _ rfl (w.heap.size + 1 + 1) 0 (phL []).toArray ?_ ?_ ?_ ?_ (all_oneCell_toArray (phL_one _)) ?_); rfl; rfl; (rw [sz16]; exact T1); (rw [sz16]; exact hi))
      exact bodyPost_ret (v := .tuple #[.agg (phL []).toArray, .int .i64 1]) (results_cell_slot (p := 6) (q := 7) (fn := Try.f35) rfl _ _ _ _ _ (0, 0) _ _ rfl rfl R1.out Try.underlying31 rfl (by rw [sz16]; exact hi)) rfl ⟨rfl, SB.out⟩
    | true =>
      rw [hq] at HVq
      rw [meetR_yes hp hq]
      have hv := okPh_ok hp
      have hZp := hid (okPh_high hp)
      have hZq := hid (okPh_high hq)
      have hl8 := (okL_in hv).1
      rw [← hn] at hl8
      have HV := hid hv
      clear hp hq hn hv
      go_enter Try.func35, Try.ntmps35
      have HR4 := hid r4
      go_wp2_with ((with_reducible refine wpList_load_row rfl 31 _ rfl w.heap.size ?_ 31 (phL ps).toArray (0, 0) _ ?_ Try.underlying31 ?_ ?_ ?_); rfl; exact HR4.out; rfl; (rw [sz16]; exact hi))
      clear HR4
      with_reducible refine (HVp.out _ hS).mono ?_
      rintro e W1 ⟨rfl, hC⟩
      replace r4 := r4.below hC r4.lt
      replace r5 := r5.below hC r5.lt
      replace r6 := r6.below hC r6.lt
      replace hS := hS.below hC hS.1
      replace hB := hB.trans (hC.mono hB.size)
      clear hC
      have HR5 := hid r5
      go_wp2_with ((with_reducible refine wpList_load_rowG ?_ 31 _ rfl (w.heap.size + 1) ?_ 31 (phL qs).toArray (0, 0) _ ?_ Try.underlying31 ?_ ?_ ?_); rfl; rfl; exact HR5.out; rfl; (rw [sz16]; exact hi))
      clear HR5
      with_reducible refine (HVq.out _ hS).mono ?_
      rintro e W2 ⟨rfl, hC⟩
      replace r4 := r4.below hC r4.lt
      replace r5 := r5.below hC r5.lt
      replace r6 := r6.below hC r6.lt
      replace hS := hS.below hC hS.1
      replace hB := hB.trans (hC.mono hB.size)
      clear hC
      have HR4 := hid r4
      have HR5 := hid r5
      go_wp2_with (first | ((with_reducible refine wpList_load_row rfl 31 _ rfl w.heap.size ?_ 31 (phL ps).toArray (0, 0) _ ?_ Try.underlying31 ?_ ?_ ?_); rfl; exact HR4.out; rfl; (rw [sz16]; exact hi)) | ((with_reducible refine wpList_load_row rfl 31 _ rfl (w.heap.size + 1) ?_ 31 (phL qs).toArray (0, 0) _ ?_ Try.underlying31 ?_ ?_ ?_); rfl; exact HR5.out; rfl; (rw [sz16]; exact hi)))
      clear HR4 HR5
      with_reducible refine (meet_any ps qs W2).mono ?_
      rintro e W3 ⟨rfl, hC⟩
      replace r6 := r6.below hC r6.lt
      replace hS := hS.below hC hS.1
      replace hB := hB.trans (hC.mono hB.size)
      clear hC r4 r5
      have rz := (Row.new W3 31 [.int .u64 0, .int .u64 0, .int .u64 0, .int .u64 0, .int .u64 0, .int .u64 0, .int .u64 0, .int .u64 0, .int .u64 0, .int .u64 0, .int .u64 0, .int .u64 0, .int .u64 0, .int .u64 0, .int .u64 0, .int .u64 0]).zeros
      have hA : Below W3.heap.size W3 (W3.alloc (.cells #[.int .u64 0, .int .u64 0, .int .u64 0, .int .u64 0, .int .u64 0, .int .u64 0, .int .u64 0, .int .u64 0, .int .u64 0, .int .u64 0, .int .u64 0, .int .u64 0, .int .u64 0, .int .u64 0, .int .u64 0, .int .u64 0] 31)) := (Below.refl _ _).alloc (Nat.le_refl _) _
      have hA2 := below_setCells (phL (andP ps qs)) 0 _ hA (g := W3.heap.size) (Nat.le_refl _)
      have T1 := rz.there 16 rfl
      replace rz := rz.setCells (ys := (phL (andP ps qs))) rfl
      replace r6 := r6.below hA2 r6.lt
      replace hS := hS.below hA2 hS.1
      replace hB := hB.trans (hA2.mono hB.size)
      have HVm := hid (fun (W : World) (hS : Stk W b zs) => implValidPhoto_any b n cap zs (andP ps qs) W hS HN.out (and_ph ps qs))
      have HR6 := hid r6
      have HRZ := hid rz
      have HS' := hid hS
      have HB' := hid hB
      clear hA hA2 r6 hS hB
      go_wp2_with (first | ((with_reducible refine wpList_store_mid rfl 31 _ _ rfl W3.heap.size 0 (phL (andP ps qs)).toArray ?_ ?_ ?_ ?_ (all_oneCell_toArray (phL_one _)) ?_); rfl; rfl; (rw [sz16]; exact T1); (rw [sz16]; exact hi)) | ((with_reducible refine wpList_load_row rfl 31 _ rfl W3.heap.size ?_ 31 (phL (andP ps qs)).toArray (0, 0) _ ?_ Try.underlying31 ?_ ?_ ?_); rfl; exact HRZ.out; rfl; (rw [sz16]; exact hi)))
      clear T1 rz
      have r6 := HR6.out; have hS := HS'.out; have hB := HB'.out; have r8 := HRZ.out
      clear HR6 HS' HB' HRZ
      cases hm : okPh zs (andP ps qs) with
      | false =>
        rw [hm] at HVm
        have HMT := hid (meetT_no hm)
        clear hm
        with_reducible refine (HVm.out _ hS).mono ?_
        rintro e W4 ⟨rfl, hC⟩
        replace r6 := r6.below hC r6.lt
        replace hB := hB.trans (hC.mono hB.size)
        have R1 := hid (r6.setCells (ys := phL []) rfl)
        have T1 := r6.there 16 rfl
        have SB := hid (below_setCells (phL []) 0 _ hB (g := w.heap.size + 1 + 1) (by omega))
        clear r6 r8 hS hB hC
        go_wp2_with ((with_reducible refine wpList_store_mid rfl 31 _ _ rfl (w.heap.size + 1 + 1) 0 (phL []).toArray ?_ ?_ ?_ ?_ (all_oneCell_toArray (phL_one _)) ?_); rfl; rfl; (rw [sz16]; exact T1); (rw [sz16]; exact hi))
        exact bodyPost_ret (v := .tuple #[.agg (phL ([])).toArray, .int .i64 8]) (results_cell_slot (p := 6) (q := 7) (fn := Try.f35) rfl _ _ _ _ _ (0, 0) _ _ rfl rfl R1.out Try.underlying31 rfl (by rw [sz16]; exact hi)) rfl ⟨by rw [HMT.out], SB.out⟩
      | true =>
        rw [hm] at HVm
        have HMT := hid (meetT_yes hm)
        clear hm
        with_reducible refine (HVm.out _ hS).mono ?_
        rintro e W4 ⟨rfl, hC⟩
        replace r6 := r6.below hC r6.lt
        replace r8 := r8.below hC r8.lt
        replace hB := hB.trans (hC.mono hB.size)
        have R1 := hid (r6.setCells (ys := (phL (andP ps qs))) rfl)
        have T1 := r6.there 16 rfl
        have SB := hid (below_setCells (phL (andP ps qs)) 0 _ hB (g := w.heap.size + 1 + 1) (by omega))
        have HR8 := hid r8
        clear r6 r8 hS hB hC
        go_wp2_with (first | ((with_reducible refine wpList_store_mid rfl 31 _ _ rfl (w.heap.size + 1 + 1) 0 (phL (andP ps qs)).toArray ?_ ?_ ?_ ?_ (all_oneCell_toArray (phL_one _)) ?_); rfl; rfl; (rw [sz16]; exact T1); (rw [sz16]; exact hi)) | ((with_reducible refine wpList_load_row rfl 31 _ rfl W3.heap.size ?_ 31 (phL (andP ps qs)).toArray (0, 0) _ ?_ Try.underlying31 ?_ ?_ ?_); rfl; exact HR8.out; rfl; (rw [sz16]; exact hi)))
        exact bodyPost_ret (v := .tuple #[.agg (phL (andP ps qs)).toArray, .int .i64 0]) (results_cell_slot (p := 6) (q := 7) (fn := Try.f35) rfl _ _ _ _ _ (0, 0) _ _ rfl rfl R1.out Try.underlying31 rfl (by rw [sz16]; exact hi)) rfl ⟨by rw [HMT.out], SB.out⟩
set_option maxRecDepth 100000 in
set_option maxHeartbeats 2000000 in
theorem specMeetPhotos_any (b n cap : Nat) (zs : List Int) (ps qs : List (Int × Int)) (w : World) (h : Stk w b zs) (hn : n = zs.length) :
    Calls Try.prog 34 #[.slice (some ⟨b, 0, none⟩) n cap, .agg (phL ps).toArray, .agg (phL qs).toArray] w fun e w' => e = .returned (.tuple #[.agg (phL (meetR zs ps qs).1).toArray, .int .i64 (meetR zs ps qs).2]) ∧ Below w.heap.size w w' := by
  have r4 := ((Row.new w 31 (phL ps)).alloc (.cells (phL qs).toArray 31)).alloc (.cells #[.int .u64 0, .int .u64 0, .int .u64 0, .int .u64 0, .int .u64 0, .int .u64 0, .int .u64 0, .int .u64 0, .int .u64 0, .int .u64 0, .int .u64 0, .int .u64 0, .int .u64 0, .int .u64 0, .int .u64 0, .int .u64 0] 31)
  have r5 := (Row.new (w.alloc (.cells (phL ps).toArray 31)) 31 (phL qs)).alloc (.cells #[.int .u64 0, .int .u64 0, .int .u64 0, .int .u64 0, .int .u64 0, .int .u64 0, .int .u64 0, .int .u64 0, .int .u64 0, .int .u64 0, .int .u64 0, .int .u64 0, .int .u64 0, .int .u64 0, .int .u64 0, .int .u64 0] 31)
  have r6 := (Row.new ((w.alloc (.cells (phL ps).toArray 31)).alloc (.cells (phL qs).toArray 31)) 31 [.int .u64 0, .int .u64 0, .int .u64 0, .int .u64 0, .int .u64 0, .int .u64 0, .int .u64 0, .int .u64 0, .int .u64 0, .int .u64 0, .int .u64 0, .int .u64 0, .int .u64 0, .int .u64 0, .int .u64 0, .int .u64 0]).zeros
  have hB : Below w.heap.size w (((w.alloc (.cells (phL ps).toArray 31)).alloc (.cells (phL qs).toArray 31)).alloc (.cells #[.int .u64 0, .int .u64 0, .int .u64 0, .int .u64 0, .int .u64 0, .int .u64 0, .int .u64 0, .int .u64 0, .int .u64 0, .int .u64 0, .int .u64 0, .int .u64 0, .int .u64 0, .int .u64 0, .int .u64 0, .int .u64 0] 31)) := (((Below.refl _ _).alloc (Nat.le_refl _) _).alloc (by simp) _).alloc (by simp; omega) _
  simp only [World.size_alloc] at r5 r6
  have hS := h.below hB h.1
  have hlB := h.1
  have hi := Try.infoPhoto
  have HN := hid hn
  have HVp := hid (fun (W : World) (hS : Stk W b zs) => specValidPhoto_any b n cap zs ps W hS hn)
  have HVq := hid (fun (W : World) (hS : Stk W b zs) => specValidPhoto_any b n cap zs qs W hS hn)
  clear h
  cases hp : okPh zs ps with
  | false =>
    rw [hp] at HVp
    rw [meetR_no1 hp]
    clear hp hn
    go_enter Try.func34, Try.ntmps34
    have HR4 := hid r4
    go_wp2_with ((with_reducible refine wpList_load_row rfl 31 _ rfl w.heap.size ?_ 31 (phL ps).toArray (0, 0) _ ?_ Try.underlying31 ?_ ?_ ?_); rfl; exact HR4.out; rfl; (rw [sz16]; exact hi))
    clear HR4
    with_reducible refine (HVp.out _ hS).mono ?_
    rintro e W1 ⟨rfl, hC⟩
    replace r4 := r4.below hC r4.lt
    replace r5 := r5.below hC r5.lt
    replace r6 := r6.below hC r6.lt
    replace hS := hS.below hC hS.1
    replace hB := hB.trans (hC.mono hB.size)
    clear hC
    have R1 := hid (r6.setCells (ys := phL []) rfl)
    have T1 := r6.there 16 rfl
    have SB := hid (below_setCells (phL []) 0 _ hB (g := w.heap.size + 1 + 1) (by omega))
    clear r4 r5 r6 hS hB
    go_wp2_with ((with_reducible refine wpList_store_mid rfl 31 _ _ rfl (w.heap.size + 1 + 1) 0 (phL []).toArray ?_ ?_ ?_ ?_ (all_oneCell_toArray (phL_one _)) ?_); rfl; rfl; (rw [sz16]; exact T1); (rw [sz16]; exact hi))
    exact bodyPost_ret (v := .tuple #[.agg (phL []).toArray, .int .i64 1]) (results_cell_slot (p := 6) (q := 7) (fn := Try.f34) rfl _ _ _ _ _ (0, 0) _ _ rfl rfl R1.out Try.underlying31 rfl (by rw [sz16]; exact hi)) rfl ⟨rfl, SB.out⟩
  | true =>
    rw [hp] at HVp
    cases hq : okPh zs qs with
    | false =>
      rw [hq] at HVq
      rw [meetR_no2 hq]
      clear hp hq hn
      go_enter Try.func34, Try.ntmps34
      have HR4 := hid r4
      go_wp2_with ((with_reducible refine wpList_load_row rfl 31 _ rfl w.heap.size ?_ 31 (phL ps).toArray (0, 0) _ ?_ Try.underlying31 ?_ ?_ ?_); rfl; exact HR4.out; rfl; (rw [sz16]; exact hi))
      clear HR4
      with_reducible refine (HVp.out _ hS).mono ?_
      rintro e W1 ⟨rfl, hC⟩
      replace r4 := r4.below hC r4.lt
      replace r5 := r5.below hC r5.lt
      replace r6 := r6.below hC r6.lt
      replace hS := hS.below hC hS.1
      replace hB := hB.trans (hC.mono hB.size)
      clear hC
      have HR5 := hid r5
      go_wp2_with ((with_reducible refine wpList_load_rowG ?_ 31 _ rfl (w.heap.size + 1) ?_ 31 (phL qs).toArray (0, 0) _ ?_ Try.underlying31 ?_ ?_ ?_); rfl; rfl; exact HR5.out; rfl; (rw [sz16]; exact hi))
      clear HR5
      with_reducible refine (HVq.out _ hS).mono ?_
      rintro e W2 ⟨rfl, hC⟩
      replace r4 := r4.below hC r4.lt
      replace r5 := r5.below hC r5.lt
      replace r6 := r6.below hC r6.lt
      replace hS := hS.below hC hS.1
      replace hB := hB.trans (hC.mono hB.size)
      clear hC
      have R1 := hid (r6.setCells (ys := phL []) rfl)
      have T1 := r6.there 16 rfl
      have SB := hid (below_setCells (phL []) 0 _ hB (g := w.heap.size + 1 + 1) (by omega))
      clear r4 r5 r6 hS hB
      go_wp2_with ((with_reducible refine wpList_store_mid rfl 31 _ _ rfl (w.heap.size + 1 + 1) 0 (phL []).toArray ?_ ?_ ?_ ?_ (all_oneCell_toArray (phL_one _)) ?_); rfl; rfl; (rw [sz16]; exact T1); (rw [sz16]; exact hi))
      exact bodyPost_ret (v := .tuple #[.agg (phL []).toArray, .int .i64 1]) (results_cell_slot (p := 6) (q := 7) (fn := Try.f34) rfl _ _ _ _ _ (0, 0) _ _ rfl rfl R1.out Try.underlying31 rfl (by rw [sz16]; exact hi)) rfl ⟨rfl, SB.out⟩
    | true =>
      rw [hq] at HVq
      rw [meetR_yes hp hq]
      have hv := okPh_ok hp
      have hZp := hid (okPh_high hp)
      have hZq := hid (okPh_high hq)
      have hl8 := (okL_in hv).1
      rw [← hn] at hl8
      have HV := hid hv
      clear hp hq hn hv
      go_enter Try.func34, Try.ntmps34
      have HR4 := hid r4
      go_wp2_with ((with_reducible refine wpList_load_row rfl 31 _ rfl w.heap.size ?_ 31 (phL ps).toArray (0, 0) _ ?_ Try.underlying31 ?_ ?_ ?_); rfl; exact HR4.out; rfl; (rw [sz16]; exact hi))
      clear HR4
      with_reducible refine (HVp.out _ hS).mono ?_
      rintro e W1 ⟨rfl, hC⟩
      replace r4 := r4.below hC r4.lt
      replace r5 := r5.below hC r5.lt
      replace r6 := r6.below hC r6.lt
      replace hS := hS.below hC hS.1
      replace hB := hB.trans (hC.mono hB.size)
      clear hC
      have HR5 := hid r5
      go_wp2_with ((with_reducible refine wpList_load_rowG ?_ 31 _ rfl (w.heap.size + 1) ?_ 31 (phL qs).toArray (0, 0) _ ?_ Try.underlying31 ?_ ?_ ?_); rfl; rfl; exact HR5.out; rfl; (rw [sz16]; exact hi))
      clear HR5
      with_reducible refine (HVq.out _ hS).mono ?_
      rintro e W2 ⟨rfl, hC⟩
      replace r4 := r4.below hC r4.lt
      replace r5 := r5.below hC r5.lt
      replace r6 := r6.below hC r6.lt
      replace hS := hS.below hC hS.1
      replace hB := hB.trans (hC.mono hB.size)
      clear hC
      go_wp2_with fail
      go_loopw [8] (fun i wr => ∃ k : Nat, k ≤ n ∧ i = .int .i64 k ∧ Row wr w.heap.size 31 (mix (andP ps qs) ps k) ∧ Row wr (w.heap.size + 1) 31 (phL qs) ∧ Row wr (w.heap.size + 1 + 1) 31 (phL []) ∧ Stk wr b zs ∧ Below w.heap.size w wr) (fun i _ => n - (intOf i).toNat)
      case atStart => exact ⟨0, Nat.zero_le _, rfl, by rw [mix_zero]; exact r4, r5, r6, hS, hB⟩
      case round =>
        clear r4 r5 r6 hS hB
        obtain ⟨k, hk, rfl, r4, r5, r6, hS, hB⟩ := hrel
        by_cases hlt : k < n
        · obtain ⟨x, hx⟩ : ∃ x, x = pa ps k := ⟨_, rfl⟩
          obtain ⟨y, hy⟩ : ∃ y, y = pb ps k := ⟨_, rfl⟩
          obtain ⟨u, hu⟩ : ∃ u, u = pa qs k := ⟨_, rfl⟩
          obtain ⟨v, hv⟩ : ∃ v, v = pb qs k := ⟨_, rfl⟩
          obtain ⟨q1, q2⟩ := mix_at (andP ps qs) ps k k (by omega) (Nat.le_refl _)
          obtain ⟨q3, q4⟩ := phL_at qs k (by omega)
          have hP := meet_at ps qs k (by omega)
          rw [← hx, ← hy, ← hu, ← hv] at hP
          rw [← hx] at q1
          rw [← hy] at q2
          rw [← hu] at q3
          rw [← hv] at q4
          have c1 := (r4.cell (k * 2)).trans q1
          have c2 := (r4.cell (k * 2 + 1)).trans q2
          have y1 := (r5.cell (k * 2)).trans q3
          have y2 := (r5.cell (k * 2 + 1)).trans q4
          have f1 := r4.frozen (k * 2)
          have f2 := r4.frozen (k * 2 + 1)
          have S4 := (r4.set (k * 2) (.int .u64 (pa (andP ps qs) k))).set (k * 2 + 1) (.int .u64 (pb (andP ps qs) k))
          rw [mix_set (andP ps qs) ps k (by omega), hP.1, hP.2] at S4
          have S5 := (r5.other (a := ⟨w.heap.size, k * 2, none⟩) (by simp) (.int .u64 (bits .and .u64 x u))).other (a := ⟨w.heap.size, k * 2 + 1, none⟩) (by simp) (.int .u64 (bits .and .u64 y v))
          have S6 := (r6.other (a := ⟨w.heap.size, k * 2, none⟩) (by simp; omega) (.int .u64 (bits .and .u64 x u))).other (a := ⟨w.heap.size, k * 2 + 1, none⟩) (by simp; omega) (.int .u64 (bits .and .u64 y v))
          have hlb := hlB
          have hBx : Below w.heap.size wr ((wr.setCell ⟨w.heap.size, k * 2, none⟩ (.int .u64 (bits .and .u64 x u))).setCell ⟨w.heap.size, k * 2 + 1, none⟩ (.int .u64 (bits .and .u64 y v))) := ((Below.refl _ _).setCell (p := ⟨w.heap.size, k * 2, none⟩) (by simp) _).setCell (p := ⟨w.heap.size, k * 2 + 1, none⟩) (by simp) _
          have SS := hS.below hBx hlb
          have SB := hB.trans hBx
          have hk0 : (0 : Int) ≤ (k : Int) := by omega
          have hk8 : (k : Int) < 8 := by omega
          have hlt0 : (k : Int) < (n : Int) := by omega
          clear hx hy hu hv q1 q2 q3 q4 hP r4 r5 r6 hS hB hBx
          go_wp2_with fail
          go_still_tail 21, (by kernel_rfl)
          change wpList _ _ _ _ _ wr.drew
          have c1' : wr.drew.cell? ⟨w.heap.size, k * 2, none⟩ = _ := c1
          have c2' : wr.drew.cell? ⟨w.heap.size, k * 2 + 1, none⟩ = _ := c2
          have f1' : wr.drew.frozen? ⟨w.heap.size, k * 2, none⟩ = _ := f1
          have f2' : wr.drew.frozen? ⟨w.heap.size, k * 2 + 1, none⟩ = _ := f2
          go_wp2_with fail
          go_roundw
          case rel => exact ⟨k + 1, by omega, by go_num, S4.below ((Below.refl _ _).drew) S4.lt, S5, S6, SS, SB.drew⟩
          case measure => simp [intOf]; omega
        · obtain rfl : n = k := by omega
          rw [mix_end8 _ _ n (fun j hj8 hj => by
            rw [HN.out] at hj
            have e := meet_at ps qs j hj8
            have a := hZp.out j hj8 hj
            have c := hZq.out j hj8 hj
            rw [e.1, e.2, a.1, a.2, c.1, c.2, and_zero0]
            exact ⟨rfl, rfl⟩)] at r4
          have HK := hid (l05Ok_any b n cap w.heap.size zs (andP ps qs) wr hS HN.out r4 HV.out)
          have hAW := hid (okPh_all (ps := andP ps qs) HV.out)
          go_wp2_with fail
          with_reducible refine HK.out.mono ?_
          rintro e W4 ⟨rfl, hC⟩
          replace r4 := r4.below hC r4.lt
          replace r6 := r6.below hC r6.lt
          replace hB := hB.trans (hC.mono hB.size)
          clear HK hC hS r5
          have T1 := r6.there 16 rfl
          have HR4 := hid r4
          have R0 := hid (r6.setCells (ys := phL []) rfl)
          have R1 := hid (r6.setCells (ys := (phL (andP ps qs))) rfl)
          have SB0 := hid (below_setCells (phL []) 0 _ hB (g := w.heap.size + 1 + 1) (by omega))
          have SB := hid (below_setCells (phL (andP ps qs)) 0 _ hB (g := w.heap.size + 1 + 1) (by omega))
          clear r4 r6 hB
          cases hm : allW zs (andP ps qs) with
          | false =>
            have HMT := hid (meetT_no (hAW.out.trans hm))
            clear hm
            go_wp2_with ((with_reducible refine wpList_store_mid rfl 31 _ _ rfl (w.heap.size + 1 + 1) 0 (phL []).toArray ?_ ?_ ?_ ?_ (all_oneCell_toArray (phL_one _)) ?_); rfl; rfl; (rw [sz16]; exact T1); (rw [sz16]; exact hi))
            exact bodyPost_ret (v := .tuple #[.agg (phL ([])).toArray, .int .i64 8]) (results_cell_slot (p := 6) (q := 7) (fn := Try.f34) rfl _ _ _ _ _ (0, 0) _ _ rfl rfl R0.out Try.underlying31 rfl (by rw [sz16]; exact hi)) rfl ⟨by rw [HMT.out], SB0.out⟩
          | true =>
            have HMT := hid (meetT_yes (hAW.out.trans hm))
            clear hm
            go_wp2_with (first | ((with_reducible refine wpList_store_mid rfl 31 _ _ rfl (w.heap.size + 1 + 1) 0 (phL (andP ps qs)).toArray ?_ ?_ ?_ ?_ (all_oneCell_toArray (phL_one _)) ?_); rfl; rfl; (rw [sz16]; exact T1); (rw [sz16]; exact hi)) | ((with_reducible refine wpList_load_row rfl 31 _ rfl w.heap.size ?_ 31 (phL (andP ps qs)).toArray (0, 0) _ ?_ Try.underlying31 ?_ ?_ ?_); rfl; exact HR4.out; rfl; (rw [sz16]; exact hi)))
            exact bodyPost_ret (v := .tuple #[.agg (phL (andP ps qs)).toArray, .int .i64 0]) (results_cell_slot (p := 6) (q := 7) (fn := Try.f34) rfl _ _ _ _ _ (0, 0) _ _ rfl rfl R1.out Try.underlying31 rfl (by rw [sz16]; exact hi)) rfl ⟨by rw [HMT.out], SB.out⟩
end Go.Proofs.Ytgfdfnlbkljgeaa
