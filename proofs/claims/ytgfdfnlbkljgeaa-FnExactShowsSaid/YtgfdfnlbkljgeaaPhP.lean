/- PhotoOf: the program's and the model's. -/
import Derived.Test.YtgfdfnlbkljgeaaPhD
namespace Go.Proofs.Ytgfdfnlbkljgeaa
open Go.RowKit
def dphR (zs ds : List Int) : List (Int × Int) × Int := if okV zs ds then (digP zs.length ds, 0) else ([], 1)
theorem dphR_no {zs ds : List Int} (h : okV zs ds = false) : dphR zs ds = ([], 1) := by simp [dphR, h]
theorem dphR_yes {zs ds : List Int} (h : okV zs ds = true) : dphR zs ds = (digP zs.length ds, 0) := by simp [dphR, h]
theorem oct_at {d0 d1 d2 d3 d4 d5 d6 d7 : Int} (h : Oct d0 d1 d2 d3 d4 d5 d6 d7) (k : Nat) : 0 ≤ [d0, d1, d2, d3, d4, d5, d6, d7][k]?.getD 0 ∧ [d0, d1, d2, d3, d4, d5, d6, d7][k]?.getD 0 ≤ 255 := by
  obtain ⟨h0, h1, h2, h3, h4, h5, h6, h7⟩ := h
  match k with
  | 0 => exact h0
  | 1 => exact h1
  | 2 => exact h2
  | 3 => exact h3
  | 4 => exact h4
  | 5 => exact h5
  | 6 => exact h6
  | 7 => exact h7
  | n + 8 => simp

set_option maxRecDepth 100000 in
set_option maxHeartbeats 2000000 in
theorem implPhotoOf_any (b n cap : Nat) (zs : List Int) (d0 d1 d2 d3 d4 d5 d6 d7 : Int) (w : World) (h : Stk w b zs) (hn : n = zs.length) (ho : Oct d0 d1 d2 d3 d4 d5 d6 d7) :
    Calls Try.prog 20 #[.slice (some ⟨b, 0, none⟩) n cap, .agg #[.int .u8 d0, .int .u8 d1, .int .u8 d2, .int .u8 d3, .int .u8 d4, .int .u8 d5, .int .u8 d6, .int .u8 d7]] w fun e w' => e = .returned (.tuple #[.agg (phL (dphR zs [d0, d1, d2, d3, d4, d5, d6, d7]).1).toArray, .int .i64 (dphR zs [d0, d1, d2, d3, d4, d5, d6, d7]).2]) ∧ Below w.heap.size w w' := by
  have rd := (Row.new w 38 [.int .u8 d0, .int .u8 d1, .int .u8 d2, .int .u8 d3, .int .u8 d4, .int .u8 d5, .int .u8 d6, .int .u8 d7]).alloc (.cells #[.int .u64 0, .int .u64 0, .int .u64 0, .int .u64 0, .int .u64 0, .int .u64 0, .int .u64 0, .int .u64 0, .int .u64 0, .int .u64 0, .int .u64 0, .int .u64 0, .int .u64 0, .int .u64 0, .int .u64 0, .int .u64 0] 31)
  have r1 := (Row.new (w.alloc (.cells #[.int .u8 d0, .int .u8 d1, .int .u8 d2, .int .u8 d3, .int .u8 d4, .int .u8 d5, .int .u8 d6, .int .u8 d7] 38)) 31 [.int .u64 0, .int .u64 0, .int .u64 0, .int .u64 0, .int .u64 0, .int .u64 0, .int .u64 0, .int .u64 0, .int .u64 0, .int .u64 0, .int .u64 0, .int .u64 0, .int .u64 0, .int .u64 0, .int .u64 0, .int .u64 0]).zeros
  have hB : Below w.heap.size w ((w.alloc (.cells #[.int .u8 d0, .int .u8 d1, .int .u8 d2, .int .u8 d3, .int .u8 d4, .int .u8 d5, .int .u8 d6, .int .u8 d7] 38)).alloc (.cells #[.int .u64 0, .int .u64 0, .int .u64 0, .int .u64 0, .int .u64 0, .int .u64 0, .int .u64 0, .int .u64 0, .int .u64 0, .int .u64 0, .int .u64 0, .int .u64 0, .int .u64 0, .int .u64 0, .int .u64 0, .int .u64 0] 31)) := ((Below.refl _ _).alloc (Nat.le_refl _) _).alloc (by simp) _
  simp only [World.size_alloc] at r1
  have hS := h.below hB h.1
  have HV := hid (validDigits_any b n cap zs d0 d1 d2 d3 d4 d5 d6 d7 _ hS hn ho)
  have hi := Try.infoPhoto
  cases hv : okV zs [d0, d1, d2, d3, d4, d5, d6, d7] with
  | false =>
    rw [hv] at HV
    rw [dphR_no hv]
    clear h hn hv hS ho
    go_enter Try.func20, Try.ntmps20
    go_wp2_with fail
    with_reducible refine HV.out.mono ?_
    rintro e w1 ⟨rfl, hB1⟩
    have hz1 := hB1.size
    simp only [World.size_alloc] at hz1
    have s1 := r1.below hB1 (by simp)
    have hBx := hB.trans (hB1.mono (by simp; omega))
    have R1 := hid (s1.setCells (ys := phL []) rfl)
    have T1 := s1.there 16 rfl
    have SB := hid (below_setCells (phL []) 0 _ hBx (g := w.heap.size + 1) (by omega))
    clear r1 hB s1 hBx hB1 rd
    go_wp2_with ((with_reducible refine wpList_store_mid rfl 31 _ _ rfl (w.heap.size + 1) 0 (phL []).toArray ?_ ?_ ?_ ?_ (all_oneCell_toArray (phL_one _)) ?_); rfl; rfl; (rw [sz16]; exact T1); (rw [sz16]; exact hi))
    exact bodyPost_ret (v := .tuple #[.agg (phL []).toArray, .int .i64 1]) (results_cell_slot (p := 4) (q := 5) (fn := Try.f20) rfl _ _ _ _ _ (0, 0) _ _ rfl rfl R1.out Try.underlying31 rfl (by rw [sz16]; exact hi)) rfl ⟨rfl, SB.out⟩
  | true =>
    rw [hv] at HV
    rw [dphR_yes hv, ← hn]
    obtain ⟨hv1, hv2⟩ := okV_out hv
    have hl8 := (okL_in hv1).1
    rw [← hn] at hl8
    have HK := hid (fun w => photo_any (some ⟨b, 0, none⟩) n cap d0 d1 d2 d3 d4 d5 d6 d7 w hl8 (fun k hk => by
      have x1 := oct_at ho k
      have x2 := (okD_out hv2 k (by omega)).1 (by rw [← hn]; exact hk)
      have x3 := (okL_in hv1).2 k (by rw [← hn]; exact hk)
      omega))
    clear h hn hv hS ho hv1 hv2
    go_enter Try.func20, Try.ntmps20
    go_wp2_with fail
    with_reducible refine HV.out.mono ?_
    rintro e w1 ⟨rfl, hB1⟩
    have hz1 := hB1.size
    simp only [World.size_alloc] at hz1
    have rd1 := rd.below hB1 (by simp; omega)
    have s1 := r1.below hB1 (by simp)
    have hBx := hB.trans (hB1.mono (by simp; omega))
    have HS1 := hid s1
    have e0 := rd1.cell 0
    have e1 := rd1.cell 1
    have e2 := rd1.cell 2
    have e3 := rd1.cell 3
    have e4 := rd1.cell 4
    have e5 := rd1.cell 5
    have e6 := rd1.cell 6
    have e7 := rd1.cell 7
    simp only [List.getElem?_cons_zero, List.getElem?_cons_succ] at e0 e1 e2 e3 e4 e5 e6 e7
    clear r1 hB hB1 rd rd1 s1
    go_wp2_with fail
    with_reducible refine (HK.out _).mono ?_
    rintro e w2 ⟨rfl, hB2⟩
    have s2 := HS1.out.below hB2 HS1.out.lt
    have hBy := hBx.trans (hB2.mono hBx.size)
    have R1 := hid (s2.setCells (ys := phL (digP n [d0, d1, d2, d3, d4, d5, d6, d7])) rfl)
    have T1 := s2.there 16 rfl
    have SB := hid (below_setCells (phL (digP n [d0, d1, d2, d3, d4, d5, d6, d7])) 0 _ hBy (g := w.heap.size + 1) (by omega))
    clear e0 e1 e2 e3 e4 e5 e6 e7 s2 hBx hBy hB2
    go_wp2_with ((with_reducible refine wpList_store_mid rfl 31 _ _ rfl (w.heap.size + 1) 0 (phL (digP n [d0, d1, d2, d3, d4, d5, d6, d7])).toArray ?_ ?_ ?_ ?_ (all_oneCell_toArray (phL_one _)) ?_); rfl; rfl; (rw [sz16]; exact T1); (rw [sz16]; exact hi))
    exact bodyPost_ret (v := .tuple #[.agg (phL (digP n [d0, d1, d2, d3, d4, d5, d6, d7])).toArray, .int .i64 0]) (results_cell_slot (p := 4) (q := 5) (fn := Try.f20) rfl _ _ _ _ _ (0, 0) _ _ rfl rfl R1.out Try.underlying31 rfl (by rw [sz16]; exact hi)) rfl ⟨rfl, SB.out⟩
set_option maxRecDepth 100000 in
set_option maxHeartbeats 2000000 in
theorem specPhotoOf_any (b n cap : Nat) (zs : List Int) (d0 d1 d2 d3 d4 d5 d6 d7 : Int) (w : World) (h : Stk w b zs) (hn : n = zs.length) (ho : Oct d0 d1 d2 d3 d4 d5 d6 d7) :
    Calls Try.prog 18 #[.slice (some ⟨b, 0, none⟩) n cap, .agg #[.int .u8 d0, .int .u8 d1, .int .u8 d2, .int .u8 d3, .int .u8 d4, .int .u8 d5, .int .u8 d6, .int .u8 d7]] w fun e w' => e = .returned (.tuple #[.agg (phL (dphR zs [d0, d1, d2, d3, d4, d5, d6, d7]).1).toArray, .int .i64 (dphR zs [d0, d1, d2, d3, d4, d5, d6, d7]).2]) ∧ Below w.heap.size w w' := by
  have rd := (Row.new w 38 [.int .u8 d0, .int .u8 d1, .int .u8 d2, .int .u8 d3, .int .u8 d4, .int .u8 d5, .int .u8 d6, .int .u8 d7]).alloc (.cells #[.int .u64 0, .int .u64 0, .int .u64 0, .int .u64 0, .int .u64 0, .int .u64 0, .int .u64 0, .int .u64 0, .int .u64 0, .int .u64 0, .int .u64 0, .int .u64 0, .int .u64 0, .int .u64 0, .int .u64 0, .int .u64 0] 31)
  have r1 := (Row.new (w.alloc (.cells #[.int .u8 d0, .int .u8 d1, .int .u8 d2, .int .u8 d3, .int .u8 d4, .int .u8 d5, .int .u8 d6, .int .u8 d7] 38)) 31 [.int .u64 0, .int .u64 0, .int .u64 0, .int .u64 0, .int .u64 0, .int .u64 0, .int .u64 0, .int .u64 0, .int .u64 0, .int .u64 0, .int .u64 0, .int .u64 0, .int .u64 0, .int .u64 0, .int .u64 0, .int .u64 0]).zeros
  have hB : Below w.heap.size w ((w.alloc (.cells #[.int .u8 d0, .int .u8 d1, .int .u8 d2, .int .u8 d3, .int .u8 d4, .int .u8 d5, .int .u8 d6, .int .u8 d7] 38)).alloc (.cells #[.int .u64 0, .int .u64 0, .int .u64 0, .int .u64 0, .int .u64 0, .int .u64 0, .int .u64 0, .int .u64 0, .int .u64 0, .int .u64 0, .int .u64 0, .int .u64 0, .int .u64 0, .int .u64 0, .int .u64 0, .int .u64 0] 31)) := ((Below.refl _ _).alloc (Nat.le_refl _) _).alloc (by simp) _
  simp only [World.size_alloc] at r1
  have hS := h.below hB h.1
  have HV := hid (specValidDigits_any b n cap zs d0 d1 d2 d3 d4 d5 d6 d7 _ hS hn ho)
  have hi := Try.infoPhoto
  cases hv : okV zs [d0, d1, d2, d3, d4, d5, d6, d7] with
  | false =>
    rw [hv] at HV
    rw [dphR_no hv]
    clear h hn hv hS ho
    go_enter Try.func18, Try.ntmps18
    go_wp2_with fail
    with_reducible refine HV.out.mono ?_
    rintro e w1 ⟨rfl, hB1⟩
    have hz1 := hB1.size
    simp only [World.size_alloc] at hz1
    have s1 := r1.below hB1 (by simp)
    have hBx := hB.trans (hB1.mono (by simp; omega))
    have R1 := hid (s1.setCells (ys := phL []) rfl)
    have T1 := s1.there 16 rfl
    have SB := hid (below_setCells (phL []) 0 _ hBx (g := w.heap.size + 1) (by omega))
    clear r1 hB s1 hBx hB1 rd
    go_wp2_with ((with_reducible refine wpList_store_mid rfl 31 _ _ rfl (w.heap.size + 1) 0 (phL []).toArray ?_ ?_ ?_ ?_ (all_oneCell_toArray (phL_one _)) ?_); rfl; rfl; (rw [sz16]; exact T1); (rw [sz16]; exact hi))
    exact bodyPost_ret (v := .tuple #[.agg (phL []).toArray, .int .i64 1]) (results_cell_slot (p := 4) (q := 5) (fn := Try.f18) rfl _ _ _ _ _ (0, 0) _ _ rfl rfl R1.out Try.underlying31 rfl (by rw [sz16]; exact hi)) rfl ⟨rfl, SB.out⟩
  | true =>
    rw [hv] at HV
    rw [dphR_yes hv, ← hn]
    obtain ⟨hv1, hv2⟩ := okV_out hv
    have hl8 := (okL_in hv1).1
    rw [← hn] at hl8
    have HK := hid (fun w => l05Of_any (some ⟨b, 0, none⟩) n cap d0 d1 d2 d3 d4 d5 d6 d7 w hl8 (fun k hk => by
      have x1 := oct_at ho k
      have x2 := (okD_out hv2 k (by omega)).1 (by rw [← hn]; exact hk)
      have x3 := (okL_in hv1).2 k (by rw [← hn]; exact hk)
      omega))
    clear h hn hv hS ho hv1 hv2
    go_enter Try.func18, Try.ntmps18
    go_wp2_with fail
    with_reducible refine HV.out.mono ?_
    rintro e w1 ⟨rfl, hB1⟩
    have hz1 := hB1.size
    simp only [World.size_alloc] at hz1
    have rd1 := rd.below hB1 (by simp; omega)
    have s1 := r1.below hB1 (by simp)
    have hBx := hB.trans (hB1.mono (by simp; omega))
    have HS1 := hid s1
    have e0 := rd1.cell 0
    have e1 := rd1.cell 1
    have e2 := rd1.cell 2
    have e3 := rd1.cell 3
    have e4 := rd1.cell 4
    have e5 := rd1.cell 5
    have e6 := rd1.cell 6
    have e7 := rd1.cell 7
    simp only [List.getElem?_cons_zero, List.getElem?_cons_succ] at e0 e1 e2 e3 e4 e5 e6 e7
    clear r1 hB hB1 rd rd1 s1
    go_wp2_with fail
    with_reducible refine (HK.out _).mono ?_
    rintro e w2 ⟨rfl, hB2⟩
    have s2 := HS1.out.below hB2 HS1.out.lt
    have hBy := hBx.trans (hB2.mono hBx.size)
    have R1 := hid (s2.setCells (ys := phL (digP n [d0, d1, d2, d3, d4, d5, d6, d7])) rfl)
    have T1 := s2.there 16 rfl
    have SB := hid (below_setCells (phL (digP n [d0, d1, d2, d3, d4, d5, d6, d7])) 0 _ hBy (g := w.heap.size + 1) (by omega))
    clear e0 e1 e2 e3 e4 e5 e6 e7 s2 hBx hBy hB2
    go_wp2_with ((with_reducible refine wpList_store_mid rfl 31 _ _ rfl (w.heap.size + 1) 0 (phL (digP n [d0, d1, d2, d3, d4, d5, d6, d7])).toArray ?_ ?_ ?_ ?_ (all_oneCell_toArray (phL_one _)) ?_); rfl; rfl; (rw [sz16]; exact T1); (rw [sz16]; exact hi))
    exact bodyPost_ret (v := .tuple #[.agg (phL (digP n [d0, d1, d2, d3, d4, d5, d6, d7])).toArray, .int .i64 0]) (results_cell_slot (p := 4) (q := 5) (fn := Try.f18) rfl _ _ _ _ _ (0, 0) _ _ rfl rfl R1.out Try.underlying31 rfl (by rw [sz16]; exact hi)) rfl ⟨rfl, SB.out⟩
end Go.Proofs.Ytgfdfnlbkljgeaa
