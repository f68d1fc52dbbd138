/- BlankPhoto: the program's and the model's. -/
import Derived.Test.YtgfdfnlbkljgeaaPhF
namespace Go.Proofs.Ytgfdfnlbkljgeaa
open Go.RowKit
theorem results_cell_slot {P : Program} {fn : Func} {p q : Tmp} {ty : TypeId} (h : fn.results = #[.cell p ty, .tmp q]) (tmps : Array Value) (w : World) (g : Nat) (t : TypeId) (cs : Array Value) (fr : Nat × Nat) (d : TypeDesc) (v : Value)
    (hp : tmps.getD p undef = .pointer (some ⟨g, 0, none⟩)) (hq : tmps.getD q undef = v) (hg : w.heap[g]? = some (.cells cs t fr))
    (hu : P.underlying ty = some d) (hd : (match d with | .struct _ | .array _ _ => true | _ => false) = true) (hi : (P.info? ty).map (·.size) = some cs.size) :
    (results fn tmps).run P w = .ok (.tuple #[.agg cs, v]) w := by
  have hp' : tmps[p]?.getD undef = .pointer (some ⟨g, 0, none⟩) := by simpa using hp
  have hq' : tmps[q]?.getD undef = v := by simpa using hq
  simp [results, h, hp', hq', asAddr, run_loadVar_row w g t ty cs fr d hg hu hd hi]

set_option maxRecDepth 100000 in
set_option maxHeartbeats 1000000 in
theorem implBlankPhoto_any (b n cap : Nat) (zs : List Int) (w : World) (h : Stk w b zs) (hn : n = zs.length) :
    Calls Try.prog 23 #[.slice (some ⟨b, 0, none⟩) n cap] w fun e w' => e = .returned (.tuple #[.agg (phL (blankR zs).1).toArray, .int .i64 (blankR zs).2]) ∧ Below w.heap.size w w' := by
  have r1 := (Row.new w 31 [.int .u64 0, .int .u64 0, .int .u64 0, .int .u64 0, .int .u64 0, .int .u64 0, .int .u64 0, .int .u64 0, .int .u64 0, .int .u64 0, .int .u64 0, .int .u64 0, .int .u64 0, .int .u64 0, .int .u64 0, .int .u64 0]).zeros
  have hB : Below w.heap.size w (w.alloc (.cells #[.int .u64 0, .int .u64 0, .int .u64 0, .int .u64 0, .int .u64 0, .int .u64 0, .int .u64 0, .int .u64 0, .int .u64 0, .int .u64 0, .int .u64 0, .int .u64 0, .int .u64 0, .int .u64 0, .int .u64 0, .int .u64 0] 31)) := (Below.refl _ _).alloc (Nat.le_refl _) _
  have hS := h.below hB h.1
  have HV := hid (validStack_any b n cap zs _ hS hn)
  have hi := Try.infoPhoto
  have HS := hid hS
  have HN := hid hn
  cases hv : okL zs with
  | false =>
    rw [hv] at HV
    rw [blankR_no hv]
    clear h hn hv hS
    have R1 := hid (r1.setCells (ys := phL []) rfl)
    have T1 := r1.there 16 rfl
    have SB := hid (below_setCells (phL []) 0 _ hB (g := w.heap.size) (by omega))
    clear r1 hB
    go_enter Try.func23, Try.ntmps23
    go_wp2_with fail
    refine HV.out.mono ?_
    rintro e w1 ⟨rfl, rfl⟩
    go_wp2_with (refine wpList_store_mid rfl 31 _ _ rfl w.heap.size 0 (phL []).toArray rfl rfl (by simpa [phL_len] using T1) (by rw [hi]; simp [phL_len]) (all_oneCell_toArray (phL_one _)) ?_)
    exact bodyPost_ret (v := .tuple #[.agg (phL []).toArray, .int .i64 1]) (results_cell_slot (p := 2) (q := 3) (fn := Try.f23) rfl _ _ _ _ _ (0, 0) _ _ rfl rfl R1.out Try.underlying31 rfl (by rw [hi]; simp [phL_len])) rfl ⟨rfl, SB.out⟩
  | true =>
    rw [hv] at HV
    rw [blankR_yes hv]
    have HB := hid (blank_any b n cap zs _ hS hn hv)
    have hlt := r1.lt
    clear h hn hv hS
    go_enter Try.func23, Try.ntmps23
    go_wp2_with fail
    refine HV.out.mono ?_
    rintro e w1 ⟨rfl, rfl⟩
    go_wp2_with fail
    refine HB.out.mono ?_
    rintro e w1 ⟨rfl, hB1⟩
    have s1 := r1.below hB1 hlt
    have R1 := hid (s1.setCells (ys := phL (fullP zs)) rfl)
    have T1 := s1.there 16 rfl
    have SB := hid (below_setCells (phL (fullP zs)) 0 _ (hB.trans (hB1.mono (by omega))) (g := w.heap.size) (by omega))
    clear r1 hB hB1 s1
    go_wp2_with (refine wpList_store_mid rfl 31 _ _ rfl w.heap.size 0 (phL (fullP zs)).toArray rfl rfl (by simpa [phL_len] using T1) (by rw [hi]; simp [phL_len]) (all_oneCell_toArray (phL_one _)) ?_)
    exact bodyPost_ret (v := .tuple #[.agg (phL (fullP zs)).toArray, .int .i64 0]) (results_cell_slot (p := 2) (q := 3) (fn := Try.f23) rfl _ _ _ _ _ (0, 0) _ _ rfl rfl R1.out Try.underlying31 rfl (by rw [hi]; simp [phL_len])) rfl ⟨rfl, SB.out⟩
set_option maxRecDepth 100000 in
set_option maxHeartbeats 1000000 in
theorem specBlankPhoto_any (b n cap : Nat) (zs : List Int) (w : World) (h : Stk w b zs) (hn : n = zs.length) :
    Calls Try.prog 22 #[.slice (some ⟨b, 0, none⟩) n cap] w fun e w' => e = .returned (.tuple #[.agg (phL (blankR zs).1).toArray, .int .i64 (blankR zs).2]) ∧ Below w.heap.size w w' := by
  have r1' := (Row.new w 31 [.int .u64 0, .int .u64 0, .int .u64 0, .int .u64 0, .int .u64 0, .int .u64 0, .int .u64 0, .int .u64 0, .int .u64 0, .int .u64 0, .int .u64 0, .int .u64 0, .int .u64 0, .int .u64 0, .int .u64 0, .int .u64 0]).zeros
  have r1 := r1'.alloc (.cells #[.int .u64 0, .int .u64 0, .int .u64 0, .int .u64 0, .int .u64 0, .int .u64 0, .int .u64 0, .int .u64 0, .int .u64 0, .int .u64 0, .int .u64 0, .int .u64 0, .int .u64 0, .int .u64 0, .int .u64 0, .int .u64 0] 31)
  have r2 := (Row.new (w.alloc (.cells #[.int .u64 0, .int .u64 0, .int .u64 0, .int .u64 0, .int .u64 0, .int .u64 0, .int .u64 0, .int .u64 0, .int .u64 0, .int .u64 0, .int .u64 0, .int .u64 0, .int .u64 0, .int .u64 0, .int .u64 0, .int .u64 0] 31)) 31 [.int .u64 0, .int .u64 0, .int .u64 0, .int .u64 0, .int .u64 0, .int .u64 0, .int .u64 0, .int .u64 0, .int .u64 0, .int .u64 0, .int .u64 0, .int .u64 0, .int .u64 0, .int .u64 0, .int .u64 0, .int .u64 0]).zeros
  have hB : Below w.heap.size w ((w.alloc (.cells #[.int .u64 0, .int .u64 0, .int .u64 0, .int .u64 0, .int .u64 0, .int .u64 0, .int .u64 0, .int .u64 0, .int .u64 0, .int .u64 0, .int .u64 0, .int .u64 0, .int .u64 0, .int .u64 0, .int .u64 0, .int .u64 0] 31)).alloc (.cells #[.int .u64 0, .int .u64 0, .int .u64 0, .int .u64 0, .int .u64 0, .int .u64 0, .int .u64 0, .int .u64 0, .int .u64 0, .int .u64 0, .int .u64 0, .int .u64 0, .int .u64 0, .int .u64 0, .int .u64 0, .int .u64 0] 31)) := ((Below.refl _ _).alloc (Nat.le_refl _) _).alloc (by simp) _
  simp only [World.size_alloc] at r2
  
  have hS := h.below hB h.1
  have hb := h.1
  have HV := hid (l01Ok_any b n cap zs _ hS hn)
  have hi := Try.infoPhoto
  have HS := hid h
  have HN := hid hn
  clear r1'
  cases hv : okL zs with
  | false =>
    rw [hv] at HV
    rw [blankR_no hv]
    clear h hn hv hS
    have R1 := hid (r1.setCells (ys := phL []) rfl)
    have T1 := r1.there 16 rfl
    have SB := hid (below_setCells (phL []) 0 _ hB (g := w.heap.size) (by omega))
    clear r1 hB
    go_enter Try.func22, Try.ntmps22
    go_wp2_with fail
    refine HV.out.mono ?_
    rintro e w1 ⟨rfl, rfl⟩
    go_wp2_with (first | (refine wpList_load_row rfl 31 _ rfl (w.heap.size + 1) rfl 31 (phL []).toArray (0, 0) _ r2 Try.underlying31 rfl (by rw [hi]; simp [phL_len]) ?_) | (refine wpList_store_mid rfl 31 _ _ rfl w.heap.size 0 (phL []).toArray rfl rfl (by simpa [phL_len] using T1) (by rw [hi]; simp [phL_len]) (all_oneCell_toArray (phL_one _)) ?_))
    exact bodyPost_ret (v := .tuple #[.agg (phL []).toArray, .int .i64 1]) (results_cell_slot (p := 2) (q := 3) (fn := Try.f22) rfl _ _ _ _ _ (0, 0) _ _ rfl rfl R1.out Try.underlying31 rfl (by rw [hi]; simp [phL_len])) rfl ⟨rfl, SB.out⟩
  | true =>
    rw [hv] at HV
    rw [blankR_yes hv]
    obtain ⟨hl8, hbd⟩ := okL_in hv
    rw [← hn] at hl8
    have HZ := hid hbd
    clear h hn hv hS hbd
    go_enter Try.func22, Try.ntmps22
    go_wp2_with fail
    refine HV.out.mono ?_
    rintro e w1 ⟨rfl, rfl⟩
    go_wp2_with fail
    go_loopw [5] (fun i wr => ∃ k : Nat, k ≤ n ∧ i = .int .i64 k ∧ Row wr w.heap.size 31 (phL []) ∧ Row wr (w.heap.size + 1) 31 (mix (fullP zs) [] k) ∧ Below w.heap.size w wr) (fun i _ => n - (intOf i).toNat)
    case atStart => exact ⟨0, Nat.zero_le _, rfl, r1, by rw [mix_zero]; exact r2, hB⟩
    case round =>
      clear r1 r2 hB
      obtain ⟨k, hk, rfl, r1, r2, hB⟩ := hrel
      by_cases hlt : k < n
      · have hkz : k < zs.length := by rw [← HN.out]; exact hlt
        have hx := (HS.out.below hB hb).2.1 k hkz
        have hzb := HZ.out k hkz
        have hpa := pa_full zs k hkz
        have hpb := pb_full zs k hkz
        obtain ⟨m, hm⟩ := Int.eq_ofNat_of_zero_le (show 0 ≤ zs[k]?.getD 0 by omega)
        rw [hm] at hx hzb hpa hpb
        rw [Int.toNat_natCast] at hpa hpb
        have HM := hid (fun w => l05Full_any m w (by omega))
        rw [← hpa, ← hpb] at HM
        have hlt0 : (k : Int) < (n : Int) := by omega
        clear hkz hm hpa hpb
        go_wp2_with fail
        refine (HM.out _).mono ?_
        rintro e w1 ⟨rfl, hB1⟩
        clear hx
        have l1 := r1.lt; have l2 := r2.lt
        have s1 := r1.below hB1 l1
        have s2 := r2.below hB1 l2
        have hB2 := hB.trans (hB1.mono (by omega))
        obtain ⟨q1, q2⟩ := mix_at (fullP zs) [] k k (by omega) (Nat.le_refl _)
        have o1 := (s2.cell (k * 2)).trans q1
        have o2 := (s2.cell (k * 2 + 1)).trans q2
        have f1 := s2.frozen (k * 2)
        have f2 := s2.frozen (k * 2 + 1)
        have S2 := (s2.set (k * 2) (.int .u64 (pa (fullP zs) k))).set (k * 2 + 1) (.int .u64 (pb (fullP zs) k))
        rw [mix_set (fullP zs) [] k (by omega)] at S2
        have S1 := (s1.other (a := ⟨w.heap.size + 1, k * 2, none⟩) (by simp) (.int .u64 (pa (fullP zs) k))).other (a := ⟨w.heap.size + 1, k * 2 + 1, none⟩) (by simp) (.int .u64 (pb (fullP zs) k))
        have SB := (hB2.setCell (p := ⟨w.heap.size + 1, k * 2, none⟩) (by simp) (.int .u64 (pa (fullP zs) k))).setCell (p := ⟨w.heap.size + 1, k * 2 + 1, none⟩) (by simp) (.int .u64 (pb (fullP zs) k))
        have hk8 : (k : Int) < 8 := by omega
        clear q1 q2 s1 s2 r1 r2 hB hB1 hB2 l1 l2
        go_wp2
        go_roundw
        case rel => exact ⟨k + 1, by omega, by go_num, S1, S2, SB⟩
        case measure => simp [intOf]; omega
      · obtain rfl : k = n := by omega
        rw [mix_end _ _ k (fun j hj => by rw [HN.out] at hj; have a := full_out zs j hj; have c := nil_at j; exact ⟨a.1.trans c.1.symm, a.2.trans c.2.symm⟩)] at r2
        have R1 := hid (r1.setCells (ys := phL (fullP zs)) rfl)
        have T1 := r1.there 16 rfl
        have SB := hid (below_setCells (phL (fullP zs)) 0 wr hB (g := w.heap.size) (by omega))
        clear r1 hB
        go_wp2_with (first | (refine wpList_load_row rfl 31 _ rfl (w.heap.size + 1) rfl 31 (phL (fullP zs)).toArray (0, 0) _ r2 Try.underlying31 rfl (by rw [hi]; simp [phL_len]) ?_) | (refine wpList_store_mid rfl 31 _ _ rfl w.heap.size 0 (phL (fullP zs)).toArray rfl rfl (by simpa [phL_len] using T1) (by rw [hi]; simp [phL_len]) (all_oneCell_toArray (phL_one _)) ?_))
        exact bodyPost_ret (v := .tuple #[.agg (phL (fullP zs)).toArray, .int .i64 0]) (results_cell_slot (p := 2) (q := 3) (fn := Try.f22) rfl _ _ _ _ _ (0, 0) _ _ rfl rfl R1.out Try.underlying31 rfl (by rw [hi]; simp [phL_len])) rfl ⟨rfl, SB.out⟩
end Go.Proofs.Ytgfdfnlbkljgeaa
