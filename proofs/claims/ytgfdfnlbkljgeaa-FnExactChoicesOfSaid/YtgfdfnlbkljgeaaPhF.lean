/- The photo in which all values are: the program's and the model's. -/
import Derived.Test.YtgfdfnlbkljgeaaPhM
import Derived.Test.YtgfdfnlbkljgeaaPhE
import Derived.Test.YtgfdfnlbkljgeaaValid
namespace Go.Proofs.Ytgfdfnlbkljgeaa
open Go.RowKit
def fullP (zs : List Int) : List (Int × Int) := zs.map fun z => mbel z.toNat
theorem pa_full (zs : List Int) (k : Nat) (h : k < zs.length) : pa (fullP zs) k = (mbel (zs[k]?.getD 0).toNat).1 := by simp [pa, fullP, h]
theorem pb_full (zs : List Int) (k : Nat) (h : k < zs.length) : pb (fullP zs) k = (mbel (zs[k]?.getD 0).toNat).2 := by simp [pb, fullP, h]
theorem full_out (zs : List Int) (k : Nat) (h : zs.length ≤ k) : pa (fullP zs) k = 0 ∧ pb (fullP zs) k = 0 := by
  have : (fullP zs)[k]? = none := List.getElem?_eq_none (by simp [fullP]; omega)
  simp [pa, pb, this]
theorem nil_at (k : Nat) : pa [] k = 0 ∧ pb [] k = 0 := by simp [pa, pb]
theorem mix_end (ps qs : List (Int × Int)) (n : Nat) (h : ∀ j, n ≤ j → pa ps j = pa qs j ∧ pb ps j = pb qs j) : mix ps qs n = phL ps := by
  unfold mix phL
  apply List.map_congr_left
  intro i _
  by_cases h1 : i < n * 2
  · rw [if_pos h1]
  · rw [if_neg h1]
    have := h (i / 2) (by omega)
    unfold phc
    rw [this.1, this.2]
theorem okL_in {zs : List Int} (h : okL zs = true) : zs.length ≤ 8 ∧ ∀ k, k < zs.length → 2 ≤ zs[k]?.getD 0 ∧ zs[k]?.getD 0 ≤ 100 := by
  simp only [okL, decide_eq_true_eq] at h
  refine ⟨h.2.1, fun k hk => ?_⟩
  have := h.2.2.1 zs[k] (List.getElem_mem hk)
  simpa [hk] using this
theorem full_ph {zs : List Int} (h : okL zs = true) : Ph (fullP zs) := fun j => by
  by_cases hj : j < zs.length
  · rw [pa_full zs j hj, pb_full zs j hj]
    have := (okL_in h).2 j hj
    exact mbel_bd _ (by omega)
  · have := full_out zs j (by omega)
    rw [this.1, this.2]; omega
def blankR (zs : List Int) : List (Int × Int) × Int := if okL zs then (fullP zs, 0) else ([], 1)
theorem blankR_no {zs : List Int} (h : okL zs = false) : blankR zs = ([], 1) := by simp [blankR, h]
theorem blankR_yes {zs : List Int} (h : okL zs = true) : blankR zs = (fullP zs, 0) := by simp [blankR, h]

set_option maxRecDepth 100000 in
set_option maxHeartbeats 1000000 in
theorem blank_any (b n cap : Nat) (zs : List Int) (w : World) (h : Stk w b zs) (hn : n = zs.length) (hv : okL zs = true) :
    Calls Try.prog 43 #[.slice (some ⟨b, 0, none⟩) n cap] w fun e w' => e = .returned (.agg (phL (fullP zs)).toArray) ∧ Below w.heap.size w w' := by
  obtain ⟨hl8, hbd⟩ := okL_in hv
  have r1 := ((Row.new w 31 [.int .u64 0, .int .u64 0, .int .u64 0, .int .u64 0, .int .u64 0, .int .u64 0, .int .u64 0, .int .u64 0, .int .u64 0, .int .u64 0, .int .u64 0, .int .u64 0, .int .u64 0, .int .u64 0, .int .u64 0, .int .u64 0]).alloc (.cells #[.int .u64 0, .int .u64 0, .int .u64 0, .int .u64 0, .int .u64 0, .int .u64 0, .int .u64 0, .int .u64 0, .int .u64 0, .int .u64 0, .int .u64 0, .int .u64 0, .int .u64 0, .int .u64 0, .int .u64 0, .int .u64 0] 31)).zeros
  have r2 := (Row.new (w.alloc (.cells #[.int .u64 0, .int .u64 0, .int .u64 0, .int .u64 0, .int .u64 0, .int .u64 0, .int .u64 0, .int .u64 0, .int .u64 0, .int .u64 0, .int .u64 0, .int .u64 0, .int .u64 0, .int .u64 0, .int .u64 0, .int .u64 0] 31)) 31 [.int .u64 0, .int .u64 0, .int .u64 0, .int .u64 0, .int .u64 0, .int .u64 0, .int .u64 0, .int .u64 0, .int .u64 0, .int .u64 0, .int .u64 0, .int .u64 0, .int .u64 0, .int .u64 0, .int .u64 0, .int .u64 0]).zeros
  have hB : Below w.heap.size w ((w.alloc (.cells #[.int .u64 0, .int .u64 0, .int .u64 0, .int .u64 0, .int .u64 0, .int .u64 0, .int .u64 0, .int .u64 0, .int .u64 0, .int .u64 0, .int .u64 0, .int .u64 0, .int .u64 0, .int .u64 0, .int .u64 0, .int .u64 0] 31)).alloc (.cells #[.int .u64 0, .int .u64 0, .int .u64 0, .int .u64 0, .int .u64 0, .int .u64 0, .int .u64 0, .int .u64 0, .int .u64 0, .int .u64 0, .int .u64 0, .int .u64 0, .int .u64 0, .int .u64 0, .int .u64 0, .int .u64 0] 31)) := ((Below.refl _ _).alloc (Nat.le_refl _) _).alloc (by simp) _
  simp only [World.size_alloc] at r2
  have HS := hid h
  have hb := h.1
  have HN := hid hn
  rw [← hn] at hl8
  have HZ := hid hbd
  clear h hn hv hbd
  go_enter Try.func43, Try.ntmps43
  go_wp2_with fail
  go_loopw [8] (fun i wr => ∃ k : Nat, k ≤ n ∧ i = .int .i64 k ∧ Row wr w.heap.size 31 (phL []) ∧ Row wr (w.heap.size + 1) 31 (mix (fullP zs) [] k) ∧ Below w.heap.size w wr) (fun i _ => n - (intOf i).toNat)
  case atStart => exact ⟨0, Nat.zero_le _, rfl, r1, by rw [mix_zero]; exact r2, hB⟩
  case round =>
    clear r1 r2 hB
    obtain ⟨k, hk, rfl, r1, r2, hB⟩ := hrel
    by_cases hlt : k < n
    · have hkz : k < zs.length := by rw [← HN.out]; exact hlt
      have hx := (HS.out.below hB hb).2.1 k hkz
      have hzb := HZ.out k hkz
      have hpa := pa_full zs k hkz
      have hpb := pb_full zs k hkz
      obtain ⟨m, hm⟩ := Int.eq_ofNat_of_zero_le (show 0 ≤ zs[k]?.getD 0 by omega)
      rw [hm] at hx hzb hpa hpb
      rw [Int.toNat_natCast] at hpa hpb
      have HM := hid (fun w => marksBelow_any m w (by omega))
      rw [← hpa, ← hpb] at HM
      have hlt0 : (k : Int) < (n : Int) := by omega
      clear hkz hm hpa hpb
      go_wp2_with fail
      refine (HM.out _).mono ?_
      rintro e w1 ⟨rfl, hB1⟩
      clear hx
      have l1 := r1.lt; have l2 := r2.lt
      have s1 := r1.below hB1 l1
      have s2 := r2.below hB1 l2
      have hB2 := hB.trans (hB1.mono (by omega))
      obtain ⟨q1, q2⟩ := mix_at (fullP zs) [] k k (by omega) (Nat.le_refl _)
      have o1 := (s2.cell (k * 2)).trans q1
      have o2 := (s2.cell (k * 2 + 1)).trans q2
      have f1 := s2.frozen (k * 2)
      have f2 := s2.frozen (k * 2 + 1)
      have S2 := (s2.set (k * 2) (.int .u64 (pa (fullP zs) k))).set (k * 2 + 1) (.int .u64 (pb (fullP zs) k))
      rw [mix_set (fullP zs) [] k (by omega)] at S2
      have S1 := (s1.other (a := ⟨w.heap.size + 1, k * 2, none⟩) (by simp) (.int .u64 (pa (fullP zs) k))).other (a := ⟨w.heap.size + 1, k * 2 + 1, none⟩) (by simp) (.int .u64 (pb (fullP zs) k))
      have SB := (hB2.setCell (p := ⟨w.heap.size + 1, k * 2, none⟩) (by simp) (.int .u64 (pa (fullP zs) k))).setCell (p := ⟨w.heap.size + 1, k * 2 + 1, none⟩) (by simp) (.int .u64 (pb (fullP zs) k))
      have hk8 : (k : Int) < 8 := by omega
      clear q1 q2 s1 s2 r1 r2 hB hB1 hB2 l1 l2
      go_wp2
      go_roundw
      case rel => exact ⟨k + 1, by omega, by go_num, S1, S2, SB⟩
      case measure => simp [intOf]; omega
    · obtain rfl : k = n := by omega
      rw [mix_end _ _ k (fun j hj => by rw [HN.out] at hj; have a := full_out zs j hj; have c := nil_at j; exact ⟨a.1.trans c.1.symm, a.2.trans c.2.symm⟩)] at r2
      have hi := Try.infoPhoto
      have R1 := hid (r1.setCells (ys := phL (fullP zs)) rfl)
      have T1 := r1.there 16 rfl
      have SB := hid (below_setCells (phL (fullP zs)) 0 wr hB (g := w.heap.size) (by omega))
      clear r1 hB
      go_wp2_with (first | (refine wpList_load_row rfl 31 _ rfl (w.heap.size + 1) rfl 31 (phL (fullP zs)).toArray (0, 0) _ r2 Try.underlying31 rfl (by rw [hi]; simp [phL_len]) ?_) | (refine wpList_store_mid rfl 31 _ _ rfl w.heap.size 0 (phL (fullP zs)).toArray rfl rfl (by simpa [phL_len] using T1) (by rw [hi]; simp [phL_len]) (all_oneCell_toArray (phL_one _)) ?_))
      exact bodyPost_ret (v := .agg (phL (fullP zs)).toArray) (results_cell_row (fn := Try.f43) rfl _ _ _ _ _ (0, 0) _ rfl R1.out Try.underlying31 rfl (by rw [hi]; simp [phL_len])) rfl ⟨rfl, SB.out⟩
end Go.Proofs.Ytgfdfnlbkljgeaa
