/- JoinPhotos: the model's. -/
import Derived.Test.YtgfdfnlbkljgeaaMeet
import Derived.Test.YtgfdfnlbkljgeaaVpB
import Derived.Test.YtgfdfnlbkljgeaaVpC
import Derived.Test.YtgfdfnlbkljgeaaPhG
import Derived.StillTailTactics
namespace Go.Proofs.Ytgfdfnlbkljgeaa
open Go.RowKit
theorem wpList_load_rowG {P : Program} {ops : Array Oper} {rest : List Oper} {o : Oper} {a : Act} {w : World} {Q : Exit → Act → World → Prop} (hgd : Region.wanted o (yielded ops a.tmps) = true) (ty : TypeId) (x : Operand) (ho : o.op = .load ty x)
    (g : Nat) (hx : a.eval x = .pointer (some ⟨g, 0, none⟩)) (t : TypeId) (cs : Array Value) (fr : Nat × Nat) (d : TypeDesc) (hg : w.heap[g]? = some (.cells cs t fr))
    (hu : P.underlying ty = some d) (hd : (match d with | .struct _ | .array _ _ => true | _ => false) = true) (hi : (P.info? ty).map (·.size) = some cs.size)
    (h : wpList P ops Q rest (a.put o.dst (.agg cs)) w) : wpList P ops Q (o :: rest) a w :=
  BigFrame.wpList_want hgd fun _ hK => wp_load_row ty x ho g hx t cs fr d hg hu hd hi (hK _ _ h)
def joinR (zs : List Int) (ps qs : List (Int × Int)) : List (Int × Int) × Int := if okPh zs ps && okPh zs qs then (orP ps qs, 0) else ([], 1)
theorem joinR_no1 {zs : List Int} {ps qs : List (Int × Int)} (h : okPh zs ps = false) : joinR zs ps qs = ([], 1) := by simp [joinR, h]
theorem joinR_no2 {zs : List Int} {ps qs : List (Int × Int)} (h : okPh zs qs = false) : joinR zs ps qs = ([], 1) := by simp [joinR, h]
theorem joinR_yes {zs : List Int} {ps qs : List (Int × Int)} (h : okPh zs ps = true) (k : okPh zs qs = true) : joinR zs ps qs = (orP ps qs, 0) := by simp [joinR, h, k]
def meetT (zs : List Int) (ps qs : List (Int × Int)) : List (Int × Int) × Int := if okPh zs (andP ps qs) then (andP ps qs, 0) else ([], 8)
def meetR (zs : List Int) (ps qs : List (Int × Int)) : List (Int × Int) × Int := if okPh zs ps && okPh zs qs then meetT zs ps qs else ([], 1)
theorem meetR_no1 {zs : List Int} {ps qs : List (Int × Int)} (h : okPh zs ps = false) : meetR zs ps qs = ([], 1) := by simp [meetR, h]
theorem meetR_no2 {zs : List Int} {ps qs : List (Int × Int)} (h : okPh zs qs = false) : meetR zs ps qs = ([], 1) := by simp [meetR, h]
theorem meetR_yes {zs : List Int} {ps qs : List (Int × Int)} (h : okPh zs ps = true) (k : okPh zs qs = true) : meetR zs ps qs = meetT zs ps qs := by simp [meetR, h, k]
theorem okPh_ok {zs : List Int} {ps : List (Int × Int)} (h : okPh zs ps = true) : okL zs = true := by
  simp only [okPh, Bool.and_eq_true] at h
  exact h.1
theorem okPh_high {zs : List Int} {ps : List (Int × Int)} (h : okPh zs ps = true) (j : Nat) (hj : j < 8) (hz : zs.length ≤ j) : pa ps j = 0 ∧ pb ps j = 0 := by
  simp only [okPh, Bool.and_eq_true, List.all_eq_true, List.mem_range] at h
  have := h.2 j hj
  unfold okW at this
  rw [if_neg (by omega)] at this
  simpa [sameM] using this
theorem mix_end8 (ps qs : List (Int × Int)) (n : Nat) (h : ∀ j, j < 8 → n ≤ j → pa ps j = pa qs j ∧ pb ps j = pb qs j) : mix ps qs n = phL ps := by
  unfold mix phL
  apply List.map_congr_left
  intro i hi
  have hi' := List.mem_range.1 hi
  by_cases h1 : i < n * 2
  · rw [if_pos h1]
  · rw [if_neg h1]
    have := h (i / 2) (by omega) (by omega)
    unfold phc
    rw [this.1, this.2]
theorem or_zero0 : bits .or .u64 0 0 = 0 := by decide +kernel
theorem and_zero0 : bits .and .u64 0 0 = 0 := by decide +kernel
set_option maxRecDepth 100000 in
set_option maxHeartbeats 2000000 in
theorem specJoinPhotos_any (b n cap : Nat) (zs : List Int) (ps qs : List (Int × Int)) (w : World) (h : Stk w b zs) (hn : n = zs.length) :
    Calls Try.prog 36 #[.slice (some ⟨b, 0, none⟩) n cap, .agg (phL ps).toArray, .agg (phL qs).toArray] w fun e w' => e = .returned (.tuple #[.agg (phL (joinR zs ps qs).1).toArray, .int .i64 (joinR zs ps qs).2]) ∧ Below w.heap.size w w' := by
  have r4 := ((Row.new w 31 (phL ps)).alloc (.cells (phL qs).toArray 31)).alloc (.cells #[.int .u64 0, .int .u64 0, .int .u64 0, .int .u64 0, .int .u64 0, .int .u64 0, .int .u64 0, .int .u64 0, .int .u64 0, .int .u64 0, .int .u64 0, .int .u64 0, .int .u64 0, .int .u64 0, .int .u64 0, .int .u64 0] 31)
  have r5 := (Row.new (w.alloc (.cells (phL ps).toArray 31)) 31 (phL qs)).alloc (.cells #[.int .u64 0, .int .u64 0, .int .u64 0, .int .u64 0, .int .u64 0, .int .u64 0, .int .u64 0, .int .u64 0, .int .u64 0, .int .u64 0, .int .u64 0, .int .u64 0, .int .u64 0, .int .u64 0, .int .u64 0, .int .u64 0] 31)
  have r6 := (Row.new ((w.alloc (.cells (phL ps).toArray 31)).alloc (.cells (phL qs).toArray 31)) 31 [.int .u64 0, .int .u64 0, .int .u64 0, .int .u64 0, .int .u64 0, .int .u64 0, .int .u64 0, .int .u64 0, .int .u64 0, .int .u64 0, .int .u64 0, .int .u64 0, .int .u64 0, .int .u64 0, .int .u64 0, .int .u64 0]).zeros
  have hB : Below w.heap.size w (((w.alloc (.cells (phL ps).toArray 31)).alloc (.cells (phL qs).toArray 31)).alloc (.cells #[.int .u64 0, .int .u64 0, .int .u64 0, .int .u64 0, .int .u64 0, .int .u64 0, .int .u64 0, .int .u64 0, .int .u64 0, .int .u64 0, .int .u64 0, .int .u64 0, .int .u64 0, .int .u64 0, .int .u64 0, .int .u64 0] 31)) := (((Below.refl _ _).alloc (Nat.le_refl _) _).alloc (by simp) _).alloc (by simp; omega) _
  simp only [World.size_alloc] at r5 r6
  have hS := h.below hB h.1
  have hlB := h.1
  have hi := Try.infoPhoto
  have HN := hid hn
  have HVp := hid (fun (W : World) (hS : Stk W b zs) => specValidPhoto_any b n cap zs ps W hS hn)
  have HVq := hid (fun (W : World) (hS : Stk W b zs) => specValidPhoto_any b n cap zs qs W hS hn)
  clear h
  cases hp : okPh zs ps with
  | false =>
    rw [hp] at HVp
    rw [joinR_no1 hp]
    clear hp hn
    go_enter Try.func36, Try.ntmps36
    have HR4 := hid r4
    go_wp2_with ((with_reducible refine wpList_load_row rfl 31 _ rfl w.heap.size ?_ 31 (phL ps).toArray (0, 0) _ ?_ Try.underlying31 ?_ ?_ ?_); rfl; exact HR4.out; rfl; (rw [sz16]; exact hi))
    clear HR4
    with_reducible refine (HVp.out _ hS).mono ?_
    rintro e W1 ⟨rfl, hC⟩
    replace r4 := r4.below hC r4.lt
    replace r5 := r5.below hC r5.lt
    replace r6 := r6.below hC r6.lt
    replace hS := hS.below hC hS.1
    replace hB := hB.trans (hC.mono hB.size)
    clear hC
    have R1 := hid (r6.setCells (ys := phL []) rfl)
    have T1 := r6.there 16 rfl
    have SB := hid (below_setCells (phL []) 0 _ hB (g := w.heap.size + 1 + 1) (by omega))
    clear r4 r5 r6 hS hB
    go_wp2_with ((with_reducible refine wpList_store_mid rfl 31 _ _ rfl (w.heap.size + 1 + 1) 0 (phL []).toArray ?_ ?_ ?_ ?_ (all_oneCell_toArray (phL_one _)) ?_); rfl; rfl; (rw [sz16]; exact T1); (rw [sz16]; exact hi))
    exact bodyPost_ret (v := .tuple #[.agg (phL []).toArray, .int .i64 1]) (results_cell_slot (p := 6) (q := 7) (fn := Try.f36) rfl _ _ _ _ _ (0, 0) _ _ rfl rfl R1.out Try.underlying31 rfl (by rw [sz16]; exact hi)) rfl ⟨rfl, SB.out⟩
  | true =>
    rw [hp] at HVp
    cases hq : okPh zs qs with
    | false =>
      rw [hq] at HVq
      rw [joinR_no2 hq]
      clear hp hq hn
      go_enter Try.func36, Try.ntmps36
      have HR4 := hid r4
      go_wp2_with ((with_reducible refine wpList_load_row rfl 31 _ rfl w.heap.size ?_ 31 (phL ps).toArray (0, 0) _ ?_ Try.underlying31 ?_ ?_ ?_); rfl; exact HR4.out; rfl; (rw [sz16]; exact hi))
      clear HR4
      with_reducible refine (HVp.out _ hS).mono ?_
      rintro e W1 ⟨rfl, hC⟩
      replace r4 := r4.below hC r4.lt
      replace r5 := r5.below hC r5.lt
      replace r6 := r6.below hC r6.lt
      replace hS := hS.below hC hS.1
      replace hB := hB.trans (hC.mono hB.size)
      clear hC
      have HR5 := hid r5
      go_wp2_with ((with_reducible refine wpList_load_rowG ?_ 31 _ rfl (w.heap.size + 1) ?_ 31 (phL qs).toArray (0, 0) _ ?_ Try.underlying31 ?_ ?_ ?_); rfl; rfl; exact HR5.out; rfl; (rw [sz16]; exact hi))
      clear HR5
      with_reducible refine (HVq.out _ hS).mono ?_
      rintro e W2 ⟨rfl, hC⟩
      replace r4 := r4.below hC r4.lt
      replace r5 := r5.below hC r5.lt
      replace r6 := r6.below hC r6.lt
      replace hS := hS.below hC hS.1
      replace hB := hB.trans (hC.mono hB.size)
      clear hC
      have R1 := hid (r6.setCells (ys := phL []) rfl)
      have T1 := r6.there 16 rfl
      have SB := hid (below_setCells (phL []) 0 _ hB (g := w.heap.size + 1 + 1) (by omega))
      clear r4 r5 r6 hS hB
      go_wp2_with ((with_reducible refine wpList_store_mid rfl 31 _ _ rfl (w.heap.size + 1 + 1) 0 (phL []).toArray ?_ ?_ ?_ ?_ (all_oneCell_toArray (phL_one _)) ?_); rfl; rfl; (rw [sz16]; exact T1); (rw [sz16]; exact hi))
      exact bodyPost_ret (v := .tuple #[.agg (phL []).toArray, .int .i64 1]) (results_cell_slot (p := 6) (q := 7) (fn := Try.f36) rfl _ _ _ _ _ (0, 0) _ _ rfl rfl R1.out Try.underlying31 rfl (by rw [sz16]; exact hi)) rfl ⟨rfl, SB.out⟩
    | true =>
      rw [hq] at HVq
      rw [joinR_yes hp hq]
      have hv := okPh_ok hp
      have hZp := hid (okPh_high hp)
      have hZq := hid (okPh_high hq)
      have hl8 := (okL_in hv).1
      rw [← hn] at hl8
      have HV := hid hv
      clear hp hq hn hv
      go_enter Try.func36, Try.ntmps36
      have HR4 := hid r4
      go_wp2_with ((with_reducible refine wpList_load_row rfl 31 _ rfl w.heap.size ?_ 31 (phL ps).toArray (0, 0) _ ?_ Try.underlying31 ?_ ?_ ?_); rfl; exact HR4.out; rfl; (rw [sz16]; exact hi))
      clear HR4
      with_reducible refine (HVp.out _ hS).mono ?_
      rintro e W1 ⟨rfl, hC⟩
      replace r4 := r4.below hC r4.lt
      replace r5 := r5.below hC r5.lt
      replace r6 := r6.below hC r6.lt
      replace hS := hS.below hC hS.1
      replace hB := hB.trans (hC.mono hB.size)
      clear hC
      have HR5 := hid r5
      go_wp2_with ((with_reducible refine wpList_load_rowG ?_ 31 _ rfl (w.heap.size + 1) ?_ 31 (phL qs).toArray (0, 0) _ ?_ Try.underlying31 ?_ ?_ ?_); rfl; rfl; exact HR5.out; rfl; (rw [sz16]; exact hi))
      clear HR5
      with_reducible refine (HVq.out _ hS).mono ?_
      rintro e W2 ⟨rfl, hC⟩
      replace r4 := r4.below hC r4.lt
      replace r5 := r5.below hC r5.lt
      replace r6 := r6.below hC r6.lt
      replace hS := hS.below hC hS.1
      replace hB := hB.trans (hC.mono hB.size)
      clear hC
      go_wp2_with fail
      go_loopw [8] (fun i wr => ∃ k : Nat, k ≤ n ∧ i = .int .i64 k ∧ Row wr w.heap.size 31 (mix (orP ps qs) ps k) ∧ Row wr (w.heap.size + 1) 31 (phL qs) ∧ Row wr (w.heap.size + 1 + 1) 31 (phL []) ∧ Stk wr b zs ∧ Below w.heap.size w wr) (fun i _ => n - (intOf i).toNat)
      case atStart => exact ⟨0, Nat.zero_le _, rfl, by rw [mix_zero]; exact r4, r5, r6, hS, hB⟩
      case round =>
        clear r4 r5 r6 hS hB
        obtain ⟨k, hk, rfl, r4, r5, r6, hS, hB⟩ := hrel
        by_cases hlt : k < n
        · obtain ⟨x, hx⟩ : ∃ x, x = pa ps k := ⟨_, rfl⟩
          obtain ⟨y, hy⟩ : ∃ y, y = pb ps k := ⟨_, rfl⟩
          obtain ⟨u, hu⟩ : ∃ u, u = pa qs k := ⟨_, rfl⟩
          obtain ⟨v, hv⟩ : ∃ v, v = pb qs k := ⟨_, rfl⟩
          obtain ⟨q1, q2⟩ := mix_at (orP ps qs) ps k k (by omega) (Nat.le_refl _)
          obtain ⟨q3, q4⟩ := phL_at qs k (by omega)
          have hP := join_at ps qs k (by omega)
          rw [← hx, ← hy, ← hu, ← hv] at hP
          rw [← hx] at q1
          rw [← hy] at q2
          rw [← hu] at q3
          rw [← hv] at q4
          have c1 := (r4.cell (k * 2)).trans q1
          have c2 := (r4.cell (k * 2 + 1)).trans q2
          have y1 := (r5.cell (k * 2)).trans q3
          have y2 := (r5.cell (k * 2 + 1)).trans q4
          have f1 := r4.frozen (k * 2)
          have f2 := r4.frozen (k * 2 + 1)
          have S4 := (r4.set (k * 2) (.int .u64 (pa (orP ps qs) k))).set (k * 2 + 1) (.int .u64 (pb (orP ps qs) k))
          rw [mix_set (orP ps qs) ps k (by omega), hP.1, hP.2] at S4
          have S5 := (r5.other (a := ⟨w.heap.size, k * 2, none⟩) (by simp) (.int .u64 (bits .or .u64 x u))).other (a := ⟨w.heap.size, k * 2 + 1, none⟩) (by simp) (.int .u64 (bits .or .u64 y v))
          have S6 := (r6.other (a := ⟨w.heap.size, k * 2, none⟩) (by simp; omega) (.int .u64 (bits .or .u64 x u))).other (a := ⟨w.heap.size, k * 2 + 1, none⟩) (by simp; omega) (.int .u64 (bits .or .u64 y v))
          have hlb := hlB
          have hBx : Below w.heap.size wr ((wr.setCell ⟨w.heap.size, k * 2, none⟩ (.int .u64 (bits .or .u64 x u))).setCell ⟨w.heap.size, k * 2 + 1, none⟩ (.int .u64 (bits .or .u64 y v))) := ((Below.refl _ _).setCell (p := ⟨w.heap.size, k * 2, none⟩) (by simp) _).setCell (p := ⟨w.heap.size, k * 2 + 1, none⟩) (by simp) _
          have SS := hS.below hBx hlb
          have SB := hB.trans hBx
          have hk0 : (0 : Int) ≤ (k : Int) := by omega
          have hk8 : (k : Int) < 8 := by omega
          have hlt0 : (k : Int) < (n : Int) := by omega
          clear hx hy hu hv q1 q2 q3 q4 hP r4 r5 r6 hS hB hBx
          go_wp2_with fail
          go_still_tail 21, (by kernel_rfl)
          change wpList _ _ _ _ _ wr.drew
          have c1' : wr.drew.cell? ⟨w.heap.size, k * 2, none⟩ = _ := c1
          have c2' : wr.drew.cell? ⟨w.heap.size, k * 2 + 1, none⟩ = _ := c2
          have f1' : wr.drew.frozen? ⟨w.heap.size, k * 2, none⟩ = _ := f1
          have f2' : wr.drew.frozen? ⟨w.heap.size, k * 2 + 1, none⟩ = _ := f2
          go_wp2_with fail
          go_roundw
          case rel => exact ⟨k + 1, by omega, by go_num, S4.below ((Below.refl _ _).drew) S4.lt, S5, S6, SS, SB.drew⟩
          case measure => simp [intOf]; omega
        · obtain rfl : n = k := by omega
          rw [mix_end8 _ _ n (fun j hj8 hj => by
            rw [HN.out] at hj
            have e := join_at ps qs j hj8
            have a := hZp.out j hj8 hj
            have c := hZq.out j hj8 hj
            rw [e.1, e.2, a.1, a.2, c.1, c.2, or_zero0]
            exact ⟨rfl, rfl⟩)] at r4
          have R1 := hid (r6.setCells (ys := (phL (orP ps qs))) rfl)
          have T1 := r6.there 16 rfl
          have SB := hid (below_setCells (phL (orP ps qs)) 0 _ hB (g := w.heap.size + 1 + 1) (by omega))
          have HR4 := hid r4
          clear r4 r5 r6 hS hB
          go_wp2_with (first | ((with_reducible refine wpList_store_mid rfl 31 _ _ rfl (w.heap.size + 1 + 1) 0 (phL (orP ps qs)).toArray ?_ ?_ ?_ ?_ (all_oneCell_toArray (phL_one _)) ?_); rfl; rfl; (rw [sz16]; exact T1); (rw [sz16]; exact hi)) | ((with_reducible refine wpList_load_row rfl 31 _ rfl w.heap.size ?_ 31 (phL (orP ps qs)).toArray (0, 0) _ ?_ Try.underlying31 ?_ ?_ ?_); rfl; exact HR4.out; rfl; (rw [sz16]; exact hi)))
          exact bodyPost_ret (v := .tuple #[.agg (phL (orP ps qs)).toArray, .int .i64 0]) (results_cell_slot (p := 6) (q := 7) (fn := Try.f36) rfl _ _ _ _ _ (0, 0) _ _ rfl rfl R1.out Try.underlying31 rfl (by rw [sz16]; exact hi)) rfl ⟨rfl, SB.out⟩
end Go.Proofs.Ytgfdfnlbkljgeaa
