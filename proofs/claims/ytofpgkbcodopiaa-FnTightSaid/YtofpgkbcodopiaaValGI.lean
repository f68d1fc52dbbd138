/- Which logs are valid; the program's. -/
import Derived.Test.YtofpgkbcodopiaaMgP
import Derived.Test.YtofpgkbcodopiaaValGM
namespace Go.Proofs.Ytofpgkbcodopiaa
open Go.RowKit Go.Shelf
attribute [local go_sem] Oper.semAt_some
set_option maxRecDepth 100000 in
set_option maxHeartbeats 4000000 in
theorem implValidLog_any (bS nS capS : Nat) (zs : List Int) (hnS : nS = zs.length) (b n cap : Nat) (js : List (Int × Int)) (hn : n = js.length) (w : World) (hS : Stk w bS zs) (hR : Rst w b js) :
    Calls Try.prog 18 #[.slice (some ⟨bS, 0, none⟩) nS capS, .slice (some ⟨b, 0, none⟩) n cap] w (GivesB w (.bool (okG zs js))) := by
  have hle := hR.2.2
  rw [← hn] at hle
  have hC := hid hR.2.1
  have hbl := hR.1
  have hbs := hS.1
  have HS := hid hS
  have hN := hid hn
  have RB := hid (Row.new w 4 [.bool false])
  have BE := hid (show Below w.heap.size w (w.alloc (.cells #[.bool false] 4)) from (Below.refl _ w).alloc (Nat.le_refl _) _)
  have HV := hid (validStack_any bS nS capS zs _ (hS.below BE.out hS.1) hnS)
  clear hS hR hn
  have hm : 1 ≤ 8 := by omega
  have g1 : Fence.wide.fn 46 := trivial
  have g2 : Fence.wide.fn 47 := trivial
  have g3 : Fence.wide.fn 19 := trivial
  have g4 : Fence.wide.fn 21 := trivial
  refine (callsIn_wide (n := 8)).1 ?_
  cases hv : okL zs with
  | false =>
    rw [okG_stack hv]
    rw [hv] at HV
    clear hv hnS
    have c0 := RB.out.cell 0
    have f0 := RB.out.frozen 0
    simp only [List.getElem?_cons_zero] at c0
    refine callsIn_of_wp_marks Try.func18 rfl trivial ?_ rfl
    simp only [Try.ntmps18, List.size_toArray, List.length_cons, List.length_nil, Nat.reduceAdd, Nat.reduceSub, Array.replicate_succ, Array.replicate_zero, List.push_toArray, List.append_toArray, List.nil_append, List.cons_append]
    gi_wp2_with (gi_at_call 46; refine (callsIn_wide.2 HV.out).mono ?_; rintro e w' ⟨rfl, rfl⟩)
    exact ⟨.bool false, by simp [results, Try.f18, go_sem, c0], rfl, BE.out⟩
  | true =>
    rw [hv] at HV
    by_cases h40 : 40 < n
    · rw [okG_long (by rw [← hN.out]; exact h40)]
      have hg : (40 : Int) < (n : Int) := by omega
      clear hv hnS
      have c0 := RB.out.cell 0
      have f0 := RB.out.frozen 0
      simp only [List.getElem?_cons_zero] at c0
      refine callsIn_of_wp_marks Try.func18 rfl trivial ?_ rfl
      simp only [Try.ntmps18, List.size_toArray, List.length_cons, List.length_nil, Nat.reduceAdd, Nat.reduceSub, Array.replicate_succ, Array.replicate_zero, List.push_toArray, List.append_toArray, List.nil_append, List.cons_append]
      gi_wp2_with (gi_at_call 46; refine (callsIn_wide.2 HV.out).mono ?_; rintro e w' ⟨rfl, rfl⟩)
      exact ⟨.bool false, by simp [results, Try.f18, go_sem, c0], rfl, BE.out⟩
    have hg : (n : Int) ≤ 40 := by omega
    have HR := hid (fun d x w hS => hasReading_any bS nS capS zs hnS hv d x w hS)
    have HVV := hid hv
    clear hv hnS
    refine callsIn_of_wp_marks Try.func18 rfl trivial ?_ rfl
    simp only [Try.ntmps18, List.size_toArray, List.length_cons, List.length_nil, Nat.reduceAdd, Nat.reduceSub, Array.replicate_succ, Array.replicate_zero, List.push_toArray, List.append_toArray, List.nil_append, List.cons_append]
    gi_wp2_with (gi_at_call 46; refine (callsIn_wide.2 HV.out).mono ?_; rintro e w' ⟨rfl, rfl⟩)
    gi_loopw [19] (fun i wr => ∃ k : Nat, k ≤ n ∧ i = .int .i64 k ∧ rdTo zs js k ∧ Row wr w.heap.size 4 [.bool false] ∧ Below w.heap.size w wr) (fun i _ => n - (intOf i).toNat)
    case atStart => exact ⟨0, Nat.zero_le _, rfl, fun j hj => by omega, RB.out, BE.out⟩
    case round =>
      obtain ⟨k, hk, rfl, hrd, hrow, hB⟩ := hrel
      have HT := hid hrd
      have hzr := hB.size
      have hl0 := hrow.lt
      have RW := hid hrow
      clear hrd hrow
      by_cases hlt : k < n
      · have hlt' : (k : Int) < (n : Int) := by omega
        have hk0 : (0 : Int) ≤ (k : Int) := by omega
        have cc := hC.out k (by rw [← hN.out]; exact hlt)
        have x0 := (hB.cell (p := ⟨b, k * 2, none⟩) hbl).trans cc.1
        have x1 := (hB.cell (p := ⟨b, k * 2 + 1, none⟩) hbl).trans cc.2
        have HO := hid (okG_rd (zs := zs) (js := js) k (by rw [← hN.out]; exact hlt))
        have HT2 := hid (fun e => rdTo_succ (k := k) HT.out e)
        have HRk := hid (fun W (h : Below wr.heap.size wr W) => HR.out (rd js k) (rv js k) W ((HS.out.below hB hbs).below h (Nat.lt_of_lt_of_le hbs hzr)))
        have lb : b < wr.heap.size := Nat.lt_of_lt_of_le hbl hzr
        obtain ⟨r, hr⟩ : ∃ r, okRd (szL zs) (rd js k) (rv js k) = r := ⟨_, rfl⟩
        rw [hr] at HO HT2 HRk
        obtain ⟨x, hx⟩ : ∃ x, rd js k = x := ⟨_, rfl⟩
        obtain ⟨y, hy⟩ : ∃ y, rv js k = y := ⟨_, rfl⟩
        rw [hx] at x0 HRk
        rw [hy] at x1 HRk
        clear cc hx hy hr
        have bA := hid (show Below wr.heap.size wr (wr.alloc (.cells #[.int .i64 x, .int .i64 y] 38)) from box2_bel wr _ _ _)
        cases r
        · gi_wp2_with (gi_at_call 47; refine (callsIn_wide.2 (HRk.out _ bA.out)).mono ?_; rintro e w1 ⟨rfl, hB1⟩; have hz1 := hB1.size; simp only [World.size_alloc] at hB1 hz1; have r1 := (RW.out.alloc (.cells #[.int .i64 x, .int .i64 y] 38)).below hB1 (by omega); have c1 := r1.cell 0; have f1 := r1.frozen 0; simp only [List.getElem?_cons_zero] at c1)
          have rs := r1.set 0 (.bool false)
          have c2 := rs.cell 0
          simp only [List.set_cons_zero, List.getElem?_cons_zero] at c2
          exact ⟨.bool false, by simp [results, Try.f18, go_sem, c2], by rw [HO.out (by simp)], (hB.trans ((bA.out.mono hzr).trans (hB1.mono (by omega)))).setCell (p := ⟨w.heap.size, 0, none⟩) (Nat.le_refl _) _⟩
        · gi_wp2_with (gi_at_call 47; refine (callsIn_wide.2 (HRk.out _ bA.out)).mono ?_; rintro e w1 ⟨rfl, hB1⟩; have hz1 := hB1.size; simp only [World.size_alloc] at hB1 hz1; have r1 := (RW.out.alloc (.cells #[.int .i64 x, .int .i64 y] 38)).below hB1 (by omega))
          go_roundw
          case rel => exact ⟨k + 1, by omega, by go_num, HT2.out (by simp), r1, hB.trans ((bA.out.mono hzr).trans (hB1.mono (by omega)))⟩
          case measure => simp [intOf]; omega
      · obtain rfl : k = n := by omega
        gi_wp2_with (gi_at_call 19; refine (itv_in Fence.wide _ trivial rfl _ _ _ _).mono ?_; rintro e w' ⟨rfl, rfl⟩)
        have qB := Row.new wr 25 [.slice (some ⟨b, 0, none⟩) k cap]
        have rV := RW.out.alloc (.cells #[.slice (some ⟨b, 0, none⟩) k cap] 25)
        have bV : Below w.heap.size w (wr.alloc (.cells #[.slice (some ⟨b, 0, none⟩) k cap] 25)) := hB.alloc hzr _
        have sV : (wr.alloc (.cells #[.slice (some ⟨b, 0, none⟩) k cap] 25)).heap.size = wr.heap.size + 1 := by simp
        obtain ⟨V, hV⟩ : ∃ V, V = wr.alloc (.cells #[.slice (some ⟨b, 0, none⟩) k cap] 25) := ⟨_, rfl⟩
        rw [← hV] at qB rV bV sV ⊢
        clear hV
        have cB := qB.cell 0
        simp only [List.getElem?_cons_zero] at cB
        have hsl : ∀ g, g = b ∨ g = wr.heap.size → g < V.heap.size := fun g hg => by rcases hg with rfl | rfl <;> omega
        have hcV : ∀ j, j < k → V.cell? ⟨b, j * 2, none⟩ = some (.int .i64 (rd js j)) ∧ V.cell? ⟨b, j * 2 + 1, none⟩ = some (.int .i64 (rv js j)) := fun j hj =>
          ⟨(bV.cell (p := ⟨b, j * 2, none⟩) hbl).trans (hC.out j (by rw [← hN.out]; exact hj)).1, (bV.cell (p := ⟨b, j * 2 + 1, none⟩) hbl).trans (hC.out j (by rw [← hN.out]; exact hj)).2⟩
        have HSL := hid hsl
        have HRV := hid rV
        have HBV := hid bV
        clear hsl rV qB
        refine wpIn_rangeFunc_ownH rfl hm (gf := 48) (lb := #[.pointer (some ⟨wr.heap.size, 0, none⟩)]) rfl trivial (enters_of Try.func48 (by kernel_rfl) rfl)
          (itv_stops Fence.wide 7 trivial rfl (by omega) wr.heap.size b k cap js hN.out hle V (by omega) (by omega) cB hcV) KeepB.trans (keepB_b HSL.out) (Below.refl _ _) (fun _ => rfl)
          (fun pre W => (∀ x ∈ pre, rd js x.1 < rd js (x.1 + 1)) ∧ Below V.heap.size V W)
          (fun c pre W => (c = .ret ∧ (∃ j, j + 1 < k ∧ rd js (j + 1) ≤ rd js j) ∧ Row W w.heap.size 4 [.bool false]) ∧ Below w.heap.size w W)
          (OwnFrom.and (Own.from (fun s A B row hs hg hr => hs) _) (ownFrom_below (Nat.le_refl _) (Nat.le_refl _)))
          (fun c => OwnFrom.and (Own.from (fun s A B row hs hg hr => ⟨hs.1, hs.2.1, row_kept hs.2.2 hg hr⟩) _) (ownFrom_below (Nat.le_refl _) (by omega)))
          ⟨by simp, Below.refl _ _⟩
          (fun x a' W => ∃ g, a' = { tmps := #[.slice (some ⟨bS, 0, none⟩) nS capS, .slice (some ⟨b, 0, none⟩) k cap, undef, undef, .pointer (some ⟨w.heap.size, 0, none⟩), undef, u6, undef, .pointer (some ⟨g, 0, none⟩), .slice (some ⟨bS, 0, none⟩) nS capS, .bool true, .bool false, .bool false, .slice (some ⟨b, 0, none⟩) k cap, .int .i64 (k : Int), .bool (decide ((40 : Int) < (k : Int))), .bool (decide ((40 : Int) < (k : Int))), .slice (some ⟨b, 0, none⟩) k cap, .int .i64 (k : Int), .int .i64 (k : Int), .bool false, u21, u22, u23, u24, u25, u26, u27, .slice (some ⟨b, 0, none⟩) k cap, .func (.func 48) #[] #[.pointer (some ⟨wr.heap.size, 0, none⟩)], .int .i64 ((x.1 : Int) + 1), .agg #[.int .i64 (rd js x.1), .int .i64 (rv js x.1), .int .i64 (rd js (x.1 + 1)), .int .i64 (rv js (x.1 + 1))], undef, undef, undef], defers := [] } ∧ Row W g 56 [.int .i64 (rd js x.1), .int .i64 (rv js x.1), .int .i64 (rd js (x.1 + 1)), .int .i64 (rv js (x.1 + 1))])
          (fun x a' => Own.from (fun s A B row hs hg hr => by obtain ⟨g, e, h⟩ := hs; exact ⟨g, e, row_kept h hg hr⟩) _) ?assign ?body ?done ?stop
        case assign =>
          intro l pre x W K hI hK
          have hzI := hI.2.size
          have hAA := hK _ (W.alloc (.cells #[.int .i64 (rd js x.1), .int .i64 (rv js x.1), .int .i64 (rd js (x.1 + 1)), .int .i64 (rv js (x.1 + 1))] 56)) ((KeepsOthers.alloc W _).from _) (keepB_of (box4_bel W _ _ _ _ _) (fun g hg => Nat.lt_of_lt_of_le (HSL.out g hg) hzI)) ⟨hI.1, hI.2.trans ((box4_bel W _ _ _ _ _).mono hzI)⟩ ⟨W.heap.size, rfl, Row.new W _ _⟩
          clear hK
          simp only [itvA]
          gi_wp2
          exact hAA
        case body =>
          rintro l pre x a' W _ _ ⟨hup, hB5⟩ ⟨g, rfl, hrow⟩ _
          have hx := x.2
          have g5 : (Fence.wide.inRound l).fn 21 := trivial
          have o1 := okRd_out (HT.out x.1 (by omega))
          have o2 := okRd_out (HT.out (x.1 + 1) (by omega))
          have hz5 := hB5.size
          have hDD := hid (fun W => days_any (rd js x.1) (rv js x.1) (rd js (x.1 + 1)) (rv js (x.1 + 1)) (by omega) W)
          have HUP := hid hup
          have hxn : x.1 + 1 < k := by omega
          have RX := hid (HRV.out.below hB5 (Nat.lt_of_lt_of_le hl0 (by omega)))
          obtain ⟨p, hp⟩ : ∃ p, rd js x.1 = p := ⟨_, rfl⟩
          obtain ⟨q, hq⟩ : ∃ p, rv js x.1 = p := ⟨_, rfl⟩
          obtain ⟨u, hu⟩ : ∃ p, rd js (x.1 + 1) = p := ⟨_, rfl⟩
          obtain ⟨v, hv⟩ : ∃ p, rv js (x.1 + 1) = p := ⟨_, rfl⟩
          rw [hp, hq, hu, hv] at hDD hrow
          rw [hp, hq] at o1
          rw [hu, hv] at o2
          rw [hp, hq, hu, hv]
          have HPU := hid (And.intro hp hu)
          have c0 := hrow.cell 0
          have c1 := hrow.cell 1
          have c2 := hrow.cell 2
          have c3 := hrow.cell 3
          simp only [List.getElem?_cons_zero, List.getElem?_cons_succ] at c0 c1 c2 c3
          clear hp hq hu hv hup hrow
          by_cases hc : u ≤ p
          · have hd : u - p < 1 := by omega
            gi_wp2_with (gi_at_call 21; refine (CallsIn.inRound l (callsIn_wide.2 (hDD.out _))).mono ?_; rintro e w6 ⟨rfl, hB6⟩; have r6 := RX.out.below hB6 (RX.out.lt); have c6 := r6.cell 0; have f6 := r6.frozen 0; simp only [List.getElem?_cons_zero] at c6)
            exact ⟨((keepsOthers_of hB6).trans (KeepsOthers.setCell _ _ _)).from _, ⟨rfl, ⟨x.1, hxn, by rw [HPU.out.1, HPU.out.2]; exact hc⟩, r6.set 0 (.bool false)⟩, ((HBV.out.trans (hB5.mono (by omega))).trans (hB6.mono (by omega))).setCell (p := ⟨w.heap.size, 0, none⟩) (Nat.le_refl _) _⟩
          · have hd : ¬ u - p < 1 := by omega
            have hd2 : 1 ≤ u - p := by omega
            gi_wp2_with (gi_at_call 21; refine (CallsIn.inRound l (callsIn_wide.2 (hDD.out _))).mono ?_; rintro e w6 ⟨rfl, hB6⟩)
            exact ⟨(keepsOthers_of hB6).from _, keepB_of hB6 (fun g hg => Nat.lt_of_lt_of_le (HSL.out g hg) hz5), ⟨fun y hy => (List.mem_append.1 hy).elim (HUP.out y) (fun e => by simp at e; subst e; rw [HPU.out.1, HPU.out.2]; omega), hB5.trans (hB6.mono hz5)⟩⟩
        case done =>
          rintro D ys W hD rfl ⟨hup, hB5⟩ hK
          have hz5 := hB5.size
          have rW := HRV.out.below hB5 (Nat.lt_of_lt_of_le hl0 (by omega))
          have cW := rW.cell 0
          have fW := rW.frozen 0
          simp only [List.getElem?_cons_zero] at cW
          have hK2 : (W.setCell ⟨w.heap.size, 0, none⟩ (.bool true)).heap[D]? = some (.deferred (some [])) := (Below.heap_setCell W ⟨w.heap.size, 0, none⟩ (.bool true) D (fun e => by simp at e; omega)).trans hK
          have rF := row_kept (rW.set 0 (.bool true)) (grownBy_putObj' _ D (.deferred none)) (fun r e => by cases e; exact ⟨_, hK2, rfl⟩)
          have cF := rF.cell 0
          simp only [List.set_cons_zero, List.getElem?_cons_zero] at cF
          have HG := hid (okG_yes HVV.out (by rw [← hN.out]; omega) (by rw [← hN.out]; exact HT.out) (fun j hj => hup ⟨j, by have := hN.out; omega⟩ (List.mem_finRange _)))
          have bF := hid ((HBV.out.trans (hB5.mono (by omega))).setCell (p := ⟨w.heap.size, 0, none⟩) (Nat.le_refl _) (.bool true))
          clear hup rW rF
          gi_wp2
          refine ⟨by simp, .inl ⟨_, _, rfl, run_takeDeferred hK2, ?_⟩⟩
          exact ⟨.bool true, by simp [results, Try.f18, go_sem, cF], by rw [HG.out], bF.out.trans (belowK_b (w := w) (Nat.le_refl _) _ D _ _ (by omega) hK2 rfl rfl)⟩
        case stop =>
          rintro D c pre W hD ⟨j, hj, rfl⟩ ⟨⟨rfl, ⟨q, hq1, hq2⟩, hrow⟩, hB5⟩ hK
          have rF := row_kept hrow (grownBy_putObj' _ D (.deferred none)) (fun r e => by cases e; exact ⟨_, hK, rfl⟩)
          have cF := rF.cell 0
          simp only [List.getElem?_cons_zero] at cF
          gi_wp2
          refine ⟨by simp, .inl ⟨_, _, rfl, run_takeDeferred hK, ?_⟩⟩
          exact ⟨.bool false, by simp [results, Try.f18, go_sem, cF], by rw [okG_up q (by rw [← hN.out]; exact hq1) hq2], hB5.trans (belowK_b (w := w) (Nat.le_refl _) _ D _ _ (by omega) hK rfl rfl)⟩
end Go.Proofs.Ytofpgkbcodopiaa
