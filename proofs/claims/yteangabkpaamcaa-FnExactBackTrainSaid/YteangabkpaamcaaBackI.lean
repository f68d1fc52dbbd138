/- BackTrain, the program's. -/
import Derived.Test.YteangabkpaamcaaBackw
import Derived.Test.YteangabkpaamcaaValT
namespace Go.Proofs.Yteangabkpaamcaa
open Go.RowKit Go.Shelf
set_option linter.unusedSimpArgs false
attribute [local go_sem] Oper.semAt_some
theorem owns_belowP {w w' : World} {base size n : Nat} {e : TypeId} {v : Value} {xs : List Value} (h : w.ownsRow base e size v n xs) (hb : Below w.heap.size w w') : w'.ownsRow base e size v n xs := by
  refine ⟨h.1, ?_⟩
  rcases h.2 with h0 | ⟨g, cap, cur, h1, h2, h3, h4⟩
  · exact .inl h0
  · exact .inr ⟨g, cap, cur, h1, h2, (hb.block g (lt_of_block h3)).trans h3, h4⟩
def bkL {n : Nat} (js : List (Int × Int)) (pre : List (Fin n)) : List (Int × Int) := pre.map fun x => (pn js (n - 1 - x.1), pd js (n - 1 - x.1))
theorem bkL_all (js : List (Int × Int)) (n : Nat) (hn : n = js.length) : bkL js (List.finRange n) = backL js n := by
  subst hn
  apply List.ext_getElem?
  intro i
  simp only [bkL, backL, List.getElem?_map]
  by_cases h : i < js.length
  · simp [h]
  · simp [h]
def backT (js : List (Int × Int)) : List (Int × Int) × Int := if okT js then (backL js js.length, 0) else ([], 1)
theorem backT_no {js : List (Int × Int)} (h : okT js = false) : backT js = ([], 1) := by simp [backT, h]
theorem backT_yes {js : List (Int × Int)} (h : okT js = true) : backT js = (backL js js.length, 0) := by simp [backT, h]
/-- a train in memory of its own, and a code -/
def TrainR (w : World) (r : List (Int × Int) × Int) (e : Ending) (w' : World) : Prop := ∃ v, e = .returned (.tuple #[v, .int .i64 r.2]) ∧ OwnP w' w.heap.size v r.1 ∧ Below w.heap.size w w'
set_option maxRecDepth 100000 in
set_option maxHeartbeats 4000000 in
theorem implBackT_any (b n cap : Nat) (js : List (Int × Int)) (hn : n = js.length) (hbd : Bd16 js) (w : World) (hS : Pst w b js) :
    Calls Try.prog 14 #[.slice (some ⟨b, 0, none⟩) n cap] w (TrainR w (backT js)) := by
  obtain ⟨i0, hi, iz0, iz1, iz2⟩ := info_parts Try.infoPair
  have hle := hS.2.2
  rw [← hn] at hle
  have HV := hid (implValidTrain_any b n cap js w hS hn hbd)
  have hC := hid hS.2.1
  have hbl := hS.1
  have hm : 1 ≤ 8 := by omega
  have g1 : Fence.wide.fn 32 := trivial
  have g3 : Fence.wide.fn 33 := trivial
  clear hS hbd
  refine (callsIn_wide (n := 8)).1 ?_
  cases hv : okT js with
  | false =>
    rw [backT_no hv]
    rw [hv] at HV
    clear hv hn
    refine callsIn_of_wp_marks Try.func14 rfl trivial ?_ rfl
    simp only [Try.ntmps14, List.size_toArray, List.length_cons, List.length_nil, Nat.reduceAdd, Nat.reduceSub, Array.replicate_succ, Array.replicate_zero, List.push_toArray, List.append_toArray, List.nil_append, List.cons_append]
    gi_wp2_with (gi_at_call 32; refine (callsIn_wide.2 HV.out).mono ?_; rintro e w1 ⟨rfl, hB1⟩)
    exact ⟨_, results_tmp2 rfl _ _ _, ⟨_, rfl, OwnP.nil _ _ _ _, hB1⟩⟩
  | true =>
    rw [backT_yes hv, ← hn]
    have h4 := (okT_out hv).2.1
    rw [hv] at HV
    have hn4 : n ≤ 4 := by omega
    have hN := hid hn
    clear hv hn h4
    refine callsIn_of_wp_marks Try.func14 rfl trivial ?_ rfl
    simp only [Try.ntmps14, List.size_toArray, List.length_cons, List.length_nil, Nat.reduceAdd, Nat.reduceSub, Array.replicate_succ, Array.replicate_zero, List.push_toArray, List.append_toArray, List.nil_append, List.cons_append]
    gi_wp2_with (first | (gi_at_call 32; refine (callsIn_wide.2 HV.out).mono ?_; rintro e w1 ⟨rfl, hB1⟩) | (gi_at_call 33; refine (bk_in Fence.wide _ trivial rfl _ _ _ _).mono ?_; rintro e w' ⟨rfl, rfl⟩))
    have hz1 := hB1.size
    have qL := Row.new w1 33 [.slice none 0 0]
    have qB := Row.new (w1.alloc (.cells #[.slice none 0 0] 33)) 33 [.slice (some ⟨b, 0, none⟩) n cap]
    simp only [World.size_alloc] at qB
    have qL2 := qL.alloc (.cells #[.slice (some ⟨b, 0, none⟩) n cap] 33)
    have bV : Below w.heap.size w ((w1.alloc (.cells #[.slice none 0 0] 33)).alloc (.cells #[.slice (some ⟨b, 0, none⟩) n cap] 33)) := (hB1.alloc hz1 _).alloc (by simp; omega) _
    have sV : ((w1.alloc (.cells #[.slice none 0 0] 33)).alloc (.cells #[.slice (some ⟨b, 0, none⟩) n cap] 33)).heap.size = w1.heap.size + 1 + 1 := by simp
    obtain ⟨V, hV⟩ : ∃ V, V = (w1.alloc (.cells #[.slice none 0 0] 33)).alloc (.cells #[.slice (some ⟨b, 0, none⟩) n cap] 33) := ⟨_, rfl⟩
    rw [← hV] at qB qL2 bV sV ⊢
    clear hV qL
    have cB := qB.cell 0
    simp only [List.getElem?_cons_zero] at cB
    have hsl : ∀ g, g = b ∨ g = w1.heap.size + 1 → g < V.heap.size := fun g hg => by rcases hg with rfl | rfl <;> omega
    have hcV : ∀ j, j < n → V.cell? ⟨b, j * 2, none⟩ = some (.int .i16 (pd js j)) ∧ V.cell? ⟨b, j * 2 + 1, none⟩ = some (.int .i16 (pn js j)) := fun j hj =>
      ⟨(bV.cell (p := ⟨b, j * 2, none⟩) hbl).trans (hC.out j (by rw [← hN.out]; exact hj)).1, (bV.cell (p := ⟨b, j * 2 + 1, none⟩) hbl).trans (hC.out j (by rw [← hN.out]; exact hj)).2⟩
    have HSL := hid hsl
    have hbs : b < w1.heap.size := Nat.lt_of_lt_of_le hbl hz1
    refine wpIn_rangeFunc_ownH rfl hm (gf := 46) (lb := #[.pointer (some ⟨w1.heap.size + 1, 0, none⟩)]) rfl trivial (enters_of Try.func46 (by kernel_rfl) rfl)
      (bk_stops Fence.wide 7 trivial rfl (by omega) (w1.heap.size + 1) b n cap js hN.out hle V (by omega) (by omega) cB hcV) KeepB.trans (keepB_b HSL.out) (Below.refl _ _) (fun _ => rfl)
      (fun pre W => (∃ v, Row W w1.heap.size 33 [v] ∧ W.ownsRow V.heap.size 54 2 v pre.length (pvals (bkL js pre))) ∧ (Below w.heap.size w W ∧ V.heap.size ≤ W.heap.size))
      (fun _ _ _ => False)
      (OwnFrom.and (Own.from (fun s A B row hs hg hr => by obtain ⟨v, h2, h3⟩ := hs; exact ⟨v, row_kept h2 hg hr, owns_kept h3 hg hr⟩) _) (OwnFrom.and (ownFrom_below (Nat.le_refl _) (by omega)) (fun s A B row hs hg hr => Nat.le_trans hs hg.4)))
      (fun _ _ _ _ _ hs _ _ => hs)
      ⟨⟨.slice none 0 0, qL2, ⟨rfl, .inl ⟨rfl, rfl⟩⟩⟩, bV, Nat.le_refl _⟩
      (fun x a' W => ∃ g, a' = { tmps := #[.slice (some ⟨b, 0, none⟩) n cap, undef, .slice none 0 0, .int .i64 0, .pointer (some ⟨w1.heap.size, 0, none⟩), undef, .pointer (some ⟨g, 0, none⟩), .slice (some ⟨b, 0, none⟩) n cap, .bool true, .bool false, .slice (some ⟨b, 0, none⟩) n cap, .func (.func 46) #[] #[.pointer (some ⟨w1.heap.size + 1, 0, none⟩)], .int .i64 ((n - 1 - x.1 : Nat) : Int), .agg #[.int .i16 (pd js (n - 1 - x.1)), .int .i16 (pn js (n - 1 - x.1))], undef, undef, undef, undef, undef, undef, undef, undef, undef], defers := [] } ∧ Row W g 54 [.int .i16 (pd js (n - 1 - x.1)), .int .i16 (pn js (n - 1 - x.1))])
      (fun x a' => Own.from (fun s A B row hs hg hr => by obtain ⟨g, e, h⟩ := hs; exact ⟨g, e, row_kept h hg hr⟩) _) ?assign ?body ?done ?stop
    case assign =>
      rintro l pre x W K ⟨⟨v, h2, h3⟩, h4, h6⟩ hK
      have bA := box2_bel W 54 (.int .i16 (pd js (n - 1 - x.1))) (.int .i16 (pn js (n - 1 - x.1)))
      have hAA := hK _ (W.alloc (.cells #[.int .i16 (pd js (n - 1 - x.1)), .int .i16 (pn js (n - 1 - x.1))] 54)) ((KeepsOthers.alloc W _).from _) (KeepB.of_below bA (fun g hg => Nat.lt_of_lt_of_le (HSL.out g hg) h6)) ⟨⟨v, h2.alloc _, h3.alloc _⟩, h4.trans (bA.mono h4.size), by simp; omega⟩ ⟨W.heap.size, rfl, Row.new W _ _⟩
      clear hK
      simp only [bkA]
      gi_wp2
      exact hAA
    case body =>
      rintro l pre x a' W _ _ ⟨⟨v, h2, h3⟩, h4, h6⟩ ⟨g, rfl, hrow⟩ hlen
      have hx := x.2
      have HEY := hid (show bkL js (pre ++ [x]) = bkL js pre ++ [(pn js (n - 1 - x.1), pd js (n - 1 - x.1))] by simp [bkL])
      obtain ⟨p, hp⟩ : ∃ z, pd js (n - 1 - x.1) = z := ⟨_, rfl⟩
      obtain ⟨q, hq⟩ : ∃ z, pn js (n - 1 - x.1) = z := ⟨_, rfl⟩
      rw [hp, hq] at hrow HEY
      rw [hp, hq]
      have c0 := hrow.cell 0
      have c1 := hrow.cell 1
      have cL := h2.cell 0
      simp only [List.getElem?_cons_zero, List.getElem?_cons_succ] at c0 c1 cL
      have H2 := hid h2
      have H4 := hid h4
      have lw := h4.size
      obtain ⟨E, hE⟩ : ∃ E, bkL js pre = E := ⟨_, rfl⟩
      rw [hE] at h3 HEY
      have O6 := h3.alloc (.cells #[.int .i16 q, .int .i16 p] 54)
      have news := Row.new W 54 [.int .i16 q, .int .i16 p]
      have n0 := news.cell 0
      have n1 := news.cell 1
      simp only [List.getElem?_cons_zero, List.getElem?_cons_succ] at n0 n1
      have ka2 := h2.alloc (.cells #[.int .i16 q, .int .i16 p] 54)
      clear hp hq hE h2 h3 h4 hrow
      gi_wp2_with (gi_at_builtin; refine wpListIn_append_own _ rfl _ _ 33 rfl V.heap.size 54 i0 (.agg #[.int .i16 0, .int .i16 0]) 2 4 Try.underlying33 hi iz0 iz1 iz2 rfl (by decide) _ _ _ rfl O6 ⟨W.heap.size, 0, none⟩ 1 1 [.int .i16 q, .int .i16 p] rfl rfl (by intro j u hj; match j, hj with | 0, hj => simp at hj; subst hj; simp [Addr.add, n0] | 1, hj => simp at hj; subst hj; simp [Addr.add, n1]) (by intro u hu; simp at hu; rcases hu with rfl | rfl <;> rfl) (by unfold maxLen; omega) (by omega) (by simp; omega) ?_; intro v' w7 hown' hgrow _; obtain ⟨sa, sl, sc, rfl⟩ : ∃ a l c, v' = Value.slice a l c := (by rcases hown'.2 with ⟨h, _⟩ | ⟨g', cap', cur, h, _⟩; exact ⟨_, _, _, h⟩; exact ⟨_, _, _, h⟩); have kb2 := ka2.grown' hgrow (owns_lt O6 (by omega)); have cL7 := kb2.cell 0; have fL7 := kb2.frozen 0; simp only [List.getElem?_cons_zero] at cL7)
      have hz7 := hgrow.size
      simp only [World.size_alloc] at hz7
      have ko : KeepsOthers (W.alloc (.cells #[.int .i16 q, .int .i16 p] 54)) w7 := KeepsOthers.of_grownBy hgrow (fun j o hj ho => by
        rcases O6.2 with ⟨rfl, _⟩ | ⟨g', cap', cur, rfl, q2, q3, _⟩
        · cases hj
        · have : g' = j := Option.some.inj hj
          subst this
          rw [q3] at ho
          cases ho
          rfl)
      have kb : KeepB (fun g => g = b ∨ g = w1.heap.size + 1) W (w7.setCell ⟨w1.heap.size, 0, none⟩ (.slice sa sl sc)) := fun g hg => by
        have hgV := HSL.out g hg
        have e2 : (W.alloc (.cells #[.int .i16 q, .int .i16 p] 54)).heap[g]? = W.heap[g]? := Below.heap_alloc _ _ _ (by omega)
        have e3 := hgrow.block g (by simp; omega) (owns_lt O6 hgV)
        have e4 := Below.heap_setCell w7 ⟨w1.heap.size, 0, none⟩ (.slice sa sl sc) g (by rcases hg with rfl | rfl <;> simp <;> omega)
        rw [e4, e3, e2]
      have bel : Below w.heap.size w (w7.setCell ⟨w1.heap.size, 0, none⟩ (.slice sa sl sc)) := (((H4.out.alloc lw (.cells #[.int .i16 q, .int .i16 p] 54)).grown hgrow (by simp; omega) (fun k e => by have := owns_lt O6 (g := k); by_cases hk : w.heap.size ≤ k; exact hk; exact absurd e.symm (this (by omega))))).setCell (p := ⟨w1.heap.size, 0, none⟩) hz1 _
      exact ⟨(((KeepsOthers.alloc _ _).trans ko).trans (KeepsOthers.setCell _ _ _)).from _, kb, ⟨.slice sa sl sc, kb2.set 0 (.slice sa sl sc), by rw [HEY.out, pvals_snoc, List.length_append]; exact owns_set hown' (by show w1.heap.size < V.heap.size; omega) _⟩, bel, by simp; omega⟩
    case done =>
      rintro D ys W hD rfl ⟨⟨v, h2, h3⟩, h4, h6⟩ hK
      have cL := h2.cell 0
      simp only [List.getElem?_cons_zero] at cL
      have hbk : bkL js (List.finRange n) = backL js n := bkL_all js n hN.out
      rw [hbk] at h3
      have HO := hid ((OwnP.of_owns (owns_kept h3 (grownBy_putObj' W D (.deferred none)) (fun r e => by cases e; exact ⟨_, hK, rfl⟩)) (by rw [backL_len]; omega)).base (show w.heap.size ≤ V.heap.size by omega))
      have bF := hid (h4.trans (belowK_b (w := w) (n₀ := w.heap.size) (Nat.le_refl _) W D (.deferred (some [])) (.deferred none) (by omega) hK rfl rfl))
      clear h2 h3
      gi_wp2
      refine ⟨by simp, .inl ⟨_, _, rfl, run_takeDeferred hK, ?_⟩⟩
      exact ⟨_, results_tmp2 rfl _ _ _, ⟨v, rfl, HO.out, bF.out⟩⟩
    case stop =>
      rintro D c pre W _ _ h _
      exact h.elim
end Go.Proofs.Yteangabkpaamcaa
