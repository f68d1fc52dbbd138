/- The readings that an interval of some kind leads to; the program's. -/
import Derived.Test.YtofpgkbcodopiaaMgP
import Derived.Test.YtofpgkbcodopiaaValGM
import Derived.Test.YtofpgkbcodopiaaOwnI
import Derived.Test.YtofpgkbcodopiaaInts
namespace Go.Proofs.Ytofpgkbcodopiaa
open Go.RowKit Go.Shelf
attribute [local go_sem] Oper.semAt_some
theorem owns_below' {w w' : World} {base size n : Nat} {e : TypeId} {v : Value} {xs : List Value} (h : w.ownsRow base e size v n xs) (hb : Below w.heap.size w w') : w'.ownsRow base e size v n xs := by
  refine ⟨h.1, ?_⟩
  rcases h.2 with h0 | ⟨g, cap, cur, h1, h2, h3, h4⟩
  · exact .inl h0
  · exact .inr ⟨g, cap, cur, h1, h2, (hb.block g (lt_of_block h3)).trans h3, h4⟩
theorem OwnI.base {w : World} {b b' : Nat} {v : Value} {zs : List Int} (h : OwnI w b v zs) (hb : b' ≤ b) : OwnI w b' v zs := by
  obtain ⟨a, cap, h1, h2, h3⟩ := h
  refine ⟨a, cap, h1, h2, ?_⟩
  rcases h3 with h0 | ⟨g, rest, e, hg, hr⟩
  · exact .inl h0
  · exact .inr ⟨g, rest, e, Nat.le_trans hb hg, hr⟩
/-- the indices of those readings, of all up to some, that an interval of the kind leads to -/
def endsP {m : Nat} (P : Nat → Bool) (pre : List (Fin m)) : List Int := (pre.filter (fun x => P x.1)).map (fun x => (x.1 : Int) + 1)
theorem endsP_nil {m : Nat} (P : Nat → Bool) : endsP P ([] : List (Fin m)) = [] := rfl
theorem endsP_yes {m : Nat} (P : Nat → Bool) (pre : List (Fin m)) (x : Fin m) (h : P x.1 = true) : endsP P (pre ++ [x]) = endsP P pre ++ [(x.1 : Int) + 1] := by simp [endsP, h]
theorem endsP_no {m : Nat} (P : Nat → Bool) (pre : List (Fin m)) (x : Fin m) (h : P x.1 = false) : endsP P (pre ++ [x]) = endsP P pre := by simp [endsP, h]
theorem endsP_len {m : Nat} (P : Nat → Bool) (pre : List (Fin m)) : (endsP P pre).length ≤ pre.length := by
  simp only [endsP, List.length_map]
  exact List.length_filter_le _ _
set_option maxRecDepth 100000 in
set_option maxHeartbeats 4000000 in
theorem ends_back  (b n cap : Nat) (js : List (Int × Int)) (hn : n = js.length) (P : Nat → Bool) (w : World) (hR : Rst w b js)
    (hF : ∀ k W, k + 1 < n → Below w.heap.size w W → Calls Try.prog 34 #[.agg #[.int .i64 (rd js k), .int .i64 (rv js k), .int .i64 (rd js (k + 1)), .int .i64 (rv js (k + 1))]] W (GivesB W (.bool (P k)))) :
    Calls Try.prog 31 #[.slice (some ⟨b, 0, none⟩) n cap, .func (.func 34) #[] #[]] w fun e w' => ∃ v, e = .returned v ∧ OwnI w' w.heap.size v (endsP P (List.finRange (n - 1))) ∧ Below w.heap.size w w' := by
  obtain ⟨i0, hi, iz0, iz1, iz2⟩ := info_parts Try.infoI64
  have hle := hR.2.2
  rw [← hn] at hle
  have hC := hid hR.2.1
  have hbl := hR.1
  have hN := hid hn
  have HF := hid hF
  have hm : 1 ≤ 8 := by omega
  clear hR hn hF
  have g3 : Fence.wide.fn 19 := trivial
  refine (callsIn_wide (n := 8)).1 ?_
  refine callsIn_of_wp_marks Try.func31 rfl trivial ?_ rfl
  simp only [Try.ntmps31, List.size_toArray, List.length_cons, List.length_nil, Nat.reduceAdd, Nat.reduceSub, Array.replicate_succ, Array.replicate_zero, List.push_toArray, List.append_toArray, List.nil_append, List.cons_append]
  gi_wp2_with (gi_at_call 19; refine (itv_in Fence.wide _ trivial rfl _ _ _ _).mono ?_; rintro e w' ⟨rfl, rfl⟩)
  have qF := Row.new w 67 [.func (.func 34) #[] #[]]
  have qL := Row.new (w.alloc (.cells #[.func (.func 34) #[] #[]] 67)) 32 [.slice none 0 0]
  have qB := Row.new ((w.alloc (.cells #[.func (.func 34) #[] #[]] 67)).alloc (.cells #[.slice none 0 0] 32)) 25 [.slice (some ⟨b, 0, none⟩) n cap]
  simp only [World.size_alloc] at qL qB
  have qF2 := (qF.alloc (.cells #[.slice none 0 0] 32)).alloc (.cells #[.slice (some ⟨b, 0, none⟩) n cap] 25)
  have qL2 := qL.alloc (.cells #[.slice (some ⟨b, 0, none⟩) n cap] 25)
  have bV : Below w.heap.size w (((w.alloc (.cells #[.func (.func 34) #[] #[]] 67)).alloc (.cells #[.slice none 0 0] 32)).alloc (.cells #[.slice (some ⟨b, 0, none⟩) n cap] 25)) := (((Below.refl _ w).alloc (Nat.le_refl _) _).alloc (by simp) _).alloc (by simp; omega) _
  have sV : (((w.alloc (.cells #[.func (.func 34) #[] #[]] 67)).alloc (.cells #[.slice none 0 0] 32)).alloc (.cells #[.slice (some ⟨b, 0, none⟩) n cap] 25)).heap.size = w.heap.size + 1 + 1 + 1 := by simp
  obtain ⟨V, hV⟩ : ∃ V, V = ((w.alloc (.cells #[.func (.func 34) #[] #[]] 67)).alloc (.cells #[.slice none 0 0] 32)).alloc (.cells #[.slice (some ⟨b, 0, none⟩) n cap] 25) := ⟨_, rfl⟩
  rw [← hV] at qB qF2 qL2 bV sV ⊢
  clear hV qF qL
  have cB := qB.cell 0
  simp only [List.getElem?_cons_zero] at cB
  have hsl : ∀ g, g = b ∨ g = w.heap.size + 1 + 1 → g < V.heap.size := fun g hg => by rcases hg with rfl | rfl <;> omega
  have hcV : ∀ j, j < n → V.cell? ⟨b, j * 2, none⟩ = some (.int .i64 (rd js j)) ∧ V.cell? ⟨b, j * 2 + 1, none⟩ = some (.int .i64 (rv js j)) := fun j hj =>
    ⟨(bV.cell (p := ⟨b, j * 2, none⟩) hbl).trans (hC.out j (by rw [← hN.out]; exact hj)).1, (bV.cell (p := ⟨b, j * 2 + 1, none⟩) hbl).trans (hC.out j (by rw [← hN.out]; exact hj)).2⟩
  have HSL := hid hsl
  have HBV := hid bV
  have hbs : b < w.heap.size := hbl
  refine wpIn_rangeFunc_ownH rfl hm (gf := 48) (lb := #[.pointer (some ⟨w.heap.size + 1 + 1, 0, none⟩)]) rfl trivial (enters_of Try.func48 (by kernel_rfl) rfl)
    (itv_stops Fence.wide 7 trivial rfl (by omega) (w.heap.size + 1 + 1) b n cap js hN.out hle V (by omega) (by omega) cB hcV) KeepB.trans (keepB_b HSL.out) (Below.refl _ _) (fun _ => rfl)
    (fun pre W => (∃ v, (Row W w.heap.size 67 [.func (.func 34) #[] #[]] ∧ Row W (w.heap.size + 1) 32 [v]) ∧ W.ownsRow V.heap.size 2 1 v (endsP P pre).length ((endsP P pre).map (Value.int .i64))) ∧ (Below w.heap.size w W ∧ Below V.heap.size V V ∧ V.heap.size ≤ W.heap.size))
    (fun _ _ _ => False)
    (OwnFrom.and (Own.from (fun s A B row hs hg hr => by obtain ⟨v, ⟨h1, h2⟩, h3⟩ := hs; exact ⟨v, ⟨row_kept h1 hg hr, row_kept h2 hg hr⟩, owns_kept h3 hg hr⟩) _) (OwnFrom.and (ownFrom_below (Nat.le_refl _) (by omega)) (fun s A B row hs hg hr => ⟨hs.1, Nat.le_trans hs.2 hg.4⟩)))
    (fun _ _ _ _ _ hs _ _ => hs)
    ⟨⟨.slice none 0 0, ⟨qF2, qL2⟩, ⟨rfl, .inl ⟨rfl, rfl⟩⟩⟩, bV, Below.refl _ _, Nat.le_refl _⟩
    (fun x a' W => ∃ g, a' = { tmps := #[.slice (some ⟨b, 0, none⟩) n cap, .func (.func 34) #[] #[], undef, .pointer (some ⟨w.heap.size, 0, none⟩), .slice none 0 0, .pointer (some ⟨w.heap.size + 1, 0, none⟩), .int .i64 ((x.1 : Int) + 1), .pointer (some ⟨g, 0, none⟩), .slice (some ⟨b, 0, none⟩) n cap, .func (.func 48) #[] #[.pointer (some ⟨w.heap.size + 1 + 1, 0, none⟩)], .int .i64 ((x.1 : Int) + 1), .agg #[.int .i64 (rd js x.1), .int .i64 (rv js x.1), .int .i64 (rd js (x.1 + 1)), .int .i64 (rv js (x.1 + 1))], undef, undef, undef, undef, undef, undef, undef, undef], defers := [] } ∧ Row W g 56 [.int .i64 (rd js x.1), .int .i64 (rv js x.1), .int .i64 (rd js (x.1 + 1)), .int .i64 (rv js (x.1 + 1))])
    (fun x a' => Own.from (fun s A B row hs hg hr => by obtain ⟨g, e, h⟩ := hs; exact ⟨g, e, row_kept h hg hr⟩) _) ?assign ?body ?done ?stop
  case assign =>
    rintro l pre x W K ⟨⟨v, ⟨h1, h2⟩, h3⟩, h4, h5, h6⟩ hK
    have bA := box4_bel W 56 (.int .i64 (rd js x.1)) (.int .i64 (rv js x.1)) (.int .i64 (rd js (x.1 + 1))) (.int .i64 (rv js (x.1 + 1)))
    have hAA := hK _ (W.alloc (.cells #[.int .i64 (rd js x.1), .int .i64 (rv js x.1), .int .i64 (rd js (x.1 + 1)), .int .i64 (rv js (x.1 + 1))] 56)) ((KeepsOthers.alloc W _).from _) (keepB_of bA (fun g hg => Nat.lt_of_lt_of_le (HSL.out g hg) h6)) ⟨⟨v, ⟨h1.alloc _, h2.alloc _⟩, h3.alloc _⟩, h4.trans (bA.mono h4.size), h5, by simp; omega⟩ ⟨W.heap.size, rfl, Row.new W _ _⟩
    clear hK
    simp only [itvA]
    gi_wp2
    exact hAA
  case body =>
    rintro l pre x a' W _ _ ⟨⟨v, ⟨h1, h2⟩, h3⟩, h4, h5, h6⟩ ⟨g, rfl, hrow⟩ hlen
    have hx := x.2
    have hxn : x.1 + 1 < n := by omega
    have g5 : (Fence.wide.inRound l).fn 34 := trivial
    have g6 : Fence.wide.fn 34 := trivial
    have HFX := hid (HF.out x.1 W hxn h4)
    have h4' := hid h4
    have HEY := hid (endsP_yes P pre x)
    have HEN := hid (endsP_no P pre x)
    have hel := endsP_len P pre
    have c0 := hrow.cell 0
    have c1 := hrow.cell 1
    have c2 := hrow.cell 2
    have c3 := hrow.cell 3
    have cF := h1.cell 0
    have cL := h2.cell 0
    simp only [List.getElem?_cons_zero, List.getElem?_cons_succ] at c0 c1 c2 c3 cF cL
    have H1 := hid h1
    have H2 := hid h2
    have H3 := hid h3
    have lw := h4.size
    clear h1 h2 h3 h4
    obtain ⟨r, hr⟩ : ∃ r, P x.1 = r := ⟨_, rfl⟩
    rw [hr] at HFX HEY HEN
    obtain ⟨E, hE⟩ : ∃ E, endsP P pre = E := ⟨_, rfl⟩
    rw [hE] at H3 HEY HEN hel
    clear hr hE
    cases r
    · gi_wp2_with (gi_at_call 34; refine (CallsIn.inRound l (callsIn_wide.2 HFX.out)).mono ?_; rintro e w6 ⟨rfl, hB6⟩)
      have hz6 := hB6.size
      exact ⟨(keepsOthers_of hB6).from _, keepB_of hB6 (fun g hg => Nat.lt_of_lt_of_le (HSL.out g hg) h6), ⟨v, ⟨H1.out.below hB6 H1.out.lt, H2.out.below hB6 H2.out.lt⟩, by rw [HEN.out (by simp)]; exact owns_below' H3.out hB6⟩, h4'.out.trans (hB6.mono lw), h5, Nat.le_trans h6 hz6⟩
    · gi_wp2_with (first | (gi_at_call 34; refine (CallsIn.inRound l (callsIn_wide.2 HFX.out)).mono ?_; rintro e w6 ⟨rfl, hB6⟩; have hz6 := hB6.size; have k1 := H1.out.below hB6 H1.out.lt; have k2 := H2.out.below hB6 H2.out.lt; have cL6 := k2.cell 0; simp only [List.getElem?_cons_zero] at cL6; have O6 := (owns_below' H3.out hB6).alloc (.cells #[.int .i64 ((x.1 : Int) + 1)] 2); have news := Row.new w6 2 [.int .i64 ((x.1 : Int) + 1)]; have nc := news.cell 0; simp only [List.getElem?_cons_zero] at nc; have ka1 := k1.alloc (.cells #[.int .i64 ((x.1 : Int) + 1)] 2); have ka2 := k2.alloc (.cells #[.int .i64 ((x.1 : Int) + 1)] 2)) | (gi_at_builtin; refine wpListIn_append_own _ rfl _ _ 32 rfl V.heap.size 2 i0 (.int .i64 0) 1 8 Try.underlying32 hi iz0 iz1 iz2 rfl (by decide) _ _ _ rfl O6 ⟨w6.heap.size, 0, none⟩ 1 1 [.int .i64 ((x.1 : Int) + 1)] rfl rfl (by intro j u hj; match j, hj with | 0, hj => simp at hj; subst hj; simp [Addr.add, nc]) (by intro u hu; simp at hu; subst hu; rfl) (by unfold maxLen; omega) (by omega) (by simp; omega) ?_; intro v' w7 hown' hgrow _; obtain ⟨sa, sl, sc, rfl⟩ : ∃ a l c, v' = Value.slice a l c := (by rcases hown'.2 with ⟨h, _⟩ | ⟨g', cap', cur, h, _⟩; exact ⟨_, _, _, h⟩; exact ⟨_, _, _, h⟩); have kb1 := ka1.grown' hgrow (owns_lt O6 (by omega)); have kb2 := ka2.grown' hgrow (owns_lt O6 (by omega)); have cL7 := kb2.cell 0; have fL7 := kb2.frozen 0; simp only [List.getElem?_cons_zero] at cL7))
      have hz7 := hgrow.size
      simp only [World.size_alloc] at hz7
      have ko : KeepsOthers (w6.alloc (.cells #[.int .i64 ((x.1 : Int) + 1)] 2)) w7 := KeepsOthers.of_grownBy hgrow (fun j o hj ho => by
        rcases O6.2 with ⟨rfl, _⟩ | ⟨g', cap', cur, rfl, q2, q3, _⟩
        · cases hj
        · have : g' = j := Option.some.inj hj
          subst this
          rw [q3] at ho
          cases ho
          rfl)
      have kb : KeepB (fun g => g = b ∨ g = w.heap.size + 1 + 1) W (w7.setCell ⟨w.heap.size + 1, 0, none⟩ (.slice sa sl sc)) := fun g hg => by
        have hgV := HSL.out g hg
        have e1 := hB6.block g (Nat.lt_of_lt_of_le hgV h6)
        have e2 : (w6.alloc (.cells #[.int .i64 ((x.1 : Int) + 1)] 2)).heap[g]? = w6.heap[g]? := Below.heap_alloc _ _ _ (by omega)
        have e3 := hgrow.block g (by simp; omega) (owns_lt O6 hgV)
        have e4 := Below.heap_setCell w7 ⟨w.heap.size + 1, 0, none⟩ (.slice sa sl sc) g (by rcases hg with rfl | rfl <;> simp <;> omega)
        rw [e4, e3, e2, e1]
      have bel : Below w.heap.size w (w7.setCell ⟨w.heap.size + 1, 0, none⟩ (.slice sa sl sc)) := ((((h4'.out.trans (hB6.mono lw)).alloc (by omega) (.cells #[.int .i64 ((x.1 : Int) + 1)] 2)).grown hgrow (by simp; omega) (fun k e => by have := owns_lt O6 (g := k); by_cases hk : w.heap.size ≤ k; exact hk; exact absurd e.symm (this (by omega))))).setCell (p := ⟨w.heap.size + 1, 0, none⟩) (by show _ ≤ w.heap.size + 1; omega) _
      have hl2 : (E ++ [(x.1 : Int) + 1]).length = E.length + 1 := by simp
      exact ⟨((((keepsOthers_of hB6).trans (KeepsOthers.alloc _ _)).trans ko).trans (KeepsOthers.setCell _ _ _)).from _, kb, ⟨.slice sa sl sc, ⟨kb1.other (by show w.heap.size + 1 ≠ w.heap.size; omega) _, kb2.set 0 (.slice sa sl sc)⟩, by rw [HEY.out (by simp), hl2, List.map_append]; exact owns_set hown' (by show w.heap.size + 1 < V.heap.size; omega) _⟩, bel, h5, by simp; omega⟩
  case done =>
    rintro D ys W hD rfl ⟨⟨v, ⟨h1, h2⟩, h3⟩, h4, h5, h6⟩ hK
    have cL := h2.cell 0
    simp only [List.getElem?_cons_zero] at cL
    have hl := endsP_len P (List.finRange (n - 1))
    have hl2 : (List.finRange (n - 1)).length = n - 1 := by simp
    have HO := hid ((OwnI.of_owns (owns_kept h3 (grownBy_putObj' W D (.deferred none)) (fun r e => by cases e; exact ⟨_, hK, rfl⟩)) (by omega)).base (show w.heap.size ≤ V.heap.size by omega))
    have bF := hid (h4.trans (belowK_b (w := w) (n₀ := w.heap.size) (Nat.le_refl _) W D (.deferred (some [])) (.deferred none) (by omega) hK rfl rfl))
    clear h1 h2 h3
    gi_wp2
    refine ⟨by simp, .inl ⟨_, _, rfl, run_takeDeferred hK, ?_⟩⟩
    exact ⟨_, results_tmp rfl _ _ _, ⟨v, rfl, HO.out, bF.out⟩⟩
  case stop =>
    rintro D c pre W _ _ h _
    exact h.elim
end Go.Proofs.Ytofpgkbcodopiaa
