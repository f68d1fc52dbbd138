/- The readings that a step back, or a suspect step, leads to; the program's. -/
import Derived.Test.YtofpgkbcodopiaaEndsS
import Derived.Test.YtofpgkbcodopiaaValGI
namespace Go.Proofs.Ytofpgkbcodopiaa
open Go.RowKit Go.Shelf
set_option linter.unusedSimpArgs false
section
attribute [local go_sem] Oper.semAt_some
set_option maxRecDepth 100000 in
set_option maxHeartbeats 4000000 in
theorem ends_susp (sb fb : Nat) (b n cap : Nat) (js : List (Int × Int)) (hn : n = js.length) (P : Nat → Bool) (w : World) (hR : Rst w b js)
    (hF : ∀ k W, k + 1 < n → Below w.heap.size w W → Calls Try.prog 32 #[.agg #[.int .i64 (rd js k), .int .i64 (rv js k), .int .i64 (rd js (k + 1)), .int .i64 (rv js (k + 1))], .pointer (some ⟨sb, 0, none⟩), .pointer (some ⟨fb, 0, none⟩)] W (GivesB W (.bool (P k)))) :
    Calls Try.prog 31 #[.slice (some ⟨b, 0, none⟩) n cap, .func (.func 32) #[] #[.pointer (some ⟨sb, 0, none⟩), .pointer (some ⟨fb, 0, none⟩)]] w fun e w' => ∃ v, e = .returned v ∧ OwnI w' w.heap.size v (endsP P (List.finRange (n - 1))) ∧ Below w.heap.size w w' := by
  obtain ⟨i0, hi, iz0, iz1, iz2⟩ := info_parts Try.infoI64
  have hle := hR.2.2
  rw [← hn] at hle
  have hC := hid hR.2.1
  have hbl := hR.1
  have hN := hid hn
  have HF := hid hF
  have hm : 1 ≤ 8 := by omega
  clear hR hn hF
  have g3 : Fence.wide.fn 19 := trivial
  refine (callsIn_wide (n := 8)).1 ?_
  refine callsIn_of_wp_marks Try.func31 rfl trivial ?_ rfl
  simp only [Try.ntmps31, List.size_toArray, List.length_cons, List.length_nil, Nat.reduceAdd, Nat.reduceSub, Array.replicate_succ, Array.replicate_zero, List.push_toArray, List.append_toArray, List.nil_append, List.cons_append]
  gi_wp2_with (gi_at_call 19; refine (itv_in Fence.wide _ trivial rfl _ _ _ _).mono ?_; rintro e w' ⟨rfl, rfl⟩)
  have qF := Row.new w 67 [.func (.func 32) #[] #[.pointer (some ⟨sb, 0, none⟩), .pointer (some ⟨fb, 0, none⟩)]]
  have qL := Row.new (w.alloc (.cells #[.func (.func 32) #[] #[.pointer (some ⟨sb, 0, none⟩), .pointer (some ⟨fb, 0, none⟩)]] 67)) 32 [.slice none 0 0]
  have qB := Row.new ((w.alloc (.cells #[.func (.func 32) #[] #[.pointer (some ⟨sb, 0, none⟩), .pointer (some ⟨fb, 0, none⟩)]] 67)).alloc (.cells #[.slice none 0 0] 32)) 25 [.slice (some ⟨b, 0, none⟩) n cap]
  simp only [World.size_alloc] at qL qB
  have qF2 := (qF.alloc (.cells #[.slice none 0 0] 32)).alloc (.cells #[.slice (some ⟨b, 0, none⟩) n cap] 25)
  have qL2 := qL.alloc (.cells #[.slice (some ⟨b, 0, none⟩) n cap] 25)
  have bV : Below w.heap.size w (((w.alloc (.cells #[.func (.func 32) #[] #[.pointer (some ⟨sb, 0, none⟩), .pointer (some ⟨fb, 0, none⟩)]] 67)).alloc (.cells #[.slice none 0 0] 32)).alloc (.cells #[.slice (some ⟨b, 0, none⟩) n cap] 25)) := (((Below.refl _ w).alloc (Nat.le_refl _) _).alloc (by simp) _).alloc (by simp; omega) _
  have sV : (((w.alloc (.cells #[.func (.func 32) #[] #[.pointer (some ⟨sb, 0, none⟩), .pointer (some ⟨fb, 0, none⟩)]] 67)).alloc (.cells #[.slice none 0 0] 32)).alloc (.cells #[.slice (some ⟨b, 0, none⟩) n cap] 25)).heap.size = w.heap.size + 1 + 1 + 1 := by simp
  obtain ⟨V, hV⟩ : ∃ V, V = ((w.alloc (.cells #[.func (.func 32) #[] #[.pointer (some ⟨sb, 0, none⟩), .pointer (some ⟨fb, 0, none⟩)]] 67)).alloc (.cells #[.slice none 0 0] 32)).alloc (.cells #[.slice (some ⟨b, 0, none⟩) n cap] 25) := ⟨_, rfl⟩
  rw [← hV] at qB qF2 qL2 bV sV ⊢
  clear hV qF qL
  have cB := qB.cell 0
  simp only [List.getElem?_cons_zero] at cB
  have hsl : ∀ g, g = b ∨ g = w.heap.size + 1 + 1 → g < V.heap.size := fun g hg => by rcases hg with rfl | rfl <;> omega
  have hcV : ∀ j, j < n → V.cell? ⟨b, j * 2, none⟩ = some (.int .i64 (rd js j)) ∧ V.cell? ⟨b, j * 2 + 1, none⟩ = some (.int .i64 (rv js j)) := fun j hj =>
    ⟨(bV.cell (p := ⟨b, j * 2, none⟩) hbl).trans (hC.out j (by rw [← hN.out]; exact hj)).1, (bV.cell (p := ⟨b, j * 2 + 1, none⟩) hbl).trans (hC.out j (by rw [← hN.out]; exact hj)).2⟩
  have HSL := hid hsl
  have HBV := hid bV
  have hbs : b < w.heap.size := hbl
  refine wpIn_rangeFunc_ownH rfl hm (gf := 48) (lb := #[.pointer (some ⟨w.heap.size + 1 + 1, 0, none⟩)]) rfl trivial (enters_of Try.func48 (by kernel_rfl) rfl)
    (itv_stops Fence.wide 7 trivial rfl (by omega) (w.heap.size + 1 + 1) b n cap js hN.out hle V (by omega) (by omega) cB hcV) KeepB.trans (keepB_b HSL.out) (Below.refl _ _) (fun _ => rfl)
    (fun pre W => (∃ v, (Row W w.heap.size 67 [.func (.func 32) #[] #[.pointer (some ⟨sb, 0, none⟩), .pointer (some ⟨fb, 0, none⟩)]] ∧ Row W (w.heap.size + 1) 32 [v]) ∧ W.ownsRow V.heap.size 2 1 v (endsP P pre).length ((endsP P pre).map (Value.int .i64))) ∧ (Below w.heap.size w W ∧ Below V.heap.size V V ∧ V.heap.size ≤ W.heap.size))
    (fun _ _ _ => False)
    (OwnFrom.and (Own.from (fun s A B row hs hg hr => by obtain ⟨v, ⟨h1, h2⟩, h3⟩ := hs; exact ⟨v, ⟨row_kept h1 hg hr, row_kept h2 hg hr⟩, owns_kept h3 hg hr⟩) _) (OwnFrom.and (ownFrom_below (Nat.le_refl _) (by omega)) (fun s A B row hs hg hr => ⟨hs.1, Nat.le_trans hs.2 hg.4⟩)))
    (fun _ _ _ _ _ hs _ _ => hs)
    ⟨⟨.slice none 0 0, ⟨qF2, qL2⟩, ⟨rfl, .inl ⟨rfl, rfl⟩⟩⟩, bV, Below.refl _ _, Nat.le_refl _⟩
    (fun x a' W => ∃ g, a' = { tmps := #[.slice (some ⟨b, 0, none⟩) n cap, .func (.func 32) #[] #[.pointer (some ⟨sb, 0, none⟩), .pointer (some ⟨fb, 0, none⟩)], undef, .pointer (some ⟨w.heap.size, 0, none⟩), .slice none 0 0, .pointer (some ⟨w.heap.size + 1, 0, none⟩), .int .i64 ((x.1 : Int) + 1), .pointer (some ⟨g, 0, none⟩), .slice (some ⟨b, 0, none⟩) n cap, .func (.func 48) #[] #[.pointer (some ⟨w.heap.size + 1 + 1, 0, none⟩)], .int .i64 ((x.1 : Int) + 1), .agg #[.int .i64 (rd js x.1), .int .i64 (rv js x.1), .int .i64 (rd js (x.1 + 1)), .int .i64 (rv js (x.1 + 1))], undef, undef, undef, undef, undef, undef, undef, undef], defers := [] } ∧ Row W g 56 [.int .i64 (rd js x.1), .int .i64 (rv js x.1), .int .i64 (rd js (x.1 + 1)), .int .i64 (rv js (x.1 + 1))])
    (fun x a' => Own.from (fun s A B row hs hg hr => by obtain ⟨g, e, h⟩ := hs; exact ⟨g, e, row_kept h hg hr⟩) _) ?assign ?body ?done ?stop
  case assign =>
    rintro l pre x W K ⟨⟨v, ⟨h1, h2⟩, h3⟩, h4, h5, h6⟩ hK
    have bA := box4_bel W 56 (.int .i64 (rd js x.1)) (.int .i64 (rv js x.1)) (.int .i64 (rd js (x.1 + 1))) (.int .i64 (rv js (x.1 + 1)))
    have hAA := hK _ (W.alloc (.cells #[.int .i64 (rd js x.1), .int .i64 (rv js x.1), .int .i64 (rd js (x.1 + 1)), .int .i64 (rv js (x.1 + 1))] 56)) ((KeepsOthers.alloc W _).from _) (keepB_of bA (fun g hg => Nat.lt_of_lt_of_le (HSL.out g hg) h6)) ⟨⟨v, ⟨h1.alloc _, h2.alloc _⟩, h3.alloc _⟩, h4.trans (bA.mono h4.size), h5, by simp; omega⟩ ⟨W.heap.size, rfl, Row.new W _ _⟩
    clear hK
    simp only [itvA]
    gi_wp2
    exact hAA
  case body =>
    rintro l pre x a' W _ _ ⟨⟨v, ⟨h1, h2⟩, h3⟩, h4, h5, h6⟩ ⟨g, rfl, hrow⟩ hlen
    have hx := x.2
    have hxn : x.1 + 1 < n := by omega
    have g5 : (Fence.wide.inRound l).fn 32 := trivial
    have g6 : Fence.wide.fn 32 := trivial
    have HFX := hid (HF.out x.1 W hxn h4)
    have h4' := hid h4
    have HEY := hid (endsP_yes P pre x)
    have HEN := hid (endsP_no P pre x)
    have hel := endsP_len P pre
    have c0 := hrow.cell 0
    have c1 := hrow.cell 1
    have c2 := hrow.cell 2
    have c3 := hrow.cell 3
    have cF := h1.cell 0
    have cL := h2.cell 0
    simp only [List.getElem?_cons_zero, List.getElem?_cons_succ] at c0 c1 c2 c3 cF cL
    have H1 := hid h1
    have H2 := hid h2
    have H3 := hid h3
    have lw := h4.size
    clear h1 h2 h3 h4
    obtain ⟨r, hr⟩ : ∃ r, P x.1 = r := ⟨_, rfl⟩
    rw [hr] at HFX HEY HEN
    obtain ⟨E, hE⟩ : ∃ E, endsP P pre = E := ⟨_, rfl⟩
    rw [hE] at H3 HEY HEN hel
    clear hr hE
    cases r
    · gi_wp2_with (gi_at_call 32; refine (CallsIn.inRound l (callsIn_wide.2 HFX.out)).mono ?_; rintro e w6 ⟨rfl, hB6⟩)
      have hz6 := hB6.size
      exact ⟨(keepsOthers_of hB6).from _, keepB_of hB6 (fun g hg => Nat.lt_of_lt_of_le (HSL.out g hg) h6), ⟨v, ⟨H1.out.below hB6 H1.out.lt, H2.out.below hB6 H2.out.lt⟩, by rw [HEN.out (by simp)]; exact owns_below' H3.out hB6⟩, h4'.out.trans (hB6.mono lw), h5, Nat.le_trans h6 hz6⟩
    · gi_wp2_with (first | (gi_at_call 32; refine (CallsIn.inRound l (callsIn_wide.2 HFX.out)).mono ?_; rintro e w6 ⟨rfl, hB6⟩; have hz6 := hB6.size; have k1 := H1.out.below hB6 H1.out.lt; have k2 := H2.out.below hB6 H2.out.lt; have cL6 := k2.cell 0; simp only [List.getElem?_cons_zero] at cL6; have O6 := (owns_below' H3.out hB6).alloc (.cells #[.int .i64 ((x.1 : Int) + 1)] 2); have news := Row.new w6 2 [.int .i64 ((x.1 : Int) + 1)]; have nc := news.cell 0; simp only [List.getElem?_cons_zero] at nc; have ka1 := k1.alloc (.cells #[.int .i64 ((x.1 : Int) + 1)] 2); have ka2 := k2.alloc (.cells #[.int .i64 ((x.1 : Int) + 1)] 2)) | (gi_at_builtin; refine wpListIn_append_own _ rfl _ _ 32 rfl V.heap.size 2 i0 (.int .i64 0) 1 8 Try.underlying32 hi iz0 iz1 iz2 rfl (by decide) _ _ _ rfl O6 ⟨w6.heap.size, 0, none⟩ 1 1 [.int .i64 ((x.1 : Int) + 1)] rfl rfl (by intro j u hj; match j, hj with | 0, hj => simp at hj; subst hj; simp [Addr.add, nc]) (by intro u hu; simp at hu; subst hu; rfl) (by unfold maxLen; omega) (by omega) (by simp; omega) ?_; intro v' w7 hown' hgrow _; obtain ⟨sa, sl, sc, rfl⟩ : ∃ a l c, v' = Value.slice a l c := (by rcases hown'.2 with ⟨h, _⟩ | ⟨g', cap', cur, h, _⟩; exact ⟨_, _, _, h⟩; exact ⟨_, _, _, h⟩); have kb1 := ka1.grown' hgrow (owns_lt O6 (by omega)); have kb2 := ka2.grown' hgrow (owns_lt O6 (by omega)); have cL7 := kb2.cell 0; have fL7 := kb2.frozen 0; simp only [List.getElem?_cons_zero] at cL7))
      have hz7 := hgrow.size
      simp only [World.size_alloc] at hz7
      have ko : KeepsOthers (w6.alloc (.cells #[.int .i64 ((x.1 : Int) + 1)] 2)) w7 := KeepsOthers.of_grownBy hgrow (fun j o hj ho => by
        rcases O6.2 with ⟨rfl, _⟩ | ⟨g', cap', cur, rfl, q2, q3, _⟩
        · cases hj
        · have : g' = j := Option.some.inj hj
          subst this
          rw [q3] at ho
          cases ho
          rfl)
      have kb : KeepB (fun g => g = b ∨ g = w.heap.size + 1 + 1) W (w7.setCell ⟨w.heap.size + 1, 0, none⟩ (.slice sa sl sc)) := fun g hg => by
        have hgV := HSL.out g hg
        have e1 := hB6.block g (Nat.lt_of_lt_of_le hgV h6)
        have e2 : (w6.alloc (.cells #[.int .i64 ((x.1 : Int) + 1)] 2)).heap[g]? = w6.heap[g]? := Below.heap_alloc _ _ _ (by omega)
        have e3 := hgrow.block g (by simp; omega) (owns_lt O6 hgV)
        have e4 := Below.heap_setCell w7 ⟨w.heap.size + 1, 0, none⟩ (.slice sa sl sc) g (by rcases hg with rfl | rfl <;> simp <;> omega)
        rw [e4, e3, e2, e1]
      have bel : Below w.heap.size w (w7.setCell ⟨w.heap.size + 1, 0, none⟩ (.slice sa sl sc)) := ((((h4'.out.trans (hB6.mono lw)).alloc (by omega) (.cells #[.int .i64 ((x.1 : Int) + 1)] 2)).grown hgrow (by simp; omega) (fun k e => by have := owns_lt O6 (g := k); by_cases hk : w.heap.size ≤ k; exact hk; exact absurd e.symm (this (by omega))))).setCell (p := ⟨w.heap.size + 1, 0, none⟩) (by show _ ≤ w.heap.size + 1; omega) _
      have hl2 : (E ++ [(x.1 : Int) + 1]).length = E.length + 1 := by simp
      exact ⟨((((keepsOthers_of hB6).trans (KeepsOthers.alloc _ _)).trans ko).trans (KeepsOthers.setCell _ _ _)).from _, kb, ⟨.slice sa sl sc, ⟨kb1.other (by show w.heap.size + 1 ≠ w.heap.size; omega) _, kb2.set 0 (.slice sa sl sc)⟩, by rw [HEY.out (by simp), hl2, List.map_append]; exact owns_set hown' (by show w.heap.size + 1 < V.heap.size; omega) _⟩, bel, h5, by simp; omega⟩
  case done =>
    rintro D ys W hD rfl ⟨⟨v, ⟨h1, h2⟩, h3⟩, h4, h5, h6⟩ hK
    have cL := h2.cell 0
    simp only [List.getElem?_cons_zero] at cL
    have hl := endsP_len P (List.finRange (n - 1))
    have hl2 : (List.finRange (n - 1)).length = n - 1 := by simp
    have HO := hid ((OwnI.of_owns (owns_kept h3 (grownBy_putObj' W D (.deferred none)) (fun r e => by cases e; exact ⟨_, hK, rfl⟩)) (by omega)).base (show w.heap.size ≤ V.heap.size by omega))
    have bF := hid (h4.trans (belowK_b (w := w) (n₀ := w.heap.size) (Nat.le_refl _) W D (.deferred (some [])) (.deferred none) (by omega) hK rfl rfl))
    clear h1 h2 h3
    gi_wp2
    refine ⟨by simp, .inl ⟨_, _, rfl, run_takeDeferred hK, ?_⟩⟩
    exact ⟨_, results_tmp rfl _ _ _, ⟨v, rfl, HO.out, bF.out⟩⟩
  case stop =>
    rintro D c pre W _ _ h _
    exact h.elim
end
theorem back1_any (a u b v : Int) (h : -9000000000000000000 ≤ v - u ∧ v - u ≤ 9000000000000000000) (w : World) :
    Calls Try.prog 34 #[.agg #[.int .i64 a, .int .i64 u, .int .i64 b, .int .i64 v]] w (GivesB w (.bool (decide (v < u)))) := by
  have bel := hid (box4_bel w 56 (.int .i64 a) (.int .i64 u) (.int .i64 b) (.int .i64 v))
  have HW := hid (fun w => way_any a u b v h w)
  have hd : decide (v < u) = decide (v - u < 0) := by
    by_cases k : v < u
    · rw [decide_eq_true k, decide_eq_true (by omega)]
    · rw [decide_eq_false k, decide_eq_false (by omega)]
  rw [hd]
  obtain ⟨y, hy⟩ : ∃ y, v - u = y := ⟨_, rfl⟩
  rw [hy] at HW ⊢
  clear hd hy h
  go_enter Try.func34, Try.ntmps34
  go_wp2_with fail
  refine (HW.out _).mono ?_
  rintro e w1 ⟨rfl, hB⟩
  go_wp2_with fail
  go_ret
  exact ⟨rfl, bel.out.trans (hB.mono (by simp))⟩
theorem susp1_any (bS n cap : Nat) (zs : List Int) (hn : n = zs.length) (hv : okL zs = true) (a u b v lo hi : Int) (h : -1000000000000 ≤ v - u ∧ v - u ≤ 1000000000000) (hd : 0 ≤ b - a ∧ b - a ≤ 100000) (hl : 0 ≤ lo ∧ lo ≤ 1000000) (hh : 0 ≤ hi ∧ hi ≤ 1000000) (sb fb : Nat) (w : World) (hS : Stk w bS zs) (hs : w.cell? ⟨sb, 0, none⟩ = some (.slice (some ⟨bS, 0, none⟩) n cap)) (hf0 : w.cell? ⟨fb, 0, none⟩ = some (.int .i64 lo)) (hf1 : w.cell? ⟨fb, 1, none⟩ = some (.int .i64 hi)) (hsb : sb < w.heap.size) (hfb : fb < w.heap.size) :
    Calls Try.prog 32 #[.agg #[.int .i64 a, .int .i64 u, .int .i64 b, .int .i64 v], .pointer (some ⟨sb, 0, none⟩), .pointer (some ⟨fb, 0, none⟩)] w (GivesB w (.bool (!posI (szL zs) (v - u) (lo * (b - a)) (hi * (b - a))))) := by
  have bel := hid (box4_bel w 56 (.int .i64 a) (.int .i64 u) (.int .i64 b) (.int .i64 v))
  have HP := hid (possible_any bS n cap zs hn hv a u b v lo hi h hd hl hh _ (hS.below bel.out hS.1))
  obtain ⟨r, hr⟩ : ∃ r, posI (szL zs) (v - u) (lo * (b - a)) (hi * (b - a)) = r := ⟨_, rfl⟩
  rw [hr] at HP ⊢
  clear hr h hd hl hh hn hv hS
  go_enter Try.func32, Try.ntmps32
  go_wp2_with fail
  refine HP.out.mono ?_
  rintro e w1 ⟨rfl, hB⟩
  have b1 := hid (bel.out.trans (hB.mono (by simp)))
  clear hB
  go_wp2_with fail
  go_ret
  exact ⟨rfl, b1.out⟩
theorem okG_len {zs : List Int} {js : List (Int × Int)} (h : okG zs js = true) (k : Nat) (hk : k + 1 < js.length) : (0 ≤ rd js k ∧ 0 ≤ rv js k ∧ rv js k < szL zs ∧ rv js (k + 1) < szL zs ∧ 0 ≤ rv js (k + 1)) ∧ 0 ≤ rd js (k + 1) - rd js k ∧ rd js (k + 1) - rd js k ≤ 100000 := by
  obtain ⟨_, _, h3, h4⟩ := okG_out h
  have o1 := okRd_out (h3 k (by omega))
  have o2 := okRd_out (h3 (k + 1) hk)
  have o3 := h4 k hk
  omega
set_option maxHeartbeats 2000000 in
theorem implBackL_any (bS nS capS : Nat) (zs : List Int) (hnS : nS = zs.length) (b n cap : Nat) (js : List (Int × Int)) (hn : n = js.length) (w : World) (hS : Stk w bS zs) (hR : Rst w b js) :
    Calls Try.prog 9 #[.slice (some ⟨bS, 0, none⟩) nS capS, .slice (some ⟨b, 0, none⟩) n cap] w (ListR w (endsR zs js true (backP js))) := by
  have HV := hid (implValidLog_any bS nS capS zs hnS b n cap js hn w hS hR)
  have HR := hid hR
  have hz := (fun h => (okL_out (okG_out (zs := zs) (js := js) h).1).2.2.2)
  clear hS hR hnS
  cases hv : okG zs js with
  | false =>
    rw [endsR_log hv]
    rw [hv] at HV
    clear hv hn hz
    go_enter Try.func9, Try.ntmps9
    go_wp2_with fail
    refine HV.out.mono ?_
    rintro e w1 ⟨rfl, hB1⟩
    go_wp2_with fail
    go_ret2
    exact ⟨_, rfl, OwnI.nil _ _ _ _, hB1⟩
  | true =>
    rw [endsR_yes hv, ← hn]
    have hzz := hz hv
    have HE := hid (fun W (h : Rst W b js) => ends_back b n cap js hn (backP js) W h (fun k W2 hk _ => back1_any _ _ _ _ (by have := okG_len hv k (by omega); omega) W2))
    rw [hv] at HV
    clear hv hn hz hzz
    obtain ⟨E, hE⟩ : ∃ E, endsP (backP js) (List.finRange (n - 1)) = E := ⟨_, rfl⟩
    rw [hE] at HE ⊢
    clear hE
    go_enter Try.func9, Try.ntmps9
    go_wp2_with fail
    refine HV.out.mono ?_
    rintro e w1 ⟨rfl, hB1⟩
    have R1 := hid (HR.out.below hB1 HR.out.1)
    go_wp2_with fail
    refine (HE.out w1 R1.out).mono ?_
    rintro e w2 ⟨v, rfl, hO, hB2⟩
    have hz1 := hB1.size
    go_wp2_with fail
    go_ret2
    exact ⟨v, rfl, hO.base hz1, hB1.trans (hB2.mono hz1)⟩
theorem stfl_boxes (w : World) (T T' : TypeId) (a x y : Value) : ∀ W, W = ((w.alloc (.cells #[a] T)).alloc (.cells #[x, y] T')) →
    Row W w.heap.size T [a] ∧ Row W (w.heap.size + 1) T' [x, y] ∧ Below w.heap.size w W ∧ W.heap.size = w.heap.size + 1 + 1 := by
  rintro W rfl
  have h := Row.new (w.alloc (.cells #[a] T)) T' [x, y]
  simp only [World.size_alloc] at h
  exact ⟨(Row.new w T [a]).alloc _, h, ((Below.refl _ w).alloc (Nat.le_refl _) _).alloc (by simp) _, by simp⟩
set_option maxHeartbeats 4000000 in
theorem implSusp_any (bS nS capS : Nat) (zs : List Int) (hnS : nS = zs.length) (b n cap : Nat) (js : List (Int × Int)) (hn : n = js.length) (lo hi : Int) (w : World) (hS : Stk w bS zs) (hR : Rst w b js) :
    Calls Try.prog 8 #[.slice (some ⟨bS, 0, none⟩) nS capS, .slice (some ⟨b, 0, none⟩) n cap, .agg #[.int .i64 lo, .int .i64 hi]] w (ListR w (endsR zs js (okF lo hi) (suspP (szL zs) js lo hi))) := by
  obtain ⟨W, hW⟩ : ∃ W, W = ((w.alloc (.cells #[.slice (some ⟨bS, 0, none⟩) nS capS] 24)).alloc (.cells #[.int .i64 lo, .int .i64 hi] 27)) := ⟨_, rfl⟩
  obtain ⟨q0, q1, bW, sW⟩ := stfl_boxes w _ _ _ _ _ W hW
  have HV := hid (implValidLog_any bS nS capS zs hnS b n cap js hn W (hS.below bW hS.1) (hR.below bW hR.1))
  have HR := hid (hR.below bW hR.1)
  have HS := hid (hS.below bW hS.1)
  have hbs := HS.out.1
  have HF := hid (fun w => implValidFlow_any lo hi w)
  have bE := hid bW
  have hW2 := hid hW
  have Q0 := hid q0
  have Q1 := hid q1
  have s0 := sW
  have x0 := q0.cell 0
  simp only [List.getElem?_cons_zero] at x0
  clear hS hR q0 q1 bW hW sW
  cases hv : okG zs js with
  | false =>
    rw [endsR_log hv]
    rw [hv] at HV
    clear hv hn hnS
    go_enter Try.func8, Try.ntmps8
    go_wp2_with fail
    rw [← hW2.out]
    refine HV.out.mono ?_
    rintro e w1 ⟨rfl, hB1⟩
    go_wp2_with fail
    go_ret2
    exact ⟨_, rfl, OwnI.nil _ _ _ _, bE.out.trans (hB1.mono (by omega))⟩
  | true =>
    cases hf : okF lo hi with
    | false =>
      rw [endsR_no]
      rw [hv] at HV
      rw [hf] at HF
      clear hv hn hf hnS
      go_enter Try.func8, Try.ntmps8
      go_wp2_with fail
      rw [← hW2.out]
      refine HV.out.mono ?_
      rintro e w1 ⟨rfl, hB1⟩
      have r1 := Q1.out.below hB1 Q1.out.lt
      have y0 := r1.cell 0
      have y1 := r1.cell 1
      simp only [List.getElem?_cons_zero, List.getElem?_cons_succ] at y0 y1
      go_wp2_with fail
      refine (HF.out _).mono ?_
      rintro e w2 ⟨rfl, hB2⟩
      go_wp2_with fail
      go_ret2
      exact ⟨_, rfl, OwnI.nil _ _ _ _, bE.out.trans ((hB1.trans (hB2.mono hB1.size)).mono (by omega))⟩
    | true =>
      rw [endsR_yes hv, ← hn]
      have of := okF_out hf
      have ol := okL_out (okG_out hv).1
      have HE := hid (fun (V : World) (hB : Below W.heap.size W V) => ends_susp w.heap.size (w.heap.size + 1) b n cap js hn (suspP (szL zs) js lo hi) V (HR.out.below hB HR.out.1) (fun k W2 hk hB2 => susp1_any bS nS capS zs hnS (okG_out hv).1 _ _ _ _ lo hi (by have := okG_len hv k (by omega); omega) (by have := okG_len hv k (by omega); omega) (by omega) (by omega) w.heap.size (w.heap.size + 1) W2 ((HS.out.below hB hbs).below hB2 (Nat.lt_of_lt_of_le hbs hB.size)) (((Q0.out.below hB Q0.out.lt).below hB2 (Nat.lt_of_lt_of_le Q0.out.lt hB.size)).cell 0) (((Q1.out.below hB Q1.out.lt).below hB2 (Nat.lt_of_lt_of_le Q1.out.lt hB.size)).cell 0) (((Q1.out.below hB Q1.out.lt).below hB2 (Nat.lt_of_lt_of_le Q1.out.lt hB.size)).cell 1) ((Q0.out.below hB Q0.out.lt).below hB2 (Nat.lt_of_lt_of_le Q0.out.lt hB.size)).lt ((Q1.out.below hB Q1.out.lt).below hB2 (Nat.lt_of_lt_of_le Q1.out.lt hB.size)).lt))
      rw [hv] at HV
      rw [hf] at HF
      obtain ⟨E, hE⟩ : ∃ E, endsP (suspP (szL zs) js lo hi) (List.finRange (n - 1)) = E := ⟨_, rfl⟩
      rw [hE] at HE ⊢
      clear hE hv hn hf of ol hnS
      go_enter Try.func8, Try.ntmps8
      go_wp2_with fail
      rw [← hW2.out]
      refine HV.out.mono ?_
      rintro e w1 ⟨rfl, hB1⟩
      have b1 := hid hB1
      have hz1 := hB1.size
      have r1 := Q1.out.below hB1 Q1.out.lt
      have y0 := r1.cell 0
      have y1 := r1.cell 1
      simp only [List.getElem?_cons_zero, List.getElem?_cons_succ] at y0 y1
      clear r1 hB1
      go_wp2_with fail
      refine (HF.out _).mono ?_
      rintro e w2 ⟨rfl, hB2⟩
      have hz2 := hB2.size
      have b2 := hid (b1.out.trans (hB2.mono hz1))
      clear y0 y1 hB2
      go_wp2_with fail
      refine (HE.out w2 b2.out).mono ?_
      rintro e w3 ⟨v, rfl, hO, hB3⟩
      go_wp2_with fail
      go_ret2
      exact ⟨v, rfl, hO.base (by omega), bE.out.trans ((b2.out.trans (hB3.mono (by omega))).mono (by omega))⟩
end Go.Proofs.Ytofpgkbcodopiaa
