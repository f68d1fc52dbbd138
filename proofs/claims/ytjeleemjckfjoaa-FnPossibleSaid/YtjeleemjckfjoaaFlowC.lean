/- An interval of two readings, or the code with which it is refused; the program's. -/
import Derived.Test.YtjeleemjckfjoaaFlowB
namespace Go.Proofs.Ytjeleemjckfjoaa
open Go.RowKit
def codeP (zs : List Int) (a u b v lo hi : Int) : Int := if okL zs && (okRd (szL zs) a u && (okRd (szL zs) b v && okF lo hi)) then (if b ≤ a then 2 else 0) else 1
theorem codeP_1 {zs : List Int} {a u b v lo hi : Int} (h : okL zs = false) : codeP zs a u b v lo hi = 1 := by simp [codeP, h]
theorem codeP_2 {zs : List Int} {a u b v lo hi : Int} (h : okRd (szL zs) a u = false) : codeP zs a u b v lo hi = 1 := by simp [codeP, h]
theorem codeP_3 {zs : List Int} {a u b v lo hi : Int} (h : okRd (szL zs) b v = false) : codeP zs a u b v lo hi = 1 := by simp [codeP, h]
theorem codeP_4 {zs : List Int} {a u b v lo hi : Int} (h : okF lo hi = false) : codeP zs a u b v lo hi = 1 := by simp [codeP, h]
theorem codeP_5 {zs : List Int} {a u b v lo hi : Int} (h1 : okL zs = true) (h2 : okRd (szL zs) a u = true) (h3 : okRd (szL zs) b v = true) (h4 : okF lo hi = true) (h : b ≤ a) : codeP zs a u b v lo hi = 2 := by simp [codeP, h1, h2, h3, h4, h]
theorem codeP_6 {zs : List Int} {a u b v lo hi : Int} (h1 : okL zs = true) (h2 : okRd (szL zs) a u = true) (h3 : okRd (szL zs) b v = true) (h4 : okF lo hi = true) (h : a < b) : codeP zs a u b v lo hi = 0 := by
  have : ¬ b ≤ a := by omega
  simp [codeP, h1, h2, h3, h4, this]
theorem codeP_out {zs : List Int} {a u b v lo hi : Int} (h : codeP zs a u b v lo hi = 0) : okL zs = true ∧ okRd (szL zs) a u = true ∧ okRd (szL zs) b v = true ∧ okF lo hi = true ∧ a < b := by
  unfold codeP at h
  split at h
  · rename_i k
    simp only [Bool.and_eq_true] at k
    split at h
    · simp at h
    · exact ⟨k.1, k.2.1, k.2.2.1, k.2.2.2, by omega⟩
  · simp at h
/-- the interval that is handed back with a code -/
def ivR (c a u b v : Int) : Value := if c = 0 then .agg #[.int .i64 a, .int .i64 u, .int .i64 b, .int .i64 v] else .agg #[.int .i64 0, .int .i64 0, .int .i64 0, .int .i64 0]
def tupI (c a u b v : Int) : Value := .tuple #[ivR c a u b v, .int .i64 c]
theorem tupI_0 (a u b v : Int) : tupI 0 a u b v = .tuple #[.agg #[.int .i64 a, .int .i64 u, .int .i64 b, .int .i64 v], .int .i64 0] := rfl
theorem tupI_1 (a u b v : Int) : tupI 1 a u b v = .tuple #[.agg #[.int .i64 0, .int .i64 0, .int .i64 0, .int .i64 0], .int .i64 1] := rfl
theorem tupI_2 (a u b v : Int) : tupI 2 a u b v = .tuple #[.agg #[.int .i64 0, .int .i64 0, .int .i64 0, .int .i64 0], .int .i64 2] := rfl
theorem iv_boxes (w : World) (T1 T2 T3 : TypeId) (a u b v x y c d e f : Value) : ∀ W, W = ((((w.alloc (.cells #[a, u] T1)).alloc (.cells #[b, v] T1)).alloc (.cells #[x, y] T2)).alloc (.cells #[c, d, e, f] T3)) →
    Row W w.heap.size T1 [a, u] ∧ Row W (w.heap.size + 1) T1 [b, v] ∧ Row W (w.heap.size + 1 + 1) T2 [x, y] ∧ Row W (w.heap.size + 1 + 1 + 1) T3 [c, d, e, f] ∧ Below w.heap.size w W ∧ W.heap.size = w.heap.size + 1 + 1 + 1 + 1 := by
  rintro W rfl
  have h1 := Row.new (w.alloc (.cells #[a, u] T1)) T1 [b, v]
  have h2 := Row.new ((w.alloc (.cells #[a, u] T1)).alloc (.cells #[b, v] T1)) T2 [x, y]
  have h3 := Row.new (((w.alloc (.cells #[a, u] T1)).alloc (.cells #[b, v] T1)).alloc (.cells #[x, y] T2)) T3 [c, d, e, f]
  simp only [World.size_alloc] at h1 h2 h3
  exact ⟨(((Row.new w T1 [a, u]).alloc _).alloc _).alloc _, (h1.alloc _).alloc _, h2.alloc _, h3, (((box2_bel w T1 a u).alloc (by simp) _).alloc (by simp; omega) _).alloc (by simp; omega) _, by simp⟩
theorem quad_again {w : World} {g : Nat} {T : TypeId} {a b c d : Value} (x y z u : Value) (h : Row w g T [a, b, c, d]) : ∀ W, W = (((w.setCell ⟨g, 0, none⟩ x).setCell ⟨g, 1, none⟩ y).setCell ⟨g, 2, none⟩ z).setCell ⟨g, 3, none⟩ u →
    Row W g T [x, y, z, u] ∧ (∀ k, k ≤ g → Below k w W) ∧ W.heap.size = w.heap.size := by
  rintro W rfl
  exact ⟨(((h.set 0 x).set 1 y).set 2 z).set 3 u, fun k hk => ((((Below.refl _ w).setCell (p := ⟨g, 0, none⟩) hk x).setCell (p := ⟨g, 1, none⟩) hk y).setCell (p := ⟨g, 2, none⟩) hk z).setCell (p := ⟨g, 3, none⟩) hk u, by simp⟩
set_option maxHeartbeats 4000000 in
theorem implIntervalOf_any (bS n cap : Nat) (zs : List Int) (hn : n = zs.length) (a u b v lo hi : Int) (w : World) (hS : Stk w bS zs) :
    Calls Try.prog 18 #[.slice (some ⟨bS, 0, none⟩) n cap, .agg #[.int .i64 a, .int .i64 u], .agg #[.int .i64 b, .int .i64 v], .agg #[.int .i64 lo, .int .i64 hi]] w (GivesB w (tupI (codeP zs a u b v lo hi) a u b v)) := by
  obtain ⟨W, hW⟩ : ∃ W, W = ((((w.alloc (.cells #[.int .i64 a, .int .i64 u] 32)).alloc (.cells #[.int .i64 b, .int .i64 v] 32)).alloc (.cells #[.int .i64 lo, .int .i64 hi] 27)).alloc (.cells #[.int .i64 0, .int .i64 0, .int .i64 0, .int .i64 0] 46)) := ⟨_, rfl⟩
  obtain ⟨q0, q1, q2, q3, bW, sW⟩ := iv_boxes w _ _ _ _ _ _ _ _ _ _ _ _ _ W hW
  have HV := hid (validStack_any bS n cap zs W (hS.below bW hS.1) hn)
  have HS := hid (hS.below bW hS.1)
  have hbs := HS.out.1
  have bE := hid bW
  have SW := hid sW
  have hW2 := hid hW
  have Q0 := hid q0
  have Q1 := hid q1
  have Q2 := hid q2
  have Q3 := hid q3
  clear hW bW sW hS q0 q1 q2 q3
  cases h1 : okL zs with
  | false =>
    rw [codeP_1 h1, tupI_1]
    rw [h1] at HV
    clear h1 hn
    go_enter Try.func18, Try.ntmps18
    go_wp2_with fail
    rw [← hW2.out]
    refine HV.out.mono ?_
    rintro e w' ⟨rfl, rfl⟩
    have s0 := SW.out
    have d0 := Q3.out.cell 0
    have f0 := Q3.out.frozen 0
    have d1 := Q3.out.cell 1
    have f1 := Q3.out.frozen 1
    have d2 := Q3.out.cell 2
    have f2 := Q3.out.frozen 2
    have d3 := Q3.out.cell 3
    have f3 := Q3.out.frozen 3
    simp only [List.getElem?_cons_zero, List.getElem?_cons_succ] at d0 d1 d2 d3
    have P := hid (quad_again (.int .i64 0) (.int .i64 0) (.int .i64 0) (.int .i64 0) Q3.out)
    have bZ := hid bE.out
    go_wp2_with fail
    obtain ⟨V, hV⟩ : ∃ V, V = ((((W.setCell ⟨w.heap.size + 1 + 1 + 1, 0, none⟩ (.int .i64 0)).setCell ⟨w.heap.size + 1 + 1 + 1, 1, none⟩ (.int .i64 0)).setCell ⟨w.heap.size + 1 + 1 + 1, 2, none⟩ (.int .i64 0)).setCell ⟨w.heap.size + 1 + 1 + 1, 3, none⟩ (.int .i64 0)) := ⟨_, rfl⟩
    obtain ⟨rV, bV, _⟩ := P.out V hV
    rw [← hV]
    clear hV d0 d1 d2 d3 f0 f1 f2 f3
    have g0 := rV.cell 0
    have g1 := rV.cell 1
    have g2 := rV.cell 2
    have g3 := rV.cell 3
    simp only [List.getElem?_cons_zero, List.getElem?_cons_succ] at g0 g1 g2 g3
    exact bodyPost_ret (v := .tuple #[.agg #[.int .i64 0, .int .i64 0, .int .i64 0, .int .i64 0], .int .i64 1]) (by simp [results, Try.results18, go_sem, g0, g1, g2, g3]) rfl ⟨rfl, bZ.out.trans (bV _ (by omega))⟩
  | true =>
    rw [h1] at HV
    have H1 := hid (fun w hS => hasReading_any bS n cap zs hn h1 a u w hS)
    cases h2 : okRd (szL zs) a u with
    | false =>
      rw [codeP_2 h2, tupI_1]
      rw [h2] at H1
      clear h1 h2 hn
      go_enter Try.func18, Try.ntmps18
      go_wp2_with fail
      rw [← hW2.out]
      refine HV.out.mono ?_
      rintro e w' ⟨rfl, rfl⟩
      have s0 := SW.out
      have x1 := Q0.out.cell 0
      have y1 := Q0.out.cell 1
      simp only [List.getElem?_cons_zero, List.getElem?_cons_succ] at x1 y1
      go_wp2_with fail
      refine (H1.out W HS.out).mono ?_
      rintro e w1 ⟨rfl, hB1⟩
      have hz1 := hB1.size
      have b1 := hid (hB1)
      have r1_0 := Q0.out.below hB1 (by omega)
      have r1_1 := Q1.out.below hB1 (by omega)
      have r1_2 := Q2.out.below hB1 (by omega)
      have r1_3 := Q3.out.below hB1 (by omega)
      clear x1 y1 hB1
      have d0 := r1_3.cell 0
      have f0 := r1_3.frozen 0
      have d1 := r1_3.cell 1
      have f1 := r1_3.frozen 1
      have d2 := r1_3.cell 2
      have f2 := r1_3.frozen 2
      have d3 := r1_3.cell 3
      have f3 := r1_3.frozen 3
      simp only [List.getElem?_cons_zero, List.getElem?_cons_succ] at d0 d1 d2 d3
      have P := hid (quad_again (.int .i64 0) (.int .i64 0) (.int .i64 0) (.int .i64 0) r1_3)
      have bZ := hid (bE.out.trans (b1.out.mono (by omega)))
      go_wp2_with fail
      obtain ⟨V, hV⟩ : ∃ V, V = ((((w1.setCell ⟨w.heap.size + 1 + 1 + 1, 0, none⟩ (.int .i64 0)).setCell ⟨w.heap.size + 1 + 1 + 1, 1, none⟩ (.int .i64 0)).setCell ⟨w.heap.size + 1 + 1 + 1, 2, none⟩ (.int .i64 0)).setCell ⟨w.heap.size + 1 + 1 + 1, 3, none⟩ (.int .i64 0)) := ⟨_, rfl⟩
      obtain ⟨rV, bV, _⟩ := P.out V hV
      rw [← hV]
      clear hV d0 d1 d2 d3 f0 f1 f2 f3
      have g0 := rV.cell 0
      have g1 := rV.cell 1
      have g2 := rV.cell 2
      have g3 := rV.cell 3
      simp only [List.getElem?_cons_zero, List.getElem?_cons_succ] at g0 g1 g2 g3
      exact bodyPost_ret (v := .tuple #[.agg #[.int .i64 0, .int .i64 0, .int .i64 0, .int .i64 0], .int .i64 1]) (by simp [results, Try.results18, go_sem, g0, g1, g2, g3]) rfl ⟨rfl, bZ.out.trans (bV _ (by omega))⟩
    | true =>
      rw [h2] at H1
      have H2 := hid (fun w hS => hasReading_any bS n cap zs hn h1 b v w hS)
      cases h3 : okRd (szL zs) b v with
      | false =>
        rw [codeP_3 h3, tupI_1]
        rw [h3] at H2
        clear h1 h2 h3 hn
        go_enter Try.func18, Try.ntmps18
        go_wp2_with fail
        rw [← hW2.out]
        refine HV.out.mono ?_
        rintro e w' ⟨rfl, rfl⟩
        have s0 := SW.out
        have x1 := Q0.out.cell 0
        have y1 := Q0.out.cell 1
        simp only [List.getElem?_cons_zero, List.getElem?_cons_succ] at x1 y1
        go_wp2_with fail
        refine (H1.out W HS.out).mono ?_
        rintro e w1 ⟨rfl, hB1⟩
        have hz1 := hB1.size
        have b1 := hid (hB1)
        have r1_0 := Q0.out.below hB1 (by omega)
        have r1_1 := Q1.out.below hB1 (by omega)
        have r1_2 := Q2.out.below hB1 (by omega)
        have r1_3 := Q3.out.below hB1 (by omega)
        clear x1 y1 hB1
        have x2 := r1_1.cell 0
        have y2 := r1_1.cell 1
        simp only [List.getElem?_cons_zero, List.getElem?_cons_succ] at x2 y2
        go_wp2_with fail
        refine (H2.out w1 (HS.out.below b1.out hbs)).mono ?_
        rintro e w2 ⟨rfl, hB2⟩
        have hz2 := hB2.size
        have b2 := hid (b1.out.trans (hB2.mono b1.out.size))
        have r2_0 := r1_0.below hB2 (by omega)
        have r2_1 := r1_1.below hB2 (by omega)
        have r2_2 := r1_2.below hB2 (by omega)
        have r2_3 := r1_3.below hB2 (by omega)
        clear x2 y2 hB2
        have d0 := r2_3.cell 0
        have f0 := r2_3.frozen 0
        have d1 := r2_3.cell 1
        have f1 := r2_3.frozen 1
        have d2 := r2_3.cell 2
        have f2 := r2_3.frozen 2
        have d3 := r2_3.cell 3
        have f3 := r2_3.frozen 3
        simp only [List.getElem?_cons_zero, List.getElem?_cons_succ] at d0 d1 d2 d3
        have P := hid (quad_again (.int .i64 0) (.int .i64 0) (.int .i64 0) (.int .i64 0) r2_3)
        have bZ := hid (bE.out.trans (b2.out.mono (by omega)))
        go_wp2_with fail
        obtain ⟨V, hV⟩ : ∃ V, V = ((((w2.setCell ⟨w.heap.size + 1 + 1 + 1, 0, none⟩ (.int .i64 0)).setCell ⟨w.heap.size + 1 + 1 + 1, 1, none⟩ (.int .i64 0)).setCell ⟨w.heap.size + 1 + 1 + 1, 2, none⟩ (.int .i64 0)).setCell ⟨w.heap.size + 1 + 1 + 1, 3, none⟩ (.int .i64 0)) := ⟨_, rfl⟩
        obtain ⟨rV, bV, _⟩ := P.out V hV
        rw [← hV]
        clear hV d0 d1 d2 d3 f0 f1 f2 f3
        have g0 := rV.cell 0
        have g1 := rV.cell 1
        have g2 := rV.cell 2
        have g3 := rV.cell 3
        simp only [List.getElem?_cons_zero, List.getElem?_cons_succ] at g0 g1 g2 g3
        exact bodyPost_ret (v := .tuple #[.agg #[.int .i64 0, .int .i64 0, .int .i64 0, .int .i64 0], .int .i64 1]) (by simp [results, Try.results18, go_sem, g0, g1, g2, g3]) rfl ⟨rfl, bZ.out.trans (bV _ (by omega))⟩
      | true =>
        rw [h3] at H2
        have H3 := hid (fun w => implValidFlow_any lo hi w)
        cases h4 : okF lo hi with
        | false =>
          rw [codeP_4 h4, tupI_1]
          rw [h4] at H3
          clear h1 h2 h3 h4 hn
          go_enter Try.func18, Try.ntmps18
          go_wp2_with fail
          rw [← hW2.out]
          refine HV.out.mono ?_
          rintro e w' ⟨rfl, rfl⟩
          have s0 := SW.out
          have x1 := Q0.out.cell 0
          have y1 := Q0.out.cell 1
          simp only [List.getElem?_cons_zero, List.getElem?_cons_succ] at x1 y1
          go_wp2_with fail
          refine (H1.out W HS.out).mono ?_
          rintro e w1 ⟨rfl, hB1⟩
          have hz1 := hB1.size
          have b1 := hid (hB1)
          have r1_0 := Q0.out.below hB1 (by omega)
          have r1_1 := Q1.out.below hB1 (by omega)
          have r1_2 := Q2.out.below hB1 (by omega)
          have r1_3 := Q3.out.below hB1 (by omega)
          clear x1 y1 hB1
          have x2 := r1_1.cell 0
          have y2 := r1_1.cell 1
          simp only [List.getElem?_cons_zero, List.getElem?_cons_succ] at x2 y2
          go_wp2_with fail
          refine (H2.out w1 (HS.out.below b1.out hbs)).mono ?_
          rintro e w2 ⟨rfl, hB2⟩
          have hz2 := hB2.size
          have b2 := hid (b1.out.trans (hB2.mono b1.out.size))
          have r2_0 := r1_0.below hB2 (by omega)
          have r2_1 := r1_1.below hB2 (by omega)
          have r2_2 := r1_2.below hB2 (by omega)
          have r2_3 := r1_3.below hB2 (by omega)
          clear x2 y2 hB2
          have x3 := r2_2.cell 0
          have y3 := r2_2.cell 1
          simp only [List.getElem?_cons_zero, List.getElem?_cons_succ] at x3 y3
          go_wp2_with fail
          refine (H3.out w2).mono ?_
          rintro e w3 ⟨rfl, hB3⟩
          have hz3 := hB3.size
          have b3 := hid (b2.out.trans (hB3.mono b2.out.size))
          have r3_0 := r2_0.below hB3 (by omega)
          have r3_1 := r2_1.below hB3 (by omega)
          have r3_2 := r2_2.below hB3 (by omega)
          have r3_3 := r2_3.below hB3 (by omega)
          clear x3 y3 hB3
          have d0 := r3_3.cell 0
          have f0 := r3_3.frozen 0
          have d1 := r3_3.cell 1
          have f1 := r3_3.frozen 1
          have d2 := r3_3.cell 2
          have f2 := r3_3.frozen 2
          have d3 := r3_3.cell 3
          have f3 := r3_3.frozen 3
          simp only [List.getElem?_cons_zero, List.getElem?_cons_succ] at d0 d1 d2 d3
          have P := hid (quad_again (.int .i64 0) (.int .i64 0) (.int .i64 0) (.int .i64 0) r3_3)
          have bZ := hid (bE.out.trans (b3.out.mono (by omega)))
          go_wp2_with fail
          obtain ⟨V, hV⟩ : ∃ V, V = ((((w3.setCell ⟨w.heap.size + 1 + 1 + 1, 0, none⟩ (.int .i64 0)).setCell ⟨w.heap.size + 1 + 1 + 1, 1, none⟩ (.int .i64 0)).setCell ⟨w.heap.size + 1 + 1 + 1, 2, none⟩ (.int .i64 0)).setCell ⟨w.heap.size + 1 + 1 + 1, 3, none⟩ (.int .i64 0)) := ⟨_, rfl⟩
          obtain ⟨rV, bV, _⟩ := P.out V hV
          rw [← hV]
          clear hV d0 d1 d2 d3 f0 f1 f2 f3
          have g0 := rV.cell 0
          have g1 := rV.cell 1
          have g2 := rV.cell 2
          have g3 := rV.cell 3
          simp only [List.getElem?_cons_zero, List.getElem?_cons_succ] at g0 g1 g2 g3
          exact bodyPost_ret (v := .tuple #[.agg #[.int .i64 0, .int .i64 0, .int .i64 0, .int .i64 0], .int .i64 1]) (by simp [results, Try.results18, go_sem, g0, g1, g2, g3]) rfl ⟨rfl, bZ.out.trans (bV _ (by omega))⟩
        | true =>
          rw [h4] at H3
          obtain ⟨a1, a2, a3, a4⟩ := okRd_out h2
          obtain ⟨a5, a6, a7, a8⟩ := okRd_out h3
          have HD := hid (fun w => days_any a u b v (by omega) w)
          have qn := hid (fun w' (s : Below W.heap.size W w') => Row.new w' 46 [.int .i64 a, .int .i64 u, .int .i64 b, .int .i64 v])
          by_cases hd : b ≤ a
          · rw [codeP_5 h1 h2 h3 h4 hd, tupI_2]
            have dd : b - a < 1 := by omega
            clear h1 h2 h3 h4 hn a1 a2 a3 a4 a5 a6 a7 a8 qn
            go_enter Try.func18, Try.ntmps18
            go_wp2_with fail
            rw [← hW2.out]
            refine HV.out.mono ?_
            rintro e w' ⟨rfl, rfl⟩
            have s0 := SW.out
            have x1 := Q0.out.cell 0
            have y1 := Q0.out.cell 1
            simp only [List.getElem?_cons_zero, List.getElem?_cons_succ] at x1 y1
            go_wp2_with fail
            refine (H1.out W HS.out).mono ?_
            rintro e w1 ⟨rfl, hB1⟩
            have hz1 := hB1.size
            have b1 := hid (hB1)
            have r1_0 := Q0.out.below hB1 (by omega)
            have r1_1 := Q1.out.below hB1 (by omega)
            have r1_2 := Q2.out.below hB1 (by omega)
            have r1_3 := Q3.out.below hB1 (by omega)
            clear x1 y1 hB1
            have x2 := r1_1.cell 0
            have y2 := r1_1.cell 1
            simp only [List.getElem?_cons_zero, List.getElem?_cons_succ] at x2 y2
            go_wp2_with fail
            refine (H2.out w1 (HS.out.below b1.out hbs)).mono ?_
            rintro e w2 ⟨rfl, hB2⟩
            have hz2 := hB2.size
            have b2 := hid (b1.out.trans (hB2.mono b1.out.size))
            have r2_0 := r1_0.below hB2 (by omega)
            have r2_1 := r1_1.below hB2 (by omega)
            have r2_2 := r1_2.below hB2 (by omega)
            have r2_3 := r1_3.below hB2 (by omega)
            clear x2 y2 hB2
            have x3 := r2_2.cell 0
            have y3 := r2_2.cell 1
            simp only [List.getElem?_cons_zero, List.getElem?_cons_succ] at x3 y3
            go_wp2_with fail
            refine (H3.out w2).mono ?_
            rintro e w3 ⟨rfl, hB3⟩
            have hz3 := hB3.size
            have b3 := hid (b2.out.trans (hB3.mono b2.out.size))
            have r3_0 := r2_0.below hB3 (by omega)
            have r3_1 := r2_1.below hB3 (by omega)
            have r3_2 := r2_2.below hB3 (by omega)
            have r3_3 := r2_3.below hB3 (by omega)
            clear x3 y3 hB3
            have x4 := r3_0.cell 0
            have y4 := r3_0.cell 1
            simp only [List.getElem?_cons_zero, List.getElem?_cons_succ] at x4 y4
            have x5 := r3_1.cell 0
            have y5 := r3_1.cell 1
            simp only [List.getElem?_cons_zero, List.getElem?_cons_succ] at x5 y5
            have N0 := Row.new w3 46 [.int .i64 a, .int .i64 u, .int .i64 b, .int .i64 v]
            have b4 := hid ((b3.out.mono (Nat.le_refl _)).alloc (by omega) (.cells #[.int .i64 a, .int .i64 u, .int .i64 b, .int .i64 v] 46))
            have m3 := r3_3.alloc (.cells #[.int .i64 a, .int .i64 u, .int .i64 b, .int .i64 v] 46)
            go_wp2_with fail
            refine (HD.out _).mono ?_
            rintro e w5 ⟨rfl, hB5⟩
            have hz5 := hB5.size
            simp only [World.size_alloc] at hB5 hz5
            have r5_3 := m3.below hB5 (by omega)
            have n5 := N0.below hB5 (by omega)
            have b5 := hid (b4.out.trans (hB5.mono (by omega)))
            clear x4 y4 x5 y5 m3 N0 hB5
            have d0 := r5_3.cell 0
            have f0 := r5_3.frozen 0
            have d1 := r5_3.cell 1
            have f1 := r5_3.frozen 1
            have d2 := r5_3.cell 2
            have f2 := r5_3.frozen 2
            have d3 := r5_3.cell 3
            have f3 := r5_3.frozen 3
            simp only [List.getElem?_cons_zero, List.getElem?_cons_succ] at d0 d1 d2 d3
            have P := hid (quad_again (.int .i64 0) (.int .i64 0) (.int .i64 0) (.int .i64 0) r5_3)
            have bZ := hid (bE.out.trans (b5.out.mono (by omega)))
            go_wp2_with fail
            obtain ⟨V, hV⟩ : ∃ V, V = ((((w5.setCell ⟨w.heap.size + 1 + 1 + 1, 0, none⟩ (.int .i64 0)).setCell ⟨w.heap.size + 1 + 1 + 1, 1, none⟩ (.int .i64 0)).setCell ⟨w.heap.size + 1 + 1 + 1, 2, none⟩ (.int .i64 0)).setCell ⟨w.heap.size + 1 + 1 + 1, 3, none⟩ (.int .i64 0)) := ⟨_, rfl⟩
            obtain ⟨rV, bV, _⟩ := P.out V hV
            rw [← hV]
            clear hV d0 d1 d2 d3 f0 f1 f2 f3
            have g0 := rV.cell 0
            have g1 := rV.cell 1
            have g2 := rV.cell 2
            have g3 := rV.cell 3
            simp only [List.getElem?_cons_zero, List.getElem?_cons_succ] at g0 g1 g2 g3
            exact bodyPost_ret (v := .tuple #[.agg #[.int .i64 0, .int .i64 0, .int .i64 0, .int .i64 0], .int .i64 2]) (by simp [results, Try.results18, go_sem, g0, g1, g2, g3]) rfl ⟨rfl, bZ.out.trans (bV _ (by omega))⟩
          · rw [codeP_6 h1 h2 h3 h4 (by omega), tupI_0]
            have dd : ¬ b - a < 1 := by omega
            have dd2 : 1 ≤ b - a := by omega
            clear h1 h2 h3 h4 hn a1 a2 a3 a4 a5 a6 a7 a8 qn
            go_enter Try.func18, Try.ntmps18
            go_wp2_with fail
            rw [← hW2.out]
            refine HV.out.mono ?_
            rintro e w' ⟨rfl, rfl⟩
            have s0 := SW.out
            have x1 := Q0.out.cell 0
            have y1 := Q0.out.cell 1
            simp only [List.getElem?_cons_zero, List.getElem?_cons_succ] at x1 y1
            go_wp2_with fail
            refine (H1.out W HS.out).mono ?_
            rintro e w1 ⟨rfl, hB1⟩
            have hz1 := hB1.size
            have b1 := hid (hB1)
            have r1_0 := Q0.out.below hB1 (by omega)
            have r1_1 := Q1.out.below hB1 (by omega)
            have r1_2 := Q2.out.below hB1 (by omega)
            have r1_3 := Q3.out.below hB1 (by omega)
            clear x1 y1 hB1
            have x2 := r1_1.cell 0
            have y2 := r1_1.cell 1
            simp only [List.getElem?_cons_zero, List.getElem?_cons_succ] at x2 y2
            go_wp2_with fail
            refine (H2.out w1 (HS.out.below b1.out hbs)).mono ?_
            rintro e w2 ⟨rfl, hB2⟩
            have hz2 := hB2.size
            have b2 := hid (b1.out.trans (hB2.mono b1.out.size))
            have r2_0 := r1_0.below hB2 (by omega)
            have r2_1 := r1_1.below hB2 (by omega)
            have r2_2 := r1_2.below hB2 (by omega)
            have r2_3 := r1_3.below hB2 (by omega)
            clear x2 y2 hB2
            have x3 := r2_2.cell 0
            have y3 := r2_2.cell 1
            simp only [List.getElem?_cons_zero, List.getElem?_cons_succ] at x3 y3
            go_wp2_with fail
            refine (H3.out w2).mono ?_
            rintro e w3 ⟨rfl, hB3⟩
            have hz3 := hB3.size
            have b3 := hid (b2.out.trans (hB3.mono b2.out.size))
            have r3_0 := r2_0.below hB3 (by omega)
            have r3_1 := r2_1.below hB3 (by omega)
            have r3_2 := r2_2.below hB3 (by omega)
            have r3_3 := r2_3.below hB3 (by omega)
            clear x3 y3 hB3
            have x4 := r3_0.cell 0
            have y4 := r3_0.cell 1
            simp only [List.getElem?_cons_zero, List.getElem?_cons_succ] at x4 y4
            have x5 := r3_1.cell 0
            have y5 := r3_1.cell 1
            simp only [List.getElem?_cons_zero, List.getElem?_cons_succ] at x5 y5
            have N0 := Row.new w3 46 [.int .i64 a, .int .i64 u, .int .i64 b, .int .i64 v]
            have b4 := hid ((b3.out.mono (Nat.le_refl _)).alloc (by omega) (.cells #[.int .i64 a, .int .i64 u, .int .i64 b, .int .i64 v] 46))
            have m3 := r3_3.alloc (.cells #[.int .i64 a, .int .i64 u, .int .i64 b, .int .i64 v] 46)
            go_wp2_with fail
            refine (HD.out _).mono ?_
            rintro e w5 ⟨rfl, hB5⟩
            have hz5 := hB5.size
            simp only [World.size_alloc] at hB5 hz5
            have r5_3 := m3.below hB5 (by omega)
            have n5 := N0.below hB5 (by omega)
            have b5 := hid (b4.out.trans (hB5.mono (by omega)))
            clear x4 y4 x5 y5 m3 N0 hB5
            have e0 := n5.cell 0
            have e1 := n5.cell 1
            have e2 := n5.cell 2
            have e3 := n5.cell 3
            simp only [List.getElem?_cons_zero, List.getElem?_cons_succ] at e0 e1 e2 e3
            have d0 := r5_3.cell 0
            have f0 := r5_3.frozen 0
            have d1 := r5_3.cell 1
            have f1 := r5_3.frozen 1
            have d2 := r5_3.cell 2
            have f2 := r5_3.frozen 2
            have d3 := r5_3.cell 3
            have f3 := r5_3.frozen 3
            simp only [List.getElem?_cons_zero, List.getElem?_cons_succ] at d0 d1 d2 d3
            have P := hid (quad_again (.int .i64 a) (.int .i64 u) (.int .i64 b) (.int .i64 v) r5_3)
            have bZ := hid (bE.out.trans (b5.out.mono (by omega)))
            go_wp2_with fail
            obtain ⟨V, hV⟩ : ∃ V, V = ((((w5.setCell ⟨w.heap.size + 1 + 1 + 1, 0, none⟩ (.int .i64 a)).setCell ⟨w.heap.size + 1 + 1 + 1, 1, none⟩ (.int .i64 u)).setCell ⟨w.heap.size + 1 + 1 + 1, 2, none⟩ (.int .i64 b)).setCell ⟨w.heap.size + 1 + 1 + 1, 3, none⟩ (.int .i64 v)) := ⟨_, rfl⟩
            obtain ⟨rV, bV, _⟩ := P.out V hV
            rw [← hV]
            clear hV d0 d1 d2 d3 f0 f1 f2 f3
            have g0 := rV.cell 0
            have g1 := rV.cell 1
            have g2 := rV.cell 2
            have g3 := rV.cell 3
            simp only [List.getElem?_cons_zero, List.getElem?_cons_succ] at g0 g1 g2 g3
            exact bodyPost_ret (v := .tuple #[.agg #[.int .i64 a, .int .i64 u, .int .i64 b, .int .i64 v], .int .i64 0]) (by simp [results, Try.results18, go_sem, g0, g1, g2, g3]) rfl ⟨rfl, bZ.out.trans (bV _ (by omega))⟩
end Go.Proofs.Ytjeleemjckfjoaa
