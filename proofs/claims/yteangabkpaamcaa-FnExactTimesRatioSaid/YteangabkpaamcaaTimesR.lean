/- TimesRatio: the program's and the model's. -/
import Derived.Test.YteangabkpaamcaaTimes
import Derived.Deep.DeepCutAuto
import Derived.Test.YteangabkpaamcaaHeld
import Derived.Deep.RegionHeld3
namespace Go.Proofs.Yteangabkpaamcaa
open Go.RowKit
set_option linter.unusedSimpArgs false
theorem bel_step {W w w' : World} (h : Below W.heap.size W w) (hB : Below w.heap.size w w') : Below W.heap.size W w' := h.trans (hB.mono h.size)
theorem Row.set2 {w : World} {g : Nat} {T : TypeId} {a b : Value} (h : Row w g T [a, b]) (x y : Value) : Row ((w.setCell ⟨g, 0, none⟩ x).setCell ⟨g, 1, none⟩ y) g T [x, y] := (h.set 0 x).set 1 y
def timesR (p q u v : Int) : (Int × Int) × Int := if okR p q && okR u v then madeR (timesP p q u v) (timesQ p q u v) else ((0, 0), 1)
theorem timesR_no1 {p q u v : Int} (h : okR p q = false) : timesR p q u v = ((0, 0), 1) := by simp [timesR, h]
theorem timesR_no2 {p q u v : Int} (h : okR u v = false) : timesR p q u v = ((0, 0), 1) := by simp [timesR, h]
theorem timesR_yes {p q u v : Int} (h : okR p q = true) (k : okR u v = true) : timesR p q u v = madeR (timesP p q u v) (timesQ p q u v) := by simp [timesR, h, k]
set_option maxHeartbeats 40000000 in
theorem specTimes_any (p q u v : Int) (hp : I64 p) (hq : I64 q) (hu : I64 u) (hv : I64 v) (w : World) :
    Calls Try.prog 7 #[.agg #[.int .i64 p, .int .i64 q], .agg #[.int .i64 u, .int .i64 v]] w (GivesB w (pairV (timesR p q u v))) := by
  have H1 := hid (fun w => l03Ok_any p q hp hq w)
  have H2 := hid (fun w => l03Ok_any u v hu hv w)
  obtain ⟨q0, q1, q2, bW, sW⟩ := three_ratios w 24 (.int .i64 p) (.int .i64 q) (.int .i64 u) (.int .i64 v) (.int .i64 0) (.int .i64 0) _ rfl
  have bE := hid bW
  have Q0 := hid q0
  have Q1 := hid q1
  have Q2 := hid q2
  clear bW sW q0 q1 q2 hp hq hu hv
  cases h1 : okR p q with
  | false =>
    rw [timesR_no1 h1]
    unfold pairV
    rw [h1] at H1
    clear h1
    go_enter Try.func7, Try.ntmps7
    go_wp2_with fail
    refine (H1.out _).mono ?_
    rintro e w1 ⟨rfl, hB1⟩
    have hz1 := hB1.size
    simp only [World.size_alloc] at hB1 hz1
    have r0 := Q0.out.below hB1 (by omega)
    have r1 := Q1.out.below hB1 (by omega)
    have r2 := Q2.out.below hB1 (by omega)
    have c0 := r0.cell 0
    have c1 := r0.cell 1
    have c2 := r1.cell 0
    have c3 := r1.cell 1
    simp only [List.getElem?_cons_zero, List.getElem?_cons_succ] at c0 c1 c2 c3
    have d0 := r2.cell 0
    have d1 := r2.cell 1
    have f0 := r2.frozen 0
    have f1 := r2.frozen 1
    simp only [List.getElem?_cons_zero, List.getElem?_cons_succ] at d0 d1
    have P := hid (pair_again (.int .i64 0) (.int .i64 0) r2)
    have bZ := hid (bE.out.trans (hB1.mono (by omega)))
    go_wp2_with fail
    obtain ⟨V, hV⟩ : ∃ V, V = (w1.setCell ⟨w.heap.size + 1 + 1, 0, none⟩ (.int .i64 0)).setCell ⟨w.heap.size + 1 + 1, 1, none⟩ (.int .i64 0) := ⟨_, rfl⟩
    obtain ⟨rV, bV, _⟩ := P.out V hV
    rw [← hV]
    clear hV d0 d1 f0 f1
    have g0 := rV.cell 0
    have g1 := rV.cell 1
    simp only [List.getElem?_cons_zero, List.getElem?_cons_succ] at g0 g1
    exact bodyPost_ret (v := .tuple #[.agg #[.int .i64 0, .int .i64 0], .int .i64 1]) (by simp [results, Try.results7, go_sem, g0, g1]) rfl ⟨rfl, bZ.out.trans (bV _ (by omega))⟩
  | true =>
    rw [h1] at H1
    cases h2 : okR u v with
    | false =>
      rw [timesR_no2 h2]
      unfold pairV
      rw [h2] at H2
      clear h1 h2
      go_enter Try.func7, Try.ntmps7
      go_wp2_with fail
      refine (H1.out _).mono ?_
      rintro e w1 ⟨rfl, hB1⟩
      have hz1 := hB1.size
      simp only [World.size_alloc] at hB1 hz1
      have r0 := Q0.out.below hB1 (by omega)
      have r1 := Q1.out.below hB1 (by omega)
      have r2 := Q2.out.below hB1 (by omega)
      have c0 := r0.cell 0
      have c1 := r0.cell 1
      have c2 := r1.cell 0
      have c3 := r1.cell 1
      simp only [List.getElem?_cons_zero, List.getElem?_cons_succ] at c0 c1 c2 c3
      go_wp2_with fail
      refine (H2.out _).mono ?_
      rintro e w2 ⟨rfl, hB2⟩
      have hz2 := hB2.size
      have r0 := r0.below hB2 (by omega)
      have r1 := r1.below hB2 (by omega)
      have r2 := r2.below hB2 (by omega)
      clear c0 c1 c2 c3
      have c0 := r0.cell 0
      have c1 := r0.cell 1
      have c2 := r1.cell 0
      have c3 := r1.cell 1
      simp only [List.getElem?_cons_zero, List.getElem?_cons_succ] at c0 c1 c2 c3
      have d0 := r2.cell 0
      have d1 := r2.cell 1
      have f0 := r2.frozen 0
      have f1 := r2.frozen 1
      simp only [List.getElem?_cons_zero, List.getElem?_cons_succ] at d0 d1
      have P := hid (pair_again (.int .i64 0) (.int .i64 0) r2)
      have bZ := hid (bE.out.trans ((hB1.mono (by omega)).trans (hB2.mono (by omega))))
      go_wp2_with fail
      obtain ⟨V, hV⟩ : ∃ V, V = (w2.setCell ⟨w.heap.size + 1 + 1, 0, none⟩ (.int .i64 0)).setCell ⟨w.heap.size + 1 + 1, 1, none⟩ (.int .i64 0) := ⟨_, rfl⟩
      obtain ⟨rV, bV, _⟩ := P.out V hV
      rw [← hV]
      clear hV d0 d1 f0 f1
      have g0 := rV.cell 0
      have g1 := rV.cell 1
      simp only [List.getElem?_cons_zero, List.getElem?_cons_succ] at g0 g1
      exact bodyPost_ret (v := .tuple #[.agg #[.int .i64 0, .int .i64 0], .int .i64 1]) (by simp [results, Try.results7, go_sem, g0, g1]) rfl ⟨rfl, bZ.out.trans (bV _ (by omega))⟩
    | true =>
      rw [h2] at H2
      rw [timesR_yes h1 h2]
      have HT := hid (fun w => l03Times_any p q u v h1 h2 w)
      obtain ⟨⟨⟨X, Y⟩, C⟩, hm⟩ : ∃ m, madeR (timesP p q u v) (timesQ p q u v) = m := ⟨_, rfl⟩
      rw [hm] at HT ⊢
      unfold pairV at HT ⊢
      simp only at HT ⊢
      clear hm h1 h2
      go_enter Try.func7, Try.ntmps7
      go_wp2_with fail
      refine (H1.out _).mono ?_
      rintro e w1 ⟨rfl, hB1⟩
      have hz1 := hB1.size
      simp only [World.size_alloc] at hB1 hz1
      have r0 := Q0.out.below hB1 (by omega)
      have r1 := Q1.out.below hB1 (by omega)
      have r2 := Q2.out.below hB1 (by omega)
      have c0 := r0.cell 0
      have c1 := r0.cell 1
      have c2 := r1.cell 0
      have c3 := r1.cell 1
      simp only [List.getElem?_cons_zero, List.getElem?_cons_succ] at c0 c1 c2 c3
      go_wp2_with fail
      refine (H2.out _).mono ?_
      rintro e w2 ⟨rfl, hB2⟩
      have hz2 := hB2.size
      have r0 := r0.below hB2 (by omega)
      have r1 := r1.below hB2 (by omega)
      have r2 := r2.below hB2 (by omega)
      clear c0 c1 c2 c3
      have c0 := r0.cell 0
      have c1 := r0.cell 1
      have c2 := r1.cell 0
      have c3 := r1.cell 1
      simp only [List.getElem?_cons_zero, List.getElem?_cons_succ] at c0 c1 c2 c3
      go_wp2_with fail
      refine (HT.out _).mono ?_
      rintro e w3 ⟨rfl, hB3⟩
      have r5 := r2.below hB3 (by omega)
      clear c0 c1 c2 c3
      have d0 := r5.cell 0
      have d1 := r5.cell 1
      have f0 := r5.frozen 0
      have f1 := r5.frozen 1
      simp only [List.getElem?_cons_zero, List.getElem?_cons_succ] at d0 d1
      have P := hid (pair_again (.int .i64 X) (.int .i64 Y) r5)
      have bZ := hid (bE.out.trans ((hB1.mono (by omega)).trans ((hB2.mono (by omega)).trans (hB3.mono (by omega)))))
      go_wp2_with fail
      obtain ⟨V, hV⟩ : ∃ V, V = (w3.setCell ⟨w.heap.size + 1 + 1, 0, none⟩ (.int .i64 X)).setCell ⟨w.heap.size + 1 + 1, 1, none⟩ (.int .i64 Y) := ⟨_, rfl⟩
      obtain ⟨rV, bV, _⟩ := P.out V hV
      rw [← hV]
      clear hV d0 d1 f0 f1
      have g0 := rV.cell 0
      have g1 := rV.cell 1
      simp only [List.getElem?_cons_zero, List.getElem?_cons_succ] at g0 g1
      exact bodyPost_ret (v := .tuple #[.agg #[.int .i64 X, .int .i64 Y], .int .i64 C]) (by simp [results, Try.results7, go_sem, g0, g1]) rfl ⟨rfl, bZ.out.trans (bV _ (by omega))⟩
set_option maxHeartbeats 40000000 in
theorem implTimes_any (p q u v : Int) (hp : I64 p) (hq : I64 q) (hu : I64 u) (hv : I64 v) (w : World) :
    Calls Try.prog 9 #[.agg #[.int .i64 p, .int .i64 q], .agg #[.int .i64 u, .int .i64 v]] w (GivesB w (pairV (timesR p q u v))) := by
  have H1 := hid (fun w => implValidRatio_any p q hp hq w)
  have H2 := hid (fun w => implValidRatio_any u v hu hv w)
  obtain ⟨q0, q1, q2, bW, sW⟩ := three_ratios w 24 (.int .i64 p) (.int .i64 q) (.int .i64 u) (.int .i64 v) (.int .i64 0) (.int .i64 0) _ rfl
  have bE := hid bW
  have Q0 := hid q0
  have Q1 := hid q1
  have Q2 := hid q2
  clear bW sW q0 q1 q2 hp hq hu hv
  cases h1 : okR p q with
  | false =>
    rw [timesR_no1 h1]
    unfold pairV
    rw [h1] at H1
    clear h1
    go_enter Try.func9, Try.ntmps9
    go_wp2_with fail
    refine (H1.out _).mono ?_
    rintro e w1 ⟨rfl, hB1⟩
    have hz1 := hB1.size
    simp only [World.size_alloc] at hB1 hz1
    have r0 := Q0.out.below hB1 (by omega)
    have r1 := Q1.out.below hB1 (by omega)
    have r2 := Q2.out.below hB1 (by omega)
    have c0 := r0.cell 0
    have c1 := r0.cell 1
    have c2 := r1.cell 0
    have c3 := r1.cell 1
    simp only [List.getElem?_cons_zero, List.getElem?_cons_succ] at c0 c1 c2 c3
    have d0 := r2.cell 0
    have d1 := r2.cell 1
    have f0 := r2.frozen 0
    have f1 := r2.frozen 1
    simp only [List.getElem?_cons_zero, List.getElem?_cons_succ] at d0 d1
    have P := hid (pair_again (.int .i64 0) (.int .i64 0) r2)
    have bZ := hid (bE.out.trans (hB1.mono (by omega)))
    go_wp2_with fail
    obtain ⟨V, hV⟩ : ∃ V, V = (w1.setCell ⟨w.heap.size + 1 + 1, 0, none⟩ (.int .i64 0)).setCell ⟨w.heap.size + 1 + 1, 1, none⟩ (.int .i64 0) := ⟨_, rfl⟩
    obtain ⟨rV, bV, _⟩ := P.out V hV
    rw [← hV]
    clear hV d0 d1 f0 f1
    have g0 := rV.cell 0
    have g1 := rV.cell 1
    simp only [List.getElem?_cons_zero, List.getElem?_cons_succ] at g0 g1
    exact bodyPost_ret (v := .tuple #[.agg #[.int .i64 0, .int .i64 0], .int .i64 1]) (by simp [results, Try.results9, go_sem, g0, g1]) rfl ⟨rfl, bZ.out.trans (bV _ (by omega))⟩
  | true =>
    rw [h1] at H1
    cases h2 : okR u v with
    | false =>
      rw [timesR_no2 h2]
      unfold pairV
      rw [h2] at H2
      clear h1 h2
      go_enter Try.func9, Try.ntmps9
      go_wp2_with fail
      refine (H1.out _).mono ?_
      rintro e w1 ⟨rfl, hB1⟩
      have hz1 := hB1.size
      simp only [World.size_alloc] at hB1 hz1
      have r0 := Q0.out.below hB1 (by omega)
      have r1 := Q1.out.below hB1 (by omega)
      have r2 := Q2.out.below hB1 (by omega)
      have c0 := r0.cell 0
      have c1 := r0.cell 1
      have c2 := r1.cell 0
      have c3 := r1.cell 1
      simp only [List.getElem?_cons_zero, List.getElem?_cons_succ] at c0 c1 c2 c3
      go_wp2_with fail
      refine (H2.out _).mono ?_
      rintro e w2 ⟨rfl, hB2⟩
      have hz2 := hB2.size
      have r0 := r0.below hB2 (by omega)
      have r1 := r1.below hB2 (by omega)
      have r2 := r2.below hB2 (by omega)
      clear c0 c1 c2 c3
      have c0 := r0.cell 0
      have c1 := r0.cell 1
      have c2 := r1.cell 0
      have c3 := r1.cell 1
      simp only [List.getElem?_cons_zero, List.getElem?_cons_succ] at c0 c1 c2 c3
      have d0 := r2.cell 0
      have d1 := r2.cell 1
      have f0 := r2.frozen 0
      have f1 := r2.frozen 1
      simp only [List.getElem?_cons_zero, List.getElem?_cons_succ] at d0 d1
      have P := hid (pair_again (.int .i64 0) (.int .i64 0) r2)
      have bZ := hid (bE.out.trans ((hB1.mono (by omega)).trans (hB2.mono (by omega))))
      go_wp2_with fail
      obtain ⟨V, hV⟩ : ∃ V, V = (w2.setCell ⟨w.heap.size + 1 + 1, 0, none⟩ (.int .i64 0)).setCell ⟨w.heap.size + 1 + 1, 1, none⟩ (.int .i64 0) := ⟨_, rfl⟩
      obtain ⟨rV, bV, _⟩ := P.out V hV
      rw [← hV]
      clear hV d0 d1 f0 f1
      have g0 := rV.cell 0
      have g1 := rV.cell 1
      simp only [List.getElem?_cons_zero, List.getElem?_cons_succ] at g0 g1
      exact bodyPost_ret (v := .tuple #[.agg #[.int .i64 0, .int .i64 0], .int .i64 1]) (by simp [results, Try.results9, go_sem, g0, g1]) rfl ⟨rfl, bZ.out.trans (bV _ (by omega))⟩
    | true =>
      rw [h2] at H2
      rw [timesR_yes h1 h2]
      obtain ⟨a1, a2, a3, a4, o1⟩ := okR_out h1
      obtain ⟨b1, b2, b3, b4, o2⟩ := okR_out h2
      have K1 := hid (fun w => reduced_any p v a1 b3 (by omega) (by omega) w)
      have K2 := hid (fun w => reduced_any u q b1 a3 (by omega) (by omega) w)
      have TB := times_bd h1 h2
      obtain ⟨_, _, _, x1, x2, x3, x4, _⟩ := red_bd a1 b3
      obtain ⟨_, _, _, y1, y2, y3, y4, _⟩ := red_bd b1 a3
      have CR := cross_one a1 a3 b1 b3 o1 o2
      have RS := red_self TB.1 TB.2.2.1 CR
      have HV := hid (fun w => implValidRatio_any (timesP p q u v) (timesQ p q u v) (by unfold I64; omega) (by unfold I64; omega) w)
      have HM : madeR (timesP p q u v) (timesQ p q u v) = if okR (timesP p q u v) (timesQ p q u v) then ((timesP p q u v, timesQ p q u v), 0) else ((0, 0), 3) := by
        unfold madeR
        rw [RS.1, RS.2]
      have m1 : redP p v * redP u q = timesP p q u v := rfl
      have m2 : redQ p v * redQ u q = timesQ p q u v := Int.mul_comm _ _
      obtain ⟨P, hP⟩ : ∃ z, timesP p q u v = z := ⟨_, rfl⟩
      obtain ⟨Q, hQ⟩ : ∃ z, timesQ p q u v = z := ⟨_, rfl⟩
      rw [hP] at m1
      rw [hQ] at m2
      rw [hP, hQ] at TB HV HM
      obtain ⟨s, hs⟩ : ∃ z, redP p v = z := ⟨_, rfl⟩
      obtain ⟨t, ht⟩ : ∃ z, redQ p v = z := ⟨_, rfl⟩
      obtain ⟨s', hs'⟩ : ∃ z, redP u q = z := ⟨_, rfl⟩
      obtain ⟨t', ht'⟩ : ∃ z, redQ u q = z := ⟨_, rfl⟩
      rw [hs, ht] at K1
      rw [hs', ht'] at K2
      rw [hs, hs'] at m1
      rw [ht, ht'] at m2
      rw [hs] at x1 x2
      rw [ht] at x3 x4
      rw [hs'] at y1 y2
      rw [ht'] at y3 y4
      obtain ⟨TB1, TB2, TB3, TB4⟩ := TB
      have t5 : IntKind.i64.wrap P = P := IntWalk.i64_in _ (by omega)
      have t6 : IntKind.i64.wrap Q = Q := IntWalk.i64_in _ (by omega)
      rw [hP, hQ]
      obtain ⟨mm, hmm⟩ : ∃ z, madeR P Q = z := ⟨_, rfl⟩
      rw [hmm] at HM ⊢
      have HMM := hid HM
      clear hmm HM CR RS hP hQ hs ht hs' ht' h1 h2 o1 o2
      go_enter Try.func9, Try.ntmps9
      go_upto_region 3 with ((first | ((with_reducible refine (H1.out _).mono ?_); rintro e w1 ⟨rfl, hB1⟩; have hz1 := hB1.size; simp only [World.size_alloc] at hB1 hz1; have r0 := Q0.out.below hB1 (by omega); have r1 := Q1.out.below hB1 (by omega); have r2 := Q2.out.below hB1 (by omega); have c0 := r0.cell 0; have c1 := r0.cell 1; have c2 := r1.cell 0; have c3 := r1.cell 1; simp only [List.getElem?_cons_zero, List.getElem?_cons_succ] at c0 c1 c2 c3) | ((with_reducible refine (H2.out _).mono ?_); rintro e w2 ⟨rfl, hB2⟩; have hz2 := hB2.size; have r0 := r0.below hB2 (by omega); have r1 := r1.below hB2 (by omega); have r2 := r2.below hB2 (by omega); clear c0 c1 c2 c3; have c0 := r0.cell 0; have c1 := r0.cell 1; have c2 := r1.cell 0; have c3 := r1.cell 1; simp only [List.getElem?_cons_zero, List.getElem?_cons_succ] at c0 c1 c2 c3)))
      have l0 : w.heap.size < w2.heap.size := by omega
      have l1 : w.heap.size + 1 < w2.heap.size := by omega
      have l2 : w.heap.size + 2 < w2.heap.size := by omega
      have R2 := hid r2
      have bE2 := hid (bE.out.trans ((hB1.mono (by omega)).trans (hB2.mono (by omega))))
      clear r0 r1 r2 hB1 hB2
      go_cut [6, 7] (fun s6 s7 wx => ∃ (g h : Nat) (V : World), V = wx ∧ s6 = .pointer (some ⟨g, 0, none⟩) ∧ s7 = .pointer (some ⟨h, 0, none⟩) ∧ Row V g 24 [.int .i64 s, .int .i64 t] ∧ Row V h 24 [.int .i64 s', .int .i64 t'] ∧ Below w2.heap.size w2 V)
      case first =>
        have hb0 := Below.refl w2.heap.size w2
        have SOF := hid (show ∀ (v' : World), Below w2.heap.size w2 v' → (fun W' : World => W'.cell? ⟨w.heap.size, 0, none⟩ = some (.int .i64 p) ∧ W'.cell? ⟨w.heap.size, 1, none⟩ = some (.int .i64 q) ∧ W'.cell? ⟨w.heap.size + 1, 0, none⟩ = some (.int .i64 u) ∧ W'.cell? ⟨w.heap.size + 1, 1, none⟩ = some (.int .i64 v)) v' from fun v' h => And.intro ((h.cell (p := ⟨w.heap.size, 0, none⟩) l0).trans c0) (And.intro ((h.cell (p := ⟨w.heap.size, 1, none⟩) l0).trans c1) (And.intro ((h.cell (p := ⟨w.heap.size + 1, 0, none⟩) l1).trans c2) ((h.cell (p := ⟨w.heap.size + 1, 1, none⟩) l1).trans c3))))
        have b0 := hb0.drew
        refine wp_region_held (S := fun W' : World => W'.cell? ⟨w.heap.size, 0, none⟩ = some (.int .i64 p) ∧ W'.cell? ⟨w.heap.size, 1, none⟩ = some (.int .i64 q) ∧ W'.cell? ⟨w.heap.size + 1, 0, none⟩ = some (.int .i64 u) ∧ W'.cell? ⟨w.heap.size + 1, 1, none⟩ = some (.int .i64 v)) (by kernel_rfl) ?_
        change wpAnyH _ _ _ _ _ _ _ _ (World.drew _)
        have hS0 : (fun W' : World => W'.cell? ⟨w.heap.size, 0, none⟩ = some (.int .i64 p) ∧ W'.cell? ⟨w.heap.size, 1, none⟩ = some (.int .i64 q) ∧ W'.cell? ⟨w.heap.size + 1, 0, none⟩ = some (.int .i64 u) ∧ W'.cell? ⟨w.heap.size + 1, 1, none⟩ = some (.int .i64 v)) w2.drew := SOF.out _ b0
        refine wpAnyH_takeD (some 18) (i := 0) (v := ?_) rfl rfl (by kernel_rfl) (by kernel_rfl) (by kernel_rfl) (fun _ _ _ h => h) (.inl ⟨by kernel_rfl, ?_⟩) hS0 ?_
        rotate_left
        · intro w' hw'; obtain ⟨hw1, hw2, hw3, hw4⟩ := hw'; go_simp; try with_reducible rfl
        try simp only [Act.put, List.setIfInBounds_toArray, List.set_cons_zero, List.set_cons_succ]
        refine wpAnyH_takeD (some 19) (i := 1) (v := ?_) rfl rfl (by kernel_rfl) (by kernel_rfl) (by kernel_rfl) (fun _ _ _ h => h) (.inl ⟨by kernel_rfl, ?_⟩) hS0 ?_
        rotate_left
        · intro w' hw'; obtain ⟨hw1, hw2, hw3, hw4⟩ := hw'; go_simp; try with_reducible rfl
        try simp only [Act.put, List.setIfInBounds_toArray, List.set_cons_zero, List.set_cons_succ]
        refine wpAnyH_takeD (some 20) (i := 2) (v := ?_) rfl rfl (by kernel_rfl) (by kernel_rfl) (by kernel_rfl) (fun _ _ _ h => h) (.inl ⟨by kernel_rfl, ?_⟩) hS0 ?_
        rotate_left
        · intro w' hw'; obtain ⟨hw1, hw2, hw3, hw4⟩ := hw'; go_simp; try with_reducible rfl
        try simp only [Act.put, List.setIfInBounds_toArray, List.set_cons_zero, List.set_cons_succ]
        refine wpAnyH_takeD (some 21) (i := 3) (v := ?_) rfl rfl (by kernel_rfl) (by kernel_rfl) (by kernel_rfl) (fun _ _ _ h => h) (.inl ⟨by kernel_rfl, ?_⟩) hS0 ?_
        rotate_left
        · intro w' hw'; obtain ⟨hw1, hw2, hw3, hw4⟩ := hw'; go_simp; try with_reducible rfl
        try simp only [Act.put, List.setIfInBounds_toArray, List.set_cons_zero, List.set_cons_succ]
        refine wpAnyH_takeD (some 23) (i := 5) (v := ?_) rfl rfl (by kernel_rfl) (by kernel_rfl) (by kernel_rfl) (fun _ _ _ h => h) (.inl ⟨by kernel_rfl, ?_⟩) hS0 ?_
        rotate_left
        · intro w' hw'; obtain ⟨hw1, hw2, hw3, hw4⟩ := hw'; go_simp; try with_reducible rfl
        try simp only [Act.put, List.setIfInBounds_toArray, List.set_cons_zero, List.set_cons_succ]
        refine wpAnyH_takeD (some 24) (i := 6) (v := ?_) rfl rfl (by kernel_rfl) (by kernel_rfl) (by kernel_rfl) (fun _ _ _ h => h) (.inl ⟨by kernel_rfl, ?_⟩) hS0 ?_
        rotate_left
        · intro w' hw'; obtain ⟨hw1, hw2, hw3, hw4⟩ := hw'; go_simp; try with_reducible rfl
        try simp only [Act.put, List.setIfInBounds_toArray, List.set_cons_zero, List.set_cons_succ]
        refine wpAnyH_takeD (some 25) (i := 7) (v := ?_) rfl rfl (by kernel_rfl) (by kernel_rfl) (by kernel_rfl) (fun _ _ _ h => h) (.inl ⟨by kernel_rfl, ?_⟩) hS0 ?_
        rotate_left
        · intro w' hw'; obtain ⟨hw1, hw2, hw3, hw4⟩ := hw'; go_simp; try with_reducible rfl
        try simp only [Act.put, List.setIfInBounds_toArray, List.set_cons_zero, List.set_cons_succ]
        refine wpAnyH_takeD (some 26) (i := 8) (v := ?_) rfl rfl (by kernel_rfl) (by kernel_rfl) (by kernel_rfl) (fun _ _ _ h => h) (.inl ⟨by kernel_rfl, ?_⟩) hS0 ?_
        rotate_left
        · intro w' hw'; obtain ⟨hw1, hw2, hw3, hw4⟩ := hw'; go_simp; try with_reducible rfl
        try simp only [Act.put, List.setIfInBounds_toArray, List.set_cons_zero, List.set_cons_succ]
        refine wpAnyH_all (rs := [4, 10, 11]) (by kernel_rfl) (by simp) ?_
        intro i hi; simp only [List.mem_cons, List.not_mem_nil, or_false] at hi
        rcases hi with rfl | rfl | rfl
        · refine wpOp_step rfl (fun K hK => ?_)
          go_simp
          refine (K1.out _).mono ?_
          rintro e v1 ⟨rfl, hB1⟩
          have b1 := b0.trans (hB1.mono b0.size)
          have hz1 := hB1.size
          (try simp only [World.size_drew, World.size_alloc] at hz1)
          have hS1 := SOF.out _ b1
          refine hK _ _ ⟨hS1, ?_⟩
          try simp only [Act.put, List.setIfInBounds_toArray, List.set_cons_zero, List.set_cons_succ]
          refine wpAnyH_all (rs := [9, 10, 11]) (by kernel_rfl) (by simp) ?_
          intro i hi; simp only [List.mem_cons, List.not_mem_nil, or_false] at hi
          rcases hi with rfl | rfl | rfl
          · refine wpOp_step rfl (fun K hK => ?_)
            go_simp
            refine (K2.out _).mono ?_
            rintro e v2 ⟨rfl, hB2⟩
            have b2 := b1.trans (hB2.mono b1.size)
            have hz2 := hB2.size
            (try simp only [World.size_drew, World.size_alloc] at hz2)
            have hS2 := SOF.out _ b2
            refine hK _ _ ⟨hS2, ?_⟩
            try simp only [Act.put, List.setIfInBounds_toArray, List.set_cons_zero, List.set_cons_succ]
            refine wpAnyH_all (rs := [10, 11]) (by kernel_rfl) (by simp) ?_
            intro i hi; simp only [List.mem_cons, List.not_mem_nil, or_false] at hi
            rcases hi with rfl | rfl
            · refine wpOp_step rfl (fun K hK => ?_)
              go_simp
              have b3 : Below w2.heap.size w2 (v2.alloc (.cells #[.int .i64 0, .int .i64 0] 24)) := b2.alloc b2.size _
              have rg3 : Row (v2.alloc (.cells #[.int .i64 0, .int .i64 0] 24)) (v2.heap.size) 24 [.int .i64 0, .int .i64 0] := by
                have h := Row.new v2 24 [.int .i64 0, .int .i64 0]
                (try simp only [World.size_drew, World.size_alloc] at h)
                exact h
              have hS3 := SOF.out _ b3
              refine hK _ _ ⟨hS3, ?_⟩
              try simp only [Act.put, List.setIfInBounds_toArray, List.set_cons_zero, List.set_cons_succ]
              refine wpAnyH_all (rs := [11]) (by kernel_rfl) (by simp) ?_
              intro i hi; simp only [List.mem_cons, List.not_mem_nil, or_false] at hi
              subst hi
              refine wpOp_step rfl (fun K hK => ?_)
              go_simp
              have b4 : Below w2.heap.size w2 ((v2.alloc (.cells #[.int .i64 0, .int .i64 0] 24)).alloc (.cells #[.int .i64 0, .int .i64 0] 24)) := b3.alloc b3.size _
              have rh4 : Row ((v2.alloc (.cells #[.int .i64 0, .int .i64 0] 24)).alloc (.cells #[.int .i64 0, .int .i64 0] 24)) (v2.heap.size + 1) 24 [.int .i64 0, .int .i64 0] := by
                have h := Row.new (v2.alloc (.cells #[.int .i64 0, .int .i64 0] 24)) 24 [.int .i64 0, .int .i64 0]
                (try simp only [World.size_drew, World.size_alloc] at h)
                exact h
              have rg4 := rg3.alloc (.cells #[.int .i64 0, .int .i64 0] 24)
              have hS4 := SOF.out _ b4
              refine hK _ _ ⟨hS4, ?_⟩
              try simp only [Act.put, List.setIfInBounds_toArray, List.set_cons_zero, List.set_cons_succ]
              obtain ⟨X5, hX5⟩ : ∃ z, z = ((v2.alloc (.cells #[.int .i64 0, .int .i64 0] 24)).alloc (.cells #[.int .i64 0, .int .i64 0] 24)) := ⟨_, rfl⟩
              rw [← hX5] at rg4 rh4 b4 ⊢
              clear hX5
              have ne5 : v2.heap.size ≠ v2.heap.size + 1 := by omega
              have lg5 : w2.heap.size ≤ v2.heap.size := by omega
              have lh5 : w2.heap.size ≤ v2.heap.size + 1 := by omega
              have d0 := rg4.cell 0
              have d1 := rg4.cell 1
              have df0 := rg4.frozen 0
              have df1 := rg4.frozen 1
              simp only [List.getElem?_cons_zero, List.getElem?_cons_succ] at d0 d1
              have sg5 := (rg4.set 0 (.int .i64 s)).set 1 (.int .i64 t)
              have sh5 := (rh4.other (a := ⟨v2.heap.size, 0, none⟩) (by show v2.heap.size ≠ v2.heap.size + 1; omega) (.int .i64 s)).other (a := ⟨v2.heap.size, 1, none⟩) (by show v2.heap.size ≠ v2.heap.size + 1; omega) (.int .i64 t)
              have bs5 := (b4.setCell (p := ⟨v2.heap.size, 0, none⟩) lg5 (.int .i64 s)).setCell (p := ⟨v2.heap.size, 1, none⟩) lg5 (.int .i64 t)
              have hT5 := SOF.out _ bs5
              refine wpAnyH_all (rs := [12]) (by kernel_rfl) (by simp) ?_
              intro i hi; simp only [List.mem_singleton] at hi; subst hi
              refine wpOp_step rfl (fun K hK => ?_)
              go_simp
              refine hK _ _ ⟨hT5, ?_⟩
              try simp only [Act.put, List.setIfInBounds_toArray, List.set_cons_zero, List.set_cons_succ]
              clear d0 d1 df0 df1
              have q0 := sh5.cell 0
              have q1 := sh5.cell 1
              have qf0 := sh5.frozen 0
              have qf1 := sh5.frozen 1
              simp only [List.getElem?_cons_zero, List.getElem?_cons_succ] at q0 q1
              have tg5 := (sg5.other (a := ⟨v2.heap.size + 1, 0, none⟩) (by show v2.heap.size + 1 ≠ v2.heap.size; omega) (.int .i64 s')).other (a := ⟨v2.heap.size + 1, 1, none⟩) (by show v2.heap.size + 1 ≠ v2.heap.size; omega) (.int .i64 t')
              have th5 := (sh5.set 0 (.int .i64 s')).set 1 (.int .i64 t')
              have bt5 := (bs5.setCell (p := ⟨v2.heap.size + 1, 0, none⟩) lh5 (.int .i64 s')).setCell (p := ⟨v2.heap.size + 1, 1, none⟩) lh5 (.int .i64 t')
              have hU5 := SOF.out _ bt5
              refine wpAnyH_all (rs := [13]) (by kernel_rfl) (by simp) ?_
              intro i hi; simp only [List.mem_singleton] at hi; subst hi
              refine wpOp_step rfl (fun K hK => ?_)
              go_simp
              refine hK _ _ ⟨hU5, ?_⟩
              try simp only [Act.put, List.setIfInBounds_toArray, List.set_cons_zero, List.set_cons_succ]
              refine wpAnyH_done (by kernel_rfl) ?_ _
              go_wp2_with fail
              go_meet
              exact ⟨_, _, _, rfl, rfl, rfl, tg5, th5, bt5⟩
            · refine wpOp_step rfl (fun K hK => ?_)
              go_simp
              have b6 : Below w2.heap.size w2 (v2.alloc (.cells #[.int .i64 0, .int .i64 0] 24)) := b2.alloc b2.size _
              have rh6 : Row (v2.alloc (.cells #[.int .i64 0, .int .i64 0] 24)) (v2.heap.size) 24 [.int .i64 0, .int .i64 0] := by
                have h := Row.new v2 24 [.int .i64 0, .int .i64 0]
                (try simp only [World.size_drew, World.size_alloc] at h)
                exact h
              have hS6 := SOF.out _ b6
              refine hK _ _ ⟨hS6, ?_⟩
              try simp only [Act.put, List.setIfInBounds_toArray, List.set_cons_zero, List.set_cons_succ]
              refine wpAnyH_all (rs := [10]) (by kernel_rfl) (by simp) ?_
              intro i hi; simp only [List.mem_cons, List.not_mem_nil, or_false] at hi
              subst hi
              refine wpOp_step rfl (fun K hK => ?_)
              go_simp
              have b7 : Below w2.heap.size w2 ((v2.alloc (.cells #[.int .i64 0, .int .i64 0] 24)).alloc (.cells #[.int .i64 0, .int .i64 0] 24)) := b6.alloc b6.size _
              have rg7 : Row ((v2.alloc (.cells #[.int .i64 0, .int .i64 0] 24)).alloc (.cells #[.int .i64 0, .int .i64 0] 24)) (v2.heap.size + 1) 24 [.int .i64 0, .int .i64 0] := by
                have h := Row.new (v2.alloc (.cells #[.int .i64 0, .int .i64 0] 24)) 24 [.int .i64 0, .int .i64 0]
                (try simp only [World.size_drew, World.size_alloc] at h)
                exact h
              have rh7 := rh6.alloc (.cells #[.int .i64 0, .int .i64 0] 24)
              have hS7 := SOF.out _ b7
              refine hK _ _ ⟨hS7, ?_⟩
              try simp only [Act.put, List.setIfInBounds_toArray, List.set_cons_zero, List.set_cons_succ]
              obtain ⟨X8, hX8⟩ : ∃ z, z = ((v2.alloc (.cells #[.int .i64 0, .int .i64 0] 24)).alloc (.cells #[.int .i64 0, .int .i64 0] 24)) := ⟨_, rfl⟩
              rw [← hX8] at rg7 rh7 b7 ⊢
              clear hX8
              have ne8 : v2.heap.size + 1 ≠ v2.heap.size := by omega
              have lg8 : w2.heap.size ≤ v2.heap.size + 1 := by omega
              have lh8 : w2.heap.size ≤ v2.heap.size := by omega
              have d0 := rg7.cell 0
              have d1 := rg7.cell 1
              have df0 := rg7.frozen 0
              have df1 := rg7.frozen 1
              simp only [List.getElem?_cons_zero, List.getElem?_cons_succ] at d0 d1
              have sg8 := (rg7.set 0 (.int .i64 s)).set 1 (.int .i64 t)
              have sh8 := (rh7.other (a := ⟨v2.heap.size + 1, 0, none⟩) (by show v2.heap.size + 1 ≠ v2.heap.size; omega) (.int .i64 s)).other (a := ⟨v2.heap.size + 1, 1, none⟩) (by show v2.heap.size + 1 ≠ v2.heap.size; omega) (.int .i64 t)
              have bs8 := (b7.setCell (p := ⟨v2.heap.size + 1, 0, none⟩) lg8 (.int .i64 s)).setCell (p := ⟨v2.heap.size + 1, 1, none⟩) lg8 (.int .i64 t)
              have hT8 := SOF.out _ bs8
              refine wpAnyH_all (rs := [12]) (by kernel_rfl) (by simp) ?_
              intro i hi; simp only [List.mem_singleton] at hi; subst hi
              refine wpOp_step rfl (fun K hK => ?_)
              go_simp
              refine hK _ _ ⟨hT8, ?_⟩
              try simp only [Act.put, List.setIfInBounds_toArray, List.set_cons_zero, List.set_cons_succ]
              clear d0 d1 df0 df1
              have q0 := sh8.cell 0
              have q1 := sh8.cell 1
              have qf0 := sh8.frozen 0
              have qf1 := sh8.frozen 1
              simp only [List.getElem?_cons_zero, List.getElem?_cons_succ] at q0 q1
              have tg8 := (sg8.other (a := ⟨v2.heap.size, 0, none⟩) (by show v2.heap.size ≠ v2.heap.size + 1; omega) (.int .i64 s')).other (a := ⟨v2.heap.size, 1, none⟩) (by show v2.heap.size ≠ v2.heap.size + 1; omega) (.int .i64 t')
              have th8 := (sh8.set 0 (.int .i64 s')).set 1 (.int .i64 t')
              have bt8 := (bs8.setCell (p := ⟨v2.heap.size, 0, none⟩) lh8 (.int .i64 s')).setCell (p := ⟨v2.heap.size, 1, none⟩) lh8 (.int .i64 t')
              have hU8 := SOF.out _ bt8
              refine wpAnyH_all (rs := [13]) (by kernel_rfl) (by simp) ?_
              intro i hi; simp only [List.mem_singleton] at hi; subst hi
              refine wpOp_step rfl (fun K hK => ?_)
              go_simp
              refine hK _ _ ⟨hU8, ?_⟩
              try simp only [Act.put, List.setIfInBounds_toArray, List.set_cons_zero, List.set_cons_succ]
              refine wpAnyH_done (by kernel_rfl) ?_ _
              go_wp2_with fail
              go_meet
              exact ⟨_, _, _, rfl, rfl, rfl, tg8, th8, bt8⟩
          · refine wpOp_step rfl (fun K hK => ?_)
            go_simp
            have b9 : Below w2.heap.size w2 (v1.alloc (.cells #[.int .i64 0, .int .i64 0] 24)) := b1.alloc b1.size _
            have rg9 : Row (v1.alloc (.cells #[.int .i64 0, .int .i64 0] 24)) (v1.heap.size) 24 [.int .i64 0, .int .i64 0] := by
              have h := Row.new v1 24 [.int .i64 0, .int .i64 0]
              (try simp only [World.size_drew, World.size_alloc] at h)
              exact h
            have hS9 := SOF.out _ b9
            refine hK _ _ ⟨hS9, ?_⟩
            try simp only [Act.put, List.setIfInBounds_toArray, List.set_cons_zero, List.set_cons_succ]
            refine wpAnyH_all (rs := [9, 11]) (by kernel_rfl) (by simp) ?_
            intro i hi; simp only [List.mem_cons, List.not_mem_nil, or_false] at hi
            rcases hi with rfl | rfl
            · refine wpOp_step rfl (fun K hK => ?_)
              go_simp
              refine (K2.out _).mono ?_
              rintro e v10 ⟨rfl, hB10⟩
              have b10 := b9.trans (hB10.mono b9.size)
              have hz10 := hB10.size
              (try simp only [World.size_drew, World.size_alloc] at hz10)
              have rg10 := rg9.below hB10 rg9.lt
              have hS10 := SOF.out _ b10
              refine hK _ _ ⟨hS10, ?_⟩
              try simp only [Act.put, List.setIfInBounds_toArray, List.set_cons_zero, List.set_cons_succ]
              refine wpAnyH_all (rs := [11]) (by kernel_rfl) (by simp) ?_
              intro i hi; simp only [List.mem_cons, List.not_mem_nil, or_false] at hi
              subst hi
              refine wpOp_step rfl (fun K hK => ?_)
              go_simp
              have b11 : Below w2.heap.size w2 (v10.alloc (.cells #[.int .i64 0, .int .i64 0] 24)) := b10.alloc b10.size _
              have rh11 : Row (v10.alloc (.cells #[.int .i64 0, .int .i64 0] 24)) (v10.heap.size) 24 [.int .i64 0, .int .i64 0] := by
                have h := Row.new v10 24 [.int .i64 0, .int .i64 0]
                (try simp only [World.size_drew, World.size_alloc] at h)
                exact h
              have rg11 := rg10.alloc (.cells #[.int .i64 0, .int .i64 0] 24)
              have hS11 := SOF.out _ b11
              refine hK _ _ ⟨hS11, ?_⟩
              try simp only [Act.put, List.setIfInBounds_toArray, List.set_cons_zero, List.set_cons_succ]
              obtain ⟨X12, hX12⟩ : ∃ z, z = (v10.alloc (.cells #[.int .i64 0, .int .i64 0] 24)) := ⟨_, rfl⟩
              rw [← hX12] at rg11 rh11 b11 ⊢
              clear hX12
              have ne12 : v1.heap.size ≠ v10.heap.size := by omega
              have lg12 : w2.heap.size ≤ v1.heap.size := by omega
              have lh12 : w2.heap.size ≤ v10.heap.size := by omega
              have d0 := rg11.cell 0
              have d1 := rg11.cell 1
              have df0 := rg11.frozen 0
              have df1 := rg11.frozen 1
              simp only [List.getElem?_cons_zero, List.getElem?_cons_succ] at d0 d1
              have sg12 := (rg11.set 0 (.int .i64 s)).set 1 (.int .i64 t)
              have sh12 := (rh11.other (a := ⟨v1.heap.size, 0, none⟩) (by show v1.heap.size ≠ v10.heap.size; omega) (.int .i64 s)).other (a := ⟨v1.heap.size, 1, none⟩) (by show v1.heap.size ≠ v10.heap.size; omega) (.int .i64 t)
              have bs12 := (b11.setCell (p := ⟨v1.heap.size, 0, none⟩) lg12 (.int .i64 s)).setCell (p := ⟨v1.heap.size, 1, none⟩) lg12 (.int .i64 t)
              have hT12 := SOF.out _ bs12
              refine wpAnyH_all (rs := [12]) (by kernel_rfl) (by simp) ?_
              intro i hi; simp only [List.mem_singleton] at hi; subst hi
              refine wpOp_step rfl (fun K hK => ?_)
              go_simp
              refine hK _ _ ⟨hT12, ?_⟩
              try simp only [Act.put, List.setIfInBounds_toArray, List.set_cons_zero, List.set_cons_succ]
              clear d0 d1 df0 df1
              have q0 := sh12.cell 0
              have q1 := sh12.cell 1
              have qf0 := sh12.frozen 0
              have qf1 := sh12.frozen 1
              simp only [List.getElem?_cons_zero, List.getElem?_cons_succ] at q0 q1
              have tg12 := (sg12.other (a := ⟨v10.heap.size, 0, none⟩) (by show v10.heap.size ≠ v1.heap.size; omega) (.int .i64 s')).other (a := ⟨v10.heap.size, 1, none⟩) (by show v10.heap.size ≠ v1.heap.size; omega) (.int .i64 t')
              have th12 := (sh12.set 0 (.int .i64 s')).set 1 (.int .i64 t')
              have bt12 := (bs12.setCell (p := ⟨v10.heap.size, 0, none⟩) lh12 (.int .i64 s')).setCell (p := ⟨v10.heap.size, 1, none⟩) lh12 (.int .i64 t')
              have hU12 := SOF.out _ bt12
              refine wpAnyH_all (rs := [13]) (by kernel_rfl) (by simp) ?_
              intro i hi; simp only [List.mem_singleton] at hi; subst hi
              refine wpOp_step rfl (fun K hK => ?_)
              go_simp
              refine hK _ _ ⟨hU12, ?_⟩
              try simp only [Act.put, List.setIfInBounds_toArray, List.set_cons_zero, List.set_cons_succ]
              refine wpAnyH_done (by kernel_rfl) ?_ _
              go_wp2_with fail
              go_meet
              exact ⟨_, _, _, rfl, rfl, rfl, tg12, th12, bt12⟩
            · refine wpOp_step rfl (fun K hK => ?_)
              go_simp
              have b13 : Below w2.heap.size w2 ((v1.alloc (.cells #[.int .i64 0, .int .i64 0] 24)).alloc (.cells #[.int .i64 0, .int .i64 0] 24)) := b9.alloc b9.size _
              have rh13 : Row ((v1.alloc (.cells #[.int .i64 0, .int .i64 0] 24)).alloc (.cells #[.int .i64 0, .int .i64 0] 24)) (v1.heap.size + 1) 24 [.int .i64 0, .int .i64 0] := by
                have h := Row.new (v1.alloc (.cells #[.int .i64 0, .int .i64 0] 24)) 24 [.int .i64 0, .int .i64 0]
                (try simp only [World.size_drew, World.size_alloc] at h)
                exact h
              have rg13 := rg9.alloc (.cells #[.int .i64 0, .int .i64 0] 24)
              have hS13 := SOF.out _ b13
              refine hK _ _ ⟨hS13, ?_⟩
              try simp only [Act.put, List.setIfInBounds_toArray, List.set_cons_zero, List.set_cons_succ]
              refine wpAnyH_all (rs := [9]) (by kernel_rfl) (by simp) ?_
              intro i hi; simp only [List.mem_cons, List.not_mem_nil, or_false] at hi
              subst hi
              refine wpOp_step rfl (fun K hK => ?_)
              go_simp
              refine (K2.out _).mono ?_
              rintro e v14 ⟨rfl, hB14⟩
              have b14 := b13.trans (hB14.mono b13.size)
              have hz14 := hB14.size
              (try simp only [World.size_drew, World.size_alloc] at hz14)
              have rg14 := rg13.below hB14 rg13.lt
              have rh14 := rh13.below hB14 rh13.lt
              have hS14 := SOF.out _ b14
              refine hK _ _ ⟨hS14, ?_⟩
              try simp only [Act.put, List.setIfInBounds_toArray, List.set_cons_zero, List.set_cons_succ]
              obtain ⟨X15, hX15⟩ : ∃ z, z = v14 := ⟨_, rfl⟩
              rw [← hX15] at rg14 rh14 b14 ⊢
              clear hX15
              have ne15 : v1.heap.size ≠ v1.heap.size + 1 := by omega
              have lg15 : w2.heap.size ≤ v1.heap.size := by omega
              have lh15 : w2.heap.size ≤ v1.heap.size + 1 := by omega
              have d0 := rg14.cell 0
              have d1 := rg14.cell 1
              have df0 := rg14.frozen 0
              have df1 := rg14.frozen 1
              simp only [List.getElem?_cons_zero, List.getElem?_cons_succ] at d0 d1
              have sg15 := (rg14.set 0 (.int .i64 s)).set 1 (.int .i64 t)
              have sh15 := (rh14.other (a := ⟨v1.heap.size, 0, none⟩) (by show v1.heap.size ≠ v1.heap.size + 1; omega) (.int .i64 s)).other (a := ⟨v1.heap.size, 1, none⟩) (by show v1.heap.size ≠ v1.heap.size + 1; omega) (.int .i64 t)
              have bs15 := (b14.setCell (p := ⟨v1.heap.size, 0, none⟩) lg15 (.int .i64 s)).setCell (p := ⟨v1.heap.size, 1, none⟩) lg15 (.int .i64 t)
              have hT15 := SOF.out _ bs15
              refine wpAnyH_all (rs := [12]) (by kernel_rfl) (by simp) ?_
              intro i hi; simp only [List.mem_singleton] at hi; subst hi
              refine wpOp_step rfl (fun K hK => ?_)
              go_simp
              refine hK _ _ ⟨hT15, ?_⟩
              try simp only [Act.put, List.setIfInBounds_toArray, List.set_cons_zero, List.set_cons_succ]
              clear d0 d1 df0 df1
              have q0 := sh15.cell 0
              have q1 := sh15.cell 1
              have qf0 := sh15.frozen 0
              have qf1 := sh15.frozen 1
              simp only [List.getElem?_cons_zero, List.getElem?_cons_succ] at q0 q1
              have tg15 := (sg15.other (a := ⟨v1.heap.size + 1, 0, none⟩) (by show v1.heap.size + 1 ≠ v1.heap.size; omega) (.int .i64 s')).other (a := ⟨v1.heap.size + 1, 1, none⟩) (by show v1.heap.size + 1 ≠ v1.heap.size; omega) (.int .i64 t')
              have th15 := (sh15.set 0 (.int .i64 s')).set 1 (.int .i64 t')
              have bt15 := (bs15.setCell (p := ⟨v1.heap.size + 1, 0, none⟩) lh15 (.int .i64 s')).setCell (p := ⟨v1.heap.size + 1, 1, none⟩) lh15 (.int .i64 t')
              have hU15 := SOF.out _ bt15
              refine wpAnyH_all (rs := [13]) (by kernel_rfl) (by simp) ?_
              intro i hi; simp only [List.mem_singleton] at hi; subst hi
              refine wpOp_step rfl (fun K hK => ?_)
              go_simp
              refine hK _ _ ⟨hU15, ?_⟩
              try simp only [Act.put, List.setIfInBounds_toArray, List.set_cons_zero, List.set_cons_succ]
              refine wpAnyH_done (by kernel_rfl) ?_ _
              go_wp2_with fail
              go_meet
              exact ⟨_, _, _, rfl, rfl, rfl, tg15, th15, bt15⟩
          · refine wpOp_step rfl (fun K hK => ?_)
            go_simp
            have b16 : Below w2.heap.size w2 (v1.alloc (.cells #[.int .i64 0, .int .i64 0] 24)) := b1.alloc b1.size _
            have rh16 : Row (v1.alloc (.cells #[.int .i64 0, .int .i64 0] 24)) (v1.heap.size) 24 [.int .i64 0, .int .i64 0] := by
              have h := Row.new v1 24 [.int .i64 0, .int .i64 0]
              (try simp only [World.size_drew, World.size_alloc] at h)
              exact h
            have hS16 := SOF.out _ b16
            refine hK _ _ ⟨hS16, ?_⟩
            try simp only [Act.put, List.setIfInBounds_toArray, List.set_cons_zero, List.set_cons_succ]
            refine wpAnyH_all (rs := [9, 10]) (by kernel_rfl) (by simp) ?_
            intro i hi; simp only [List.mem_cons, List.not_mem_nil, or_false] at hi
            rcases hi with rfl | rfl
            · refine wpOp_step rfl (fun K hK => ?_)
              go_simp
              refine (K2.out _).mono ?_
              rintro e v17 ⟨rfl, hB17⟩
              have b17 := b16.trans (hB17.mono b16.size)
              have hz17 := hB17.size
              (try simp only [World.size_drew, World.size_alloc] at hz17)
              have rh17 := rh16.below hB17 rh16.lt
              have hS17 := SOF.out _ b17
              refine hK _ _ ⟨hS17, ?_⟩
              try simp only [Act.put, List.setIfInBounds_toArray, List.set_cons_zero, List.set_cons_succ]
              refine wpAnyH_all (rs := [10]) (by kernel_rfl) (by simp) ?_
              intro i hi; simp only [List.mem_cons, List.not_mem_nil, or_false] at hi
              subst hi
              refine wpOp_step rfl (fun K hK => ?_)
              go_simp
              have b18 : Below w2.heap.size w2 (v17.alloc (.cells #[.int .i64 0, .int .i64 0] 24)) := b17.alloc b17.size _
              have rg18 : Row (v17.alloc (.cells #[.int .i64 0, .int .i64 0] 24)) (v17.heap.size) 24 [.int .i64 0, .int .i64 0] := by
                have h := Row.new v17 24 [.int .i64 0, .int .i64 0]
                (try simp only [World.size_drew, World.size_alloc] at h)
                exact h
              have rh18 := rh17.alloc (.cells #[.int .i64 0, .int .i64 0] 24)
              have hS18 := SOF.out _ b18
              refine hK _ _ ⟨hS18, ?_⟩
              try simp only [Act.put, List.setIfInBounds_toArray, List.set_cons_zero, List.set_cons_succ]
              obtain ⟨X19, hX19⟩ : ∃ z, z = (v17.alloc (.cells #[.int .i64 0, .int .i64 0] 24)) := ⟨_, rfl⟩
              rw [← hX19] at rg18 rh18 b18 ⊢
              clear hX19
              have ne19 : v17.heap.size ≠ v1.heap.size := by omega
              have lg19 : w2.heap.size ≤ v17.heap.size := by omega
              have lh19 : w2.heap.size ≤ v1.heap.size := by omega
              have d0 := rg18.cell 0
              have d1 := rg18.cell 1
              have df0 := rg18.frozen 0
              have df1 := rg18.frozen 1
              simp only [List.getElem?_cons_zero, List.getElem?_cons_succ] at d0 d1
              have sg19 := (rg18.set 0 (.int .i64 s)).set 1 (.int .i64 t)
              have sh19 := (rh18.other (a := ⟨v17.heap.size, 0, none⟩) (by show v17.heap.size ≠ v1.heap.size; omega) (.int .i64 s)).other (a := ⟨v17.heap.size, 1, none⟩) (by show v17.heap.size ≠ v1.heap.size; omega) (.int .i64 t)
              have bs19 := (b18.setCell (p := ⟨v17.heap.size, 0, none⟩) lg19 (.int .i64 s)).setCell (p := ⟨v17.heap.size, 1, none⟩) lg19 (.int .i64 t)
              have hT19 := SOF.out _ bs19
              refine wpAnyH_all (rs := [12]) (by kernel_rfl) (by simp) ?_
              intro i hi; simp only [List.mem_singleton] at hi; subst hi
              refine wpOp_step rfl (fun K hK => ?_)
              go_simp
              refine hK _ _ ⟨hT19, ?_⟩
              try simp only [Act.put, List.setIfInBounds_toArray, List.set_cons_zero, List.set_cons_succ]
              clear d0 d1 df0 df1
              have q0 := sh19.cell 0
              have q1 := sh19.cell 1
              have qf0 := sh19.frozen 0
              have qf1 := sh19.frozen 1
              simp only [List.getElem?_cons_zero, List.getElem?_cons_succ] at q0 q1
              have tg19 := (sg19.other (a := ⟨v1.heap.size, 0, none⟩) (by show v1.heap.size ≠ v17.heap.size; omega) (.int .i64 s')).other (a := ⟨v1.heap.size, 1, none⟩) (by show v1.heap.size ≠ v17.heap.size; omega) (.int .i64 t')
              have th19 := (sh19.set 0 (.int .i64 s')).set 1 (.int .i64 t')
              have bt19 := (bs19.setCell (p := ⟨v1.heap.size, 0, none⟩) lh19 (.int .i64 s')).setCell (p := ⟨v1.heap.size, 1, none⟩) lh19 (.int .i64 t')
              have hU19 := SOF.out _ bt19
              refine wpAnyH_all (rs := [13]) (by kernel_rfl) (by simp) ?_
              intro i hi; simp only [List.mem_singleton] at hi; subst hi
              refine wpOp_step rfl (fun K hK => ?_)
              go_simp
              refine hK _ _ ⟨hU19, ?_⟩
              try simp only [Act.put, List.setIfInBounds_toArray, List.set_cons_zero, List.set_cons_succ]
              refine wpAnyH_done (by kernel_rfl) ?_ _
              go_wp2_with fail
              go_meet
              exact ⟨_, _, _, rfl, rfl, rfl, tg19, th19, bt19⟩
            · refine wpOp_step rfl (fun K hK => ?_)
              go_simp
              have b20 : Below w2.heap.size w2 ((v1.alloc (.cells #[.int .i64 0, .int .i64 0] 24)).alloc (.cells #[.int .i64 0, .int .i64 0] 24)) := b16.alloc b16.size _
              have rg20 : Row ((v1.alloc (.cells #[.int .i64 0, .int .i64 0] 24)).alloc (.cells #[.int .i64 0, .int .i64 0] 24)) (v1.heap.size + 1) 24 [.int .i64 0, .int .i64 0] := by
                have h := Row.new (v1.alloc (.cells #[.int .i64 0, .int .i64 0] 24)) 24 [.int .i64 0, .int .i64 0]
                (try simp only [World.size_drew, World.size_alloc] at h)
                exact h
              have rh20 := rh16.alloc (.cells #[.int .i64 0, .int .i64 0] 24)
              have hS20 := SOF.out _ b20
              refine hK _ _ ⟨hS20, ?_⟩
              try simp only [Act.put, List.setIfInBounds_toArray, List.set_cons_zero, List.set_cons_succ]
              refine wpAnyH_all (rs := [9]) (by kernel_rfl) (by simp) ?_
              intro i hi; simp only [List.mem_cons, List.not_mem_nil, or_false] at hi
              subst hi
              refine wpOp_step rfl (fun K hK => ?_)
              go_simp
              refine (K2.out _).mono ?_
              rintro e v21 ⟨rfl, hB21⟩
              have b21 := b20.trans (hB21.mono b20.size)
              have hz21 := hB21.size
              (try simp only [World.size_drew, World.size_alloc] at hz21)
              have rg21 := rg20.below hB21 rg20.lt
              have rh21 := rh20.below hB21 rh20.lt
              have hS21 := SOF.out _ b21
              refine hK _ _ ⟨hS21, ?_⟩
              try simp only [Act.put, List.setIfInBounds_toArray, List.set_cons_zero, List.set_cons_succ]
              obtain ⟨X22, hX22⟩ : ∃ z, z = v21 := ⟨_, rfl⟩
              rw [← hX22] at rg21 rh21 b21 ⊢
              clear hX22
              have ne22 : v1.heap.size + 1 ≠ v1.heap.size := by omega
              have lg22 : w2.heap.size ≤ v1.heap.size + 1 := by omega
              have lh22 : w2.heap.size ≤ v1.heap.size := by omega
              have d0 := rg21.cell 0
              have d1 := rg21.cell 1
              have df0 := rg21.frozen 0
              have df1 := rg21.frozen 1
              simp only [List.getElem?_cons_zero, List.getElem?_cons_succ] at d0 d1
              have sg22 := (rg21.set 0 (.int .i64 s)).set 1 (.int .i64 t)
              have sh22 := (rh21.other (a := ⟨v1.heap.size + 1, 0, none⟩) (by show v1.heap.size + 1 ≠ v1.heap.size; omega) (.int .i64 s)).other (a := ⟨v1.heap.size + 1, 1, none⟩) (by show v1.heap.size + 1 ≠ v1.heap.size; omega) (.int .i64 t)
              have bs22 := (b21.setCell (p := ⟨v1.heap.size + 1, 0, none⟩) lg22 (.int .i64 s)).setCell (p := ⟨v1.heap.size + 1, 1, none⟩) lg22 (.int .i64 t)
              have hT22 := SOF.out _ bs22
              refine wpAnyH_all (rs := [12]) (by kernel_rfl) (by simp) ?_
              intro i hi; simp only [List.mem_singleton] at hi; subst hi
              refine wpOp_step rfl (fun K hK => ?_)
              go_simp
              refine hK _ _ ⟨hT22, ?_⟩
              try simp only [Act.put, List.setIfInBounds_toArray, List.set_cons_zero, List.set_cons_succ]
              clear d0 d1 df0 df1
              have q0 := sh22.cell 0
              have q1 := sh22.cell 1
              have qf0 := sh22.frozen 0
              have qf1 := sh22.frozen 1
              simp only [List.getElem?_cons_zero, List.getElem?_cons_succ] at q0 q1
              have tg22 := (sg22.other (a := ⟨v1.heap.size, 0, none⟩) (by show v1.heap.size ≠ v1.heap.size + 1; omega) (.int .i64 s')).other (a := ⟨v1.heap.size, 1, none⟩) (by show v1.heap.size ≠ v1.heap.size + 1; omega) (.int .i64 t')
              have th22 := (sh22.set 0 (.int .i64 s')).set 1 (.int .i64 t')
              have bt22 := (bs22.setCell (p := ⟨v1.heap.size, 0, none⟩) lh22 (.int .i64 s')).setCell (p := ⟨v1.heap.size, 1, none⟩) lh22 (.int .i64 t')
              have hU22 := SOF.out _ bt22
              refine wpAnyH_all (rs := [13]) (by kernel_rfl) (by simp) ?_
              intro i hi; simp only [List.mem_singleton] at hi; subst hi
              refine wpOp_step rfl (fun K hK => ?_)
              go_simp
              refine hK _ _ ⟨hU22, ?_⟩
              try simp only [Act.put, List.setIfInBounds_toArray, List.set_cons_zero, List.set_cons_succ]
              refine wpAnyH_done (by kernel_rfl) ?_ _
              go_wp2_with fail
              go_meet
              exact ⟨_, _, _, rfl, rfl, rfl, tg22, th22, bt22⟩
        · refine wpOp_step rfl (fun K hK => ?_)
          go_simp
          have b23 : Below w2.heap.size w2 (w2.drew.alloc (.cells #[.int .i64 0, .int .i64 0] 24)) := b0.alloc b0.size _
          have rg23 : Row (w2.drew.alloc (.cells #[.int .i64 0, .int .i64 0] 24)) (w2.heap.size) 24 [.int .i64 0, .int .i64 0] := by
            have h := Row.new w2.drew 24 [.int .i64 0, .int .i64 0]
            (try simp only [World.size_drew, World.size_alloc] at h)
            exact h
          have hS23 := SOF.out _ b23
          refine hK _ _ ⟨hS23, ?_⟩
          try simp only [Act.put, List.setIfInBounds_toArray, List.set_cons_zero, List.set_cons_succ]
          refine wpAnyH_all (rs := [4, 11]) (by kernel_rfl) (by simp) ?_
          intro i hi; simp only [List.mem_cons, List.not_mem_nil, or_false] at hi
          rcases hi with rfl | rfl
          · refine wpOp_step rfl (fun K hK => ?_)
            go_simp
            refine (K1.out _).mono ?_
            rintro e v24 ⟨rfl, hB24⟩
            have b24 := b23.trans (hB24.mono b23.size)
            have hz24 := hB24.size
            (try simp only [World.size_drew, World.size_alloc] at hz24)
            have rg24 := rg23.below hB24 rg23.lt
            have hS24 := SOF.out _ b24
            refine hK _ _ ⟨hS24, ?_⟩
            try simp only [Act.put, List.setIfInBounds_toArray, List.set_cons_zero, List.set_cons_succ]
            refine wpAnyH_all (rs := [9, 11]) (by kernel_rfl) (by simp) ?_
            intro i hi; simp only [List.mem_cons, List.not_mem_nil, or_false] at hi
            rcases hi with rfl | rfl
            · refine wpOp_step rfl (fun K hK => ?_)
              go_simp
              refine (K2.out _).mono ?_
              rintro e v25 ⟨rfl, hB25⟩
              have b25 := b24.trans (hB25.mono b24.size)
              have hz25 := hB25.size
              (try simp only [World.size_drew, World.size_alloc] at hz25)
              have rg25 := rg24.below hB25 rg24.lt
              have hS25 := SOF.out _ b25
              refine hK _ _ ⟨hS25, ?_⟩
              try simp only [Act.put, List.setIfInBounds_toArray, List.set_cons_zero, List.set_cons_succ]
              refine wpAnyH_all (rs := [11]) (by kernel_rfl) (by simp) ?_
              intro i hi; simp only [List.mem_cons, List.not_mem_nil, or_false] at hi
              subst hi
              refine wpOp_step rfl (fun K hK => ?_)
              go_simp
              have b26 : Below w2.heap.size w2 (v25.alloc (.cells #[.int .i64 0, .int .i64 0] 24)) := b25.alloc b25.size _
              have rh26 : Row (v25.alloc (.cells #[.int .i64 0, .int .i64 0] 24)) (v25.heap.size) 24 [.int .i64 0, .int .i64 0] := by
                have h := Row.new v25 24 [.int .i64 0, .int .i64 0]
                (try simp only [World.size_drew, World.size_alloc] at h)
                exact h
              have rg26 := rg25.alloc (.cells #[.int .i64 0, .int .i64 0] 24)
              have hS26 := SOF.out _ b26
              refine hK _ _ ⟨hS26, ?_⟩
              try simp only [Act.put, List.setIfInBounds_toArray, List.set_cons_zero, List.set_cons_succ]
              obtain ⟨X27, hX27⟩ : ∃ z, z = (v25.alloc (.cells #[.int .i64 0, .int .i64 0] 24)) := ⟨_, rfl⟩
              rw [← hX27] at rg26 rh26 b26 ⊢
              clear hX27
              have ne27 : w2.heap.size ≠ v25.heap.size := by omega
              have lg27 : w2.heap.size ≤ w2.heap.size := by omega
              have lh27 : w2.heap.size ≤ v25.heap.size := by omega
              have d0 := rg26.cell 0
              have d1 := rg26.cell 1
              have df0 := rg26.frozen 0
              have df1 := rg26.frozen 1
              simp only [List.getElem?_cons_zero, List.getElem?_cons_succ] at d0 d1
              have sg27 := (rg26.set 0 (.int .i64 s)).set 1 (.int .i64 t)
              have sh27 := (rh26.other (a := ⟨w2.heap.size, 0, none⟩) (by show w2.heap.size ≠ v25.heap.size; omega) (.int .i64 s)).other (a := ⟨w2.heap.size, 1, none⟩) (by show w2.heap.size ≠ v25.heap.size; omega) (.int .i64 t)
              have bs27 := (b26.setCell (p := ⟨w2.heap.size, 0, none⟩) lg27 (.int .i64 s)).setCell (p := ⟨w2.heap.size, 1, none⟩) lg27 (.int .i64 t)
              have hT27 := SOF.out _ bs27
              refine wpAnyH_all (rs := [12]) (by kernel_rfl) (by simp) ?_
              intro i hi; simp only [List.mem_singleton] at hi; subst hi
              refine wpOp_step rfl (fun K hK => ?_)
              go_simp
              refine hK _ _ ⟨hT27, ?_⟩
              try simp only [Act.put, List.setIfInBounds_toArray, List.set_cons_zero, List.set_cons_succ]
              clear d0 d1 df0 df1
              have q0 := sh27.cell 0
              have q1 := sh27.cell 1
              have qf0 := sh27.frozen 0
              have qf1 := sh27.frozen 1
              simp only [List.getElem?_cons_zero, List.getElem?_cons_succ] at q0 q1
              have tg27 := (sg27.other (a := ⟨v25.heap.size, 0, none⟩) (by show v25.heap.size ≠ w2.heap.size; omega) (.int .i64 s')).other (a := ⟨v25.heap.size, 1, none⟩) (by show v25.heap.size ≠ w2.heap.size; omega) (.int .i64 t')
              have th27 := (sh27.set 0 (.int .i64 s')).set 1 (.int .i64 t')
              have bt27 := (bs27.setCell (p := ⟨v25.heap.size, 0, none⟩) lh27 (.int .i64 s')).setCell (p := ⟨v25.heap.size, 1, none⟩) lh27 (.int .i64 t')
              have hU27 := SOF.out _ bt27
              refine wpAnyH_all (rs := [13]) (by kernel_rfl) (by simp) ?_
              intro i hi; simp only [List.mem_singleton] at hi; subst hi
              refine wpOp_step rfl (fun K hK => ?_)
              go_simp
              refine hK _ _ ⟨hU27, ?_⟩
              try simp only [Act.put, List.setIfInBounds_toArray, List.set_cons_zero, List.set_cons_succ]
              refine wpAnyH_done (by kernel_rfl) ?_ _
              go_wp2_with fail
              go_meet
              exact ⟨_, _, _, rfl, rfl, rfl, tg27, th27, bt27⟩
            · refine wpOp_step rfl (fun K hK => ?_)
              go_simp
              have b28 : Below w2.heap.size w2 (v24.alloc (.cells #[.int .i64 0, .int .i64 0] 24)) := b24.alloc b24.size _
              have rh28 : Row (v24.alloc (.cells #[.int .i64 0, .int .i64 0] 24)) (v24.heap.size) 24 [.int .i64 0, .int .i64 0] := by
                have h := Row.new v24 24 [.int .i64 0, .int .i64 0]
                (try simp only [World.size_drew, World.size_alloc] at h)
                exact h
              have rg28 := rg24.alloc (.cells #[.int .i64 0, .int .i64 0] 24)
              have hS28 := SOF.out _ b28
              refine hK _ _ ⟨hS28, ?_⟩
              try simp only [Act.put, List.setIfInBounds_toArray, List.set_cons_zero, List.set_cons_succ]
              refine wpAnyH_all (rs := [9]) (by kernel_rfl) (by simp) ?_
              intro i hi; simp only [List.mem_cons, List.not_mem_nil, or_false] at hi
              subst hi
              refine wpOp_step rfl (fun K hK => ?_)
              go_simp
              refine (K2.out _).mono ?_
              rintro e v29 ⟨rfl, hB29⟩
              have b29 := b28.trans (hB29.mono b28.size)
              have hz29 := hB29.size
              (try simp only [World.size_drew, World.size_alloc] at hz29)
              have rg29 := rg28.below hB29 rg28.lt
              have rh29 := rh28.below hB29 rh28.lt
              have hS29 := SOF.out _ b29
              refine hK _ _ ⟨hS29, ?_⟩
              try simp only [Act.put, List.setIfInBounds_toArray, List.set_cons_zero, List.set_cons_succ]
              obtain ⟨X30, hX30⟩ : ∃ z, z = v29 := ⟨_, rfl⟩
              rw [← hX30] at rg29 rh29 b29 ⊢
              clear hX30
              have ne30 : w2.heap.size ≠ v24.heap.size := by omega
              have lg30 : w2.heap.size ≤ w2.heap.size := by omega
              have lh30 : w2.heap.size ≤ v24.heap.size := by omega
              have d0 := rg29.cell 0
              have d1 := rg29.cell 1
              have df0 := rg29.frozen 0
              have df1 := rg29.frozen 1
              simp only [List.getElem?_cons_zero, List.getElem?_cons_succ] at d0 d1
              have sg30 := (rg29.set 0 (.int .i64 s)).set 1 (.int .i64 t)
              have sh30 := (rh29.other (a := ⟨w2.heap.size, 0, none⟩) (by show w2.heap.size ≠ v24.heap.size; omega) (.int .i64 s)).other (a := ⟨w2.heap.size, 1, none⟩) (by show w2.heap.size ≠ v24.heap.size; omega) (.int .i64 t)
              have bs30 := (b29.setCell (p := ⟨w2.heap.size, 0, none⟩) lg30 (.int .i64 s)).setCell (p := ⟨w2.heap.size, 1, none⟩) lg30 (.int .i64 t)
              have hT30 := SOF.out _ bs30
              refine wpAnyH_all (rs := [12]) (by kernel_rfl) (by simp) ?_
              intro i hi; simp only [List.mem_singleton] at hi; subst hi
              refine wpOp_step rfl (fun K hK => ?_)
              go_simp
              refine hK _ _ ⟨hT30, ?_⟩
              try simp only [Act.put, List.setIfInBounds_toArray, List.set_cons_zero, List.set_cons_succ]
              clear d0 d1 df0 df1
              have q0 := sh30.cell 0
              have q1 := sh30.cell 1
              have qf0 := sh30.frozen 0
              have qf1 := sh30.frozen 1
              simp only [List.getElem?_cons_zero, List.getElem?_cons_succ] at q0 q1
              have tg30 := (sg30.other (a := ⟨v24.heap.size, 0, none⟩) (by show v24.heap.size ≠ w2.heap.size; omega) (.int .i64 s')).other (a := ⟨v24.heap.size, 1, none⟩) (by show v24.heap.size ≠ w2.heap.size; omega) (.int .i64 t')
              have th30 := (sh30.set 0 (.int .i64 s')).set 1 (.int .i64 t')
              have bt30 := (bs30.setCell (p := ⟨v24.heap.size, 0, none⟩) lh30 (.int .i64 s')).setCell (p := ⟨v24.heap.size, 1, none⟩) lh30 (.int .i64 t')
              have hU30 := SOF.out _ bt30
              refine wpAnyH_all (rs := [13]) (by kernel_rfl) (by simp) ?_
              intro i hi; simp only [List.mem_singleton] at hi; subst hi
              refine wpOp_step rfl (fun K hK => ?_)
              go_simp
              refine hK _ _ ⟨hU30, ?_⟩
              try simp only [Act.put, List.setIfInBounds_toArray, List.set_cons_zero, List.set_cons_succ]
              refine wpAnyH_done (by kernel_rfl) ?_ _
              go_wp2_with fail
              go_meet
              exact ⟨_, _, _, rfl, rfl, rfl, tg30, th30, bt30⟩
          · refine wpOp_step rfl (fun K hK => ?_)
            go_simp
            have b31 : Below w2.heap.size w2 ((w2.drew.alloc (.cells #[.int .i64 0, .int .i64 0] 24)).alloc (.cells #[.int .i64 0, .int .i64 0] 24)) := b23.alloc b23.size _
            have rh31 : Row ((w2.drew.alloc (.cells #[.int .i64 0, .int .i64 0] 24)).alloc (.cells #[.int .i64 0, .int .i64 0] 24)) (w2.heap.size + 1) 24 [.int .i64 0, .int .i64 0] := by
              have h := Row.new (w2.drew.alloc (.cells #[.int .i64 0, .int .i64 0] 24)) 24 [.int .i64 0, .int .i64 0]
              (try simp only [World.size_drew, World.size_alloc] at h)
              exact h
            have rg31 := rg23.alloc (.cells #[.int .i64 0, .int .i64 0] 24)
            have hS31 := SOF.out _ b31
            refine hK _ _ ⟨hS31, ?_⟩
            try simp only [Act.put, List.setIfInBounds_toArray, List.set_cons_zero, List.set_cons_succ]
            refine wpAnyH_all (rs := [4]) (by kernel_rfl) (by simp) ?_
            intro i hi; simp only [List.mem_cons, List.not_mem_nil, or_false] at hi
            subst hi
            refine wpOp_step rfl (fun K hK => ?_)
            go_simp
            refine (K1.out _).mono ?_
            rintro e v32 ⟨rfl, hB32⟩
            have b32 := b31.trans (hB32.mono b31.size)
            have hz32 := hB32.size
            (try simp only [World.size_drew, World.size_alloc] at hz32)
            have rg32 := rg31.below hB32 rg31.lt
            have rh32 := rh31.below hB32 rh31.lt
            have hS32 := SOF.out _ b32
            refine hK _ _ ⟨hS32, ?_⟩
            try simp only [Act.put, List.setIfInBounds_toArray, List.set_cons_zero, List.set_cons_succ]
            refine wpAnyH_all (rs := [9]) (by kernel_rfl) (by simp) ?_
            intro i hi; simp only [List.mem_cons, List.not_mem_nil, or_false] at hi
            subst hi
            refine wpOp_step rfl (fun K hK => ?_)
            go_simp
            refine (K2.out _).mono ?_
            rintro e v33 ⟨rfl, hB33⟩
            have b33 := b32.trans (hB33.mono b32.size)
            have hz33 := hB33.size
            (try simp only [World.size_drew, World.size_alloc] at hz33)
            have rg33 := rg32.below hB33 rg32.lt
            have rh33 := rh32.below hB33 rh32.lt
            have hS33 := SOF.out _ b33
            refine hK _ _ ⟨hS33, ?_⟩
            try simp only [Act.put, List.setIfInBounds_toArray, List.set_cons_zero, List.set_cons_succ]
            obtain ⟨X34, hX34⟩ : ∃ z, z = v33 := ⟨_, rfl⟩
            rw [← hX34] at rg33 rh33 b33 ⊢
            clear hX34
            have ne34 : w2.heap.size ≠ w2.heap.size + 1 := by omega
            have lg34 : w2.heap.size ≤ w2.heap.size := by omega
            have lh34 : w2.heap.size ≤ w2.heap.size + 1 := by omega
            have d0 := rg33.cell 0
            have d1 := rg33.cell 1
            have df0 := rg33.frozen 0
            have df1 := rg33.frozen 1
            simp only [List.getElem?_cons_zero, List.getElem?_cons_succ] at d0 d1
            have sg34 := (rg33.set 0 (.int .i64 s)).set 1 (.int .i64 t)
            have sh34 := (rh33.other (a := ⟨w2.heap.size, 0, none⟩) (by show w2.heap.size ≠ w2.heap.size + 1; omega) (.int .i64 s)).other (a := ⟨w2.heap.size, 1, none⟩) (by show w2.heap.size ≠ w2.heap.size + 1; omega) (.int .i64 t)
            have bs34 := (b33.setCell (p := ⟨w2.heap.size, 0, none⟩) lg34 (.int .i64 s)).setCell (p := ⟨w2.heap.size, 1, none⟩) lg34 (.int .i64 t)
            have hT34 := SOF.out _ bs34
            refine wpAnyH_all (rs := [12]) (by kernel_rfl) (by simp) ?_
            intro i hi; simp only [List.mem_singleton] at hi; subst hi
            refine wpOp_step rfl (fun K hK => ?_)
            go_simp
            refine hK _ _ ⟨hT34, ?_⟩
            try simp only [Act.put, List.setIfInBounds_toArray, List.set_cons_zero, List.set_cons_succ]
            clear d0 d1 df0 df1
            have q0 := sh34.cell 0
            have q1 := sh34.cell 1
            have qf0 := sh34.frozen 0
            have qf1 := sh34.frozen 1
            simp only [List.getElem?_cons_zero, List.getElem?_cons_succ] at q0 q1
            have tg34 := (sg34.other (a := ⟨w2.heap.size + 1, 0, none⟩) (by show w2.heap.size + 1 ≠ w2.heap.size; omega) (.int .i64 s')).other (a := ⟨w2.heap.size + 1, 1, none⟩) (by show w2.heap.size + 1 ≠ w2.heap.size; omega) (.int .i64 t')
            have th34 := (sh34.set 0 (.int .i64 s')).set 1 (.int .i64 t')
            have bt34 := (bs34.setCell (p := ⟨w2.heap.size + 1, 0, none⟩) lh34 (.int .i64 s')).setCell (p := ⟨w2.heap.size + 1, 1, none⟩) lh34 (.int .i64 t')
            have hU34 := SOF.out _ bt34
            refine wpAnyH_all (rs := [13]) (by kernel_rfl) (by simp) ?_
            intro i hi; simp only [List.mem_singleton] at hi; subst hi
            refine wpOp_step rfl (fun K hK => ?_)
            go_simp
            refine hK _ _ ⟨hU34, ?_⟩
            try simp only [Act.put, List.setIfInBounds_toArray, List.set_cons_zero, List.set_cons_succ]
            refine wpAnyH_done (by kernel_rfl) ?_ _
            go_wp2_with fail
            go_meet
            exact ⟨_, _, _, rfl, rfl, rfl, tg34, th34, bt34⟩
        · refine wpOp_step rfl (fun K hK => ?_)
          go_simp
          have b35 : Below w2.heap.size w2 (w2.drew.alloc (.cells #[.int .i64 0, .int .i64 0] 24)) := b0.alloc b0.size _
          have rh35 : Row (w2.drew.alloc (.cells #[.int .i64 0, .int .i64 0] 24)) (w2.heap.size) 24 [.int .i64 0, .int .i64 0] := by
            have h := Row.new w2.drew 24 [.int .i64 0, .int .i64 0]
            (try simp only [World.size_drew, World.size_alloc] at h)
            exact h
          have hS35 := SOF.out _ b35
          refine hK _ _ ⟨hS35, ?_⟩
          try simp only [Act.put, List.setIfInBounds_toArray, List.set_cons_zero, List.set_cons_succ]
          refine wpAnyH_all (rs := [4, 10]) (by kernel_rfl) (by simp) ?_
          intro i hi; simp only [List.mem_cons, List.not_mem_nil, or_false] at hi
          rcases hi with rfl | rfl
          · refine wpOp_step rfl (fun K hK => ?_)
            go_simp
            refine (K1.out _).mono ?_
            rintro e v36 ⟨rfl, hB36⟩
            have b36 := b35.trans (hB36.mono b35.size)
            have hz36 := hB36.size
            (try simp only [World.size_drew, World.size_alloc] at hz36)
            have rh36 := rh35.below hB36 rh35.lt
            have hS36 := SOF.out _ b36
            refine hK _ _ ⟨hS36, ?_⟩
            try simp only [Act.put, List.setIfInBounds_toArray, List.set_cons_zero, List.set_cons_succ]
            refine wpAnyH_all (rs := [9, 10]) (by kernel_rfl) (by simp) ?_
            intro i hi; simp only [List.mem_cons, List.not_mem_nil, or_false] at hi
            rcases hi with rfl | rfl
            · refine wpOp_step rfl (fun K hK => ?_)
              go_simp
              refine (K2.out _).mono ?_
              rintro e v37 ⟨rfl, hB37⟩
              have b37 := b36.trans (hB37.mono b36.size)
              have hz37 := hB37.size
              (try simp only [World.size_drew, World.size_alloc] at hz37)
              have rh37 := rh36.below hB37 rh36.lt
              have hS37 := SOF.out _ b37
              refine hK _ _ ⟨hS37, ?_⟩
              try simp only [Act.put, List.setIfInBounds_toArray, List.set_cons_zero, List.set_cons_succ]
              refine wpAnyH_all (rs := [10]) (by kernel_rfl) (by simp) ?_
              intro i hi; simp only [List.mem_cons, List.not_mem_nil, or_false] at hi
              subst hi
              refine wpOp_step rfl (fun K hK => ?_)
              go_simp
              have b38 : Below w2.heap.size w2 (v37.alloc (.cells #[.int .i64 0, .int .i64 0] 24)) := b37.alloc b37.size _
              have rg38 : Row (v37.alloc (.cells #[.int .i64 0, .int .i64 0] 24)) (v37.heap.size) 24 [.int .i64 0, .int .i64 0] := by
                have h := Row.new v37 24 [.int .i64 0, .int .i64 0]
                (try simp only [World.size_drew, World.size_alloc] at h)
                exact h
              have rh38 := rh37.alloc (.cells #[.int .i64 0, .int .i64 0] 24)
              have hS38 := SOF.out _ b38
              refine hK _ _ ⟨hS38, ?_⟩
              try simp only [Act.put, List.setIfInBounds_toArray, List.set_cons_zero, List.set_cons_succ]
              obtain ⟨X39, hX39⟩ : ∃ z, z = (v37.alloc (.cells #[.int .i64 0, .int .i64 0] 24)) := ⟨_, rfl⟩
              rw [← hX39] at rg38 rh38 b38 ⊢
              clear hX39
              have ne39 : v37.heap.size ≠ w2.heap.size := by omega
              have lg39 : w2.heap.size ≤ v37.heap.size := by omega
              have lh39 : w2.heap.size ≤ w2.heap.size := by omega
              have d0 := rg38.cell 0
              have d1 := rg38.cell 1
              have df0 := rg38.frozen 0
              have df1 := rg38.frozen 1
              simp only [List.getElem?_cons_zero, List.getElem?_cons_succ] at d0 d1
              have sg39 := (rg38.set 0 (.int .i64 s)).set 1 (.int .i64 t)
              have sh39 := (rh38.other (a := ⟨v37.heap.size, 0, none⟩) (by show v37.heap.size ≠ w2.heap.size; omega) (.int .i64 s)).other (a := ⟨v37.heap.size, 1, none⟩) (by show v37.heap.size ≠ w2.heap.size; omega) (.int .i64 t)
              have bs39 := (b38.setCell (p := ⟨v37.heap.size, 0, none⟩) lg39 (.int .i64 s)).setCell (p := ⟨v37.heap.size, 1, none⟩) lg39 (.int .i64 t)
              have hT39 := SOF.out _ bs39
              refine wpAnyH_all (rs := [12]) (by kernel_rfl) (by simp) ?_
              intro i hi; simp only [List.mem_singleton] at hi; subst hi
              refine wpOp_step rfl (fun K hK => ?_)
              go_simp
              refine hK _ _ ⟨hT39, ?_⟩
              try simp only [Act.put, List.setIfInBounds_toArray, List.set_cons_zero, List.set_cons_succ]
              clear d0 d1 df0 df1
              have q0 := sh39.cell 0
              have q1 := sh39.cell 1
              have qf0 := sh39.frozen 0
              have qf1 := sh39.frozen 1
              simp only [List.getElem?_cons_zero, List.getElem?_cons_succ] at q0 q1
              have tg39 := (sg39.other (a := ⟨w2.heap.size, 0, none⟩) (by show w2.heap.size ≠ v37.heap.size; omega) (.int .i64 s')).other (a := ⟨w2.heap.size, 1, none⟩) (by show w2.heap.size ≠ v37.heap.size; omega) (.int .i64 t')
              have th39 := (sh39.set 0 (.int .i64 s')).set 1 (.int .i64 t')
              have bt39 := (bs39.setCell (p := ⟨w2.heap.size, 0, none⟩) lh39 (.int .i64 s')).setCell (p := ⟨w2.heap.size, 1, none⟩) lh39 (.int .i64 t')
              have hU39 := SOF.out _ bt39
              refine wpAnyH_all (rs := [13]) (by kernel_rfl) (by simp) ?_
              intro i hi; simp only [List.mem_singleton] at hi; subst hi
              refine wpOp_step rfl (fun K hK => ?_)
              go_simp
              refine hK _ _ ⟨hU39, ?_⟩
              try simp only [Act.put, List.setIfInBounds_toArray, List.set_cons_zero, List.set_cons_succ]
              refine wpAnyH_done (by kernel_rfl) ?_ _
              go_wp2_with fail
              go_meet
              exact ⟨_, _, _, rfl, rfl, rfl, tg39, th39, bt39⟩
            · refine wpOp_step rfl (fun K hK => ?_)
              go_simp
              have b40 : Below w2.heap.size w2 (v36.alloc (.cells #[.int .i64 0, .int .i64 0] 24)) := b36.alloc b36.size _
              have rg40 : Row (v36.alloc (.cells #[.int .i64 0, .int .i64 0] 24)) (v36.heap.size) 24 [.int .i64 0, .int .i64 0] := by
                have h := Row.new v36 24 [.int .i64 0, .int .i64 0]
                (try simp only [World.size_drew, World.size_alloc] at h)
                exact h
              have rh40 := rh36.alloc (.cells #[.int .i64 0, .int .i64 0] 24)
              have hS40 := SOF.out _ b40
              refine hK _ _ ⟨hS40, ?_⟩
              try simp only [Act.put, List.setIfInBounds_toArray, List.set_cons_zero, List.set_cons_succ]
              refine wpAnyH_all (rs := [9]) (by kernel_rfl) (by simp) ?_
              intro i hi; simp only [List.mem_cons, List.not_mem_nil, or_false] at hi
              subst hi
              refine wpOp_step rfl (fun K hK => ?_)
              go_simp
              refine (K2.out _).mono ?_
              rintro e v41 ⟨rfl, hB41⟩
              have b41 := b40.trans (hB41.mono b40.size)
              have hz41 := hB41.size
              (try simp only [World.size_drew, World.size_alloc] at hz41)
              have rg41 := rg40.below hB41 rg40.lt
              have rh41 := rh40.below hB41 rh40.lt
              have hS41 := SOF.out _ b41
              refine hK _ _ ⟨hS41, ?_⟩
              try simp only [Act.put, List.setIfInBounds_toArray, List.set_cons_zero, List.set_cons_succ]
              obtain ⟨X42, hX42⟩ : ∃ z, z = v41 := ⟨_, rfl⟩
              rw [← hX42] at rg41 rh41 b41 ⊢
              clear hX42
              have ne42 : v36.heap.size ≠ w2.heap.size := by omega
              have lg42 : w2.heap.size ≤ v36.heap.size := by omega
              have lh42 : w2.heap.size ≤ w2.heap.size := by omega
              have d0 := rg41.cell 0
              have d1 := rg41.cell 1
              have df0 := rg41.frozen 0
              have df1 := rg41.frozen 1
              simp only [List.getElem?_cons_zero, List.getElem?_cons_succ] at d0 d1
              have sg42 := (rg41.set 0 (.int .i64 s)).set 1 (.int .i64 t)
              have sh42 := (rh41.other (a := ⟨v36.heap.size, 0, none⟩) (by show v36.heap.size ≠ w2.heap.size; omega) (.int .i64 s)).other (a := ⟨v36.heap.size, 1, none⟩) (by show v36.heap.size ≠ w2.heap.size; omega) (.int .i64 t)
              have bs42 := (b41.setCell (p := ⟨v36.heap.size, 0, none⟩) lg42 (.int .i64 s)).setCell (p := ⟨v36.heap.size, 1, none⟩) lg42 (.int .i64 t)
              have hT42 := SOF.out _ bs42
              refine wpAnyH_all (rs := [12]) (by kernel_rfl) (by simp) ?_
              intro i hi; simp only [List.mem_singleton] at hi; subst hi
              refine wpOp_step rfl (fun K hK => ?_)
              go_simp
              refine hK _ _ ⟨hT42, ?_⟩
              try simp only [Act.put, List.setIfInBounds_toArray, List.set_cons_zero, List.set_cons_succ]
              clear d0 d1 df0 df1
              have q0 := sh42.cell 0
              have q1 := sh42.cell 1
              have qf0 := sh42.frozen 0
              have qf1 := sh42.frozen 1
              simp only [List.getElem?_cons_zero, List.getElem?_cons_succ] at q0 q1
              have tg42 := (sg42.other (a := ⟨w2.heap.size, 0, none⟩) (by show w2.heap.size ≠ v36.heap.size; omega) (.int .i64 s')).other (a := ⟨w2.heap.size, 1, none⟩) (by show w2.heap.size ≠ v36.heap.size; omega) (.int .i64 t')
              have th42 := (sh42.set 0 (.int .i64 s')).set 1 (.int .i64 t')
              have bt42 := (bs42.setCell (p := ⟨w2.heap.size, 0, none⟩) lh42 (.int .i64 s')).setCell (p := ⟨w2.heap.size, 1, none⟩) lh42 (.int .i64 t')
              have hU42 := SOF.out _ bt42
              refine wpAnyH_all (rs := [13]) (by kernel_rfl) (by simp) ?_
              intro i hi; simp only [List.mem_singleton] at hi; subst hi
              refine wpOp_step rfl (fun K hK => ?_)
              go_simp
              refine hK _ _ ⟨hU42, ?_⟩
              try simp only [Act.put, List.setIfInBounds_toArray, List.set_cons_zero, List.set_cons_succ]
              refine wpAnyH_done (by kernel_rfl) ?_ _
              go_wp2_with fail
              go_meet
              exact ⟨_, _, _, rfl, rfl, rfl, tg42, th42, bt42⟩
          · refine wpOp_step rfl (fun K hK => ?_)
            go_simp
            have b43 : Below w2.heap.size w2 ((w2.drew.alloc (.cells #[.int .i64 0, .int .i64 0] 24)).alloc (.cells #[.int .i64 0, .int .i64 0] 24)) := b35.alloc b35.size _
            have rg43 : Row ((w2.drew.alloc (.cells #[.int .i64 0, .int .i64 0] 24)).alloc (.cells #[.int .i64 0, .int .i64 0] 24)) (w2.heap.size + 1) 24 [.int .i64 0, .int .i64 0] := by
              have h := Row.new (w2.drew.alloc (.cells #[.int .i64 0, .int .i64 0] 24)) 24 [.int .i64 0, .int .i64 0]
              (try simp only [World.size_drew, World.size_alloc] at h)
              exact h
            have rh43 := rh35.alloc (.cells #[.int .i64 0, .int .i64 0] 24)
            have hS43 := SOF.out _ b43
            refine hK _ _ ⟨hS43, ?_⟩
            try simp only [Act.put, List.setIfInBounds_toArray, List.set_cons_zero, List.set_cons_succ]
            refine wpAnyH_all (rs := [4]) (by kernel_rfl) (by simp) ?_
            intro i hi; simp only [List.mem_cons, List.not_mem_nil, or_false] at hi
            subst hi
            refine wpOp_step rfl (fun K hK => ?_)
            go_simp
            refine (K1.out _).mono ?_
            rintro e v44 ⟨rfl, hB44⟩
            have b44 := b43.trans (hB44.mono b43.size)
            have hz44 := hB44.size
            (try simp only [World.size_drew, World.size_alloc] at hz44)
            have rg44 := rg43.below hB44 rg43.lt
            have rh44 := rh43.below hB44 rh43.lt
            have hS44 := SOF.out _ b44
            refine hK _ _ ⟨hS44, ?_⟩
            try simp only [Act.put, List.setIfInBounds_toArray, List.set_cons_zero, List.set_cons_succ]
            refine wpAnyH_all (rs := [9]) (by kernel_rfl) (by simp) ?_
            intro i hi; simp only [List.mem_cons, List.not_mem_nil, or_false] at hi
            subst hi
            refine wpOp_step rfl (fun K hK => ?_)
            go_simp
            refine (K2.out _).mono ?_
            rintro e v45 ⟨rfl, hB45⟩
            have b45 := b44.trans (hB45.mono b44.size)
            have hz45 := hB45.size
            (try simp only [World.size_drew, World.size_alloc] at hz45)
            have rg45 := rg44.below hB45 rg44.lt
            have rh45 := rh44.below hB45 rh44.lt
            have hS45 := SOF.out _ b45
            refine hK _ _ ⟨hS45, ?_⟩
            try simp only [Act.put, List.setIfInBounds_toArray, List.set_cons_zero, List.set_cons_succ]
            obtain ⟨X46, hX46⟩ : ∃ z, z = v45 := ⟨_, rfl⟩
            rw [← hX46] at rg45 rh45 b45 ⊢
            clear hX46
            have ne46 : w2.heap.size + 1 ≠ w2.heap.size := by omega
            have lg46 : w2.heap.size ≤ w2.heap.size + 1 := by omega
            have lh46 : w2.heap.size ≤ w2.heap.size := by omega
            have d0 := rg45.cell 0
            have d1 := rg45.cell 1
            have df0 := rg45.frozen 0
            have df1 := rg45.frozen 1
            simp only [List.getElem?_cons_zero, List.getElem?_cons_succ] at d0 d1
            have sg46 := (rg45.set 0 (.int .i64 s)).set 1 (.int .i64 t)
            have sh46 := (rh45.other (a := ⟨w2.heap.size + 1, 0, none⟩) (by show w2.heap.size + 1 ≠ w2.heap.size; omega) (.int .i64 s)).other (a := ⟨w2.heap.size + 1, 1, none⟩) (by show w2.heap.size + 1 ≠ w2.heap.size; omega) (.int .i64 t)
            have bs46 := (b45.setCell (p := ⟨w2.heap.size + 1, 0, none⟩) lg46 (.int .i64 s)).setCell (p := ⟨w2.heap.size + 1, 1, none⟩) lg46 (.int .i64 t)
            have hT46 := SOF.out _ bs46
            refine wpAnyH_all (rs := [12]) (by kernel_rfl) (by simp) ?_
            intro i hi; simp only [List.mem_singleton] at hi; subst hi
            refine wpOp_step rfl (fun K hK => ?_)
            go_simp
            refine hK _ _ ⟨hT46, ?_⟩
            try simp only [Act.put, List.setIfInBounds_toArray, List.set_cons_zero, List.set_cons_succ]
            clear d0 d1 df0 df1
            have q0 := sh46.cell 0
            have q1 := sh46.cell 1
            have qf0 := sh46.frozen 0
            have qf1 := sh46.frozen 1
            simp only [List.getElem?_cons_zero, List.getElem?_cons_succ] at q0 q1
            have tg46 := (sg46.other (a := ⟨w2.heap.size, 0, none⟩) (by show w2.heap.size ≠ w2.heap.size + 1; omega) (.int .i64 s')).other (a := ⟨w2.heap.size, 1, none⟩) (by show w2.heap.size ≠ w2.heap.size + 1; omega) (.int .i64 t')
            have th46 := (sh46.set 0 (.int .i64 s')).set 1 (.int .i64 t')
            have bt46 := (bs46.setCell (p := ⟨w2.heap.size, 0, none⟩) lh46 (.int .i64 s')).setCell (p := ⟨w2.heap.size, 1, none⟩) lh46 (.int .i64 t')
            have hU46 := SOF.out _ bt46
            refine wpAnyH_all (rs := [13]) (by kernel_rfl) (by simp) ?_
            intro i hi; simp only [List.mem_singleton] at hi; subst hi
            refine wpOp_step rfl (fun K hK => ?_)
            go_simp
            refine hK _ _ ⟨hU46, ?_⟩
            try simp only [Act.put, List.setIfInBounds_toArray, List.set_cons_zero, List.set_cons_succ]
            refine wpAnyH_done (by kernel_rfl) ?_ _
            go_wp2_with fail
            go_meet
            exact ⟨_, _, _, rfl, rfl, rfl, tg46, th46, bt46⟩
      case rest =>
        obtain ⟨g, h, V, rfl, rfl, rfl, rG, rH, bV⟩ := hcut
        have e0 := rG.cell 0
        have e1 := rG.cell 1
        have e2 := rH.cell 0
        have e3 := rH.cell 1
        simp only [List.getElem?_cons_zero, List.getElem?_cons_succ] at e0 e1 e2 e3
        have hzV := bV.size
        have bF := hid (bE2.out.trans (bV.mono (by omega)))
        have R3 := hid ((R2.out.below bV l2).alloc (.cells #[.int .i64 P, .int .i64 Q] 24))
        have q4 := nilpair_new V 24 (.int .i64 P) (.int .i64 Q)
        have bG := hid (bF.out.alloc (by omega) (.cells #[.int .i64 P, .int .i64 Q] 24))
        have k0 := q4.cell 0
        have k1 := q4.cell 1
        simp only [List.getElem?_cons_zero, List.getElem?_cons_succ] at k0 k1
        clear rG rH bV c0 c1 c2 c3
        cases hk : okR P Q with
        | true =>
          rw [hk] at HV
          have HN := HMM.out
          rw [hk] at HN
          simp only [if_true] at HN
          have HN2 := hid HN
          clear hk HN
          go_wp2_with fail
          refine (HV.out _).mono ?_
          rintro e w5 ⟨rfl, hB5⟩
          have hz5 := hB5.size
          simp only [World.size_alloc] at hB5 hz5
          have r2 := R3.out.below hB5 (by omega)
          have q5 := q4.below hB5 (by omega)
          clear k0 k1 e0 e1 e2 e3 q4
          have k0 := q5.cell 0
          have k1 := q5.cell 1
          simp only [List.getElem?_cons_zero, List.getElem?_cons_succ] at k0 k1
          have d0 := r2.cell 0
          have d1 := r2.cell 1
          have f0 := r2.frozen 0
          have f1 := r2.frozen 1
          simp only [List.getElem?_cons_zero, List.getElem?_cons_succ] at d0 d1
          have P3 := hid (pair_again (.int .i64 P) (.int .i64 Q) r2)
          have bZ := hid (bG.out.trans (hB5.mono (by omega)))
          go_wp2_with fail
          obtain ⟨Y, hV⟩ : ∃ Y, Y = (w5.setCell ⟨w.heap.size + 1 + 1, 0, none⟩ (.int .i64 P)).setCell ⟨w.heap.size + 1 + 1, 1, none⟩ (.int .i64 Q) := ⟨_, rfl⟩
          obtain ⟨rY, bY, _⟩ := P3.out Y hV
          rw [← hV]
          clear hV k0 k1 d0 d1 f0 f1
          have g0 := rY.cell 0
          have g1 := rY.cell 1
          simp only [List.getElem?_cons_zero, List.getElem?_cons_succ] at g0 g1
          exact bodyPost_ret (v := .tuple #[.agg #[.int .i64 P, .int .i64 Q], .int .i64 0]) (by simp [results, Try.results9, go_sem, g0, g1]) rfl ⟨by rw [HN2.out]; rfl, bZ.out.trans (bY _ (by omega))⟩
        | false =>
          rw [hk] at HV
          have HN := HMM.out
          rw [hk] at HN
          simp only [if_neg Bool.false_ne_true] at HN
          have HN2 := hid HN
          clear hk HN
          go_wp2_with fail
          refine (HV.out _).mono ?_
          rintro e w5 ⟨rfl, hB5⟩
          have hz5 := hB5.size
          simp only [World.size_alloc] at hB5 hz5
          have r2 := R3.out.below hB5 (by omega)
          clear k0 k1 e0 e1 e2 e3 q4
          have d0 := r2.cell 0
          have d1 := r2.cell 1
          have f0 := r2.frozen 0
          have f1 := r2.frozen 1
          simp only [List.getElem?_cons_zero, List.getElem?_cons_succ] at d0 d1
          have P3 := hid (pair_again (.int .i64 0) (.int .i64 0) r2)
          have bZ := hid (bG.out.trans (hB5.mono (by omega)))
          go_wp2_with fail
          obtain ⟨Y, hV⟩ : ∃ Y, Y = (w5.setCell ⟨w.heap.size + 1 + 1, 0, none⟩ (.int .i64 0)).setCell ⟨w.heap.size + 1 + 1, 1, none⟩ (.int .i64 0) := ⟨_, rfl⟩
          obtain ⟨rY, bY, _⟩ := P3.out Y hV
          rw [← hV]
          clear hV d0 d1 f0 f1
          have g0 := rY.cell 0
          have g1 := rY.cell 1
          simp only [List.getElem?_cons_zero, List.getElem?_cons_succ] at g0 g1
          exact bodyPost_ret (v := .tuple #[.agg #[.int .i64 0, .int .i64 0], .int .i64 3]) (by simp [results, Try.results9, go_sem, g0, g1]) rfl ⟨by rw [HN2.out]; rfl, bZ.out.trans (bY _ (by omega))⟩
end Go.Proofs.Yteangabkpaamcaa
