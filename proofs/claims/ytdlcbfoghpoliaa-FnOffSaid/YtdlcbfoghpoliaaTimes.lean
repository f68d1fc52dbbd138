/- The product of two ratios, the model's. -/
import Derived.Test.YtdlcbfoghpoliaaMade
import Derived.Test.YtdlcbfoghpoliaaNear
namespace Go.Proofs.Ytdlcbfoghpoliaa
open Go.RowKit
def timesP (p q u v : Int) : Int := redP p v * redP u q
def timesQ (p q u v : Int) : Int := redQ u q * redQ p v
theorem times_bd {p q u v : Int} (h1 : okR p q = true) (h2 : okR u v = true) : 1 ≤ timesP p q u v ∧ timesP p q u v ≤ 1000000000000000000 ∧ 1 ≤ timesQ p q u v ∧ timesQ p q u v ≤ 1000000000000000000 := by
  obtain ⟨a1, a2, a3, a4, _⟩ := okR_out h1
  obtain ⟨b1, b2, b3, b4, _⟩ := okR_out h2
  obtain ⟨_, _, _, x1, x2, x3, x4, _⟩ := red_bd a1 b3
  obtain ⟨_, _, _, y1, y2, y3, y4, _⟩ := red_bd b1 a3
  have m1 := mul9 (a := redP p v) (b := redP u q) x1 (by omega) y1 (by omega)
  have m2 := mul9 (a := redQ u q) (b := redQ p v) y3 (by omega) x3 (by omega)
  exact ⟨m1.1, m1.2, m2.1, m2.2⟩
set_option maxHeartbeats 4000000 in
theorem l03Times_any (p q u v : Int) (h1 : okR p q = true) (h2 : okR u v = true) (w : World) :
    Calls Try.prog 29 #[.agg #[.int .i64 p, .int .i64 q], .agg #[.int .i64 u, .int .i64 v]] w (GivesB w (pairV (madeR (timesP p q u v) (timesQ p q u v)))) := by
  obtain ⟨a1, a2, a3, a4, _⟩ := okR_out h1
  obtain ⟨b1, b2, b3, b4, _⟩ := okR_out h2
  obtain ⟨g1, g2, g3, x1, x2, x3, x4, _⟩ := red_bd a1 b3
  obtain ⟨k1, k2, k3, y1, y2, y3, y4, _⟩ := red_bd b1 a3
  have HG := hid (fun w => l03Gcd_any p v (by omega) (by omega) (by omega) (by omega) w)
  have HH := hid (fun w => l03Gcd_any u q (by omega) (by omega) (by omega) (by omega) w)
  have e1 : p.tdiv (gcdI p v) = redP p v := Int.tdiv_eq_ediv_of_nonneg (by omega)
  have e2 : v.tdiv (gcdI p v) = redQ p v := Int.tdiv_eq_ediv_of_nonneg (by omega)
  have e3 : u.tdiv (gcdI u q) = redP u q := Int.tdiv_eq_ediv_of_nonneg (by omega)
  have e4 : q.tdiv (gcdI u q) = redQ u q := Int.tdiv_eq_ediv_of_nonneg (by omega)
  have i1 : p / gcdI p v = redP p v := rfl
  have i2 : v / gcdI p v = redQ p v := rfl
  have i3 : u / gcdI u q = redP u q := rfl
  have i4 : q / gcdI u q = redQ u q := rfl
  have TB := times_bd h1 h2
  have HM := hid (fun w => l03Made_any (timesP p q u v) (timesQ p q u v) TB.1 TB.2.2.1 (by omega) (by omega) w)
  obtain ⟨⟨⟨X, Y⟩, C⟩, hm⟩ : ∃ m, madeR (timesP p q u v) (timesQ p q u v) = m := ⟨_, rfl⟩
  rw [hm] at HM ⊢
  unfold pairV at HM ⊢
  simp only at HM ⊢
  have m1 : redP p v * redP u q = timesP p q u v := rfl
  have m2 : redQ u q * redQ p v = timesQ p q u v := rfl
  obtain ⟨P, hP⟩ : ∃ z, timesP p q u v = z := ⟨_, rfl⟩
  obtain ⟨Q, hQ⟩ : ∃ z, timesQ p q u v = z := ⟨_, rfl⟩
  rw [hP] at m1 TB HM
  rw [hQ] at m2 TB HM
  obtain ⟨g, hg⟩ : ∃ z, gcdI p v = z := ⟨_, rfl⟩
  obtain ⟨k, hk⟩ : ∃ z, gcdI u q = z := ⟨_, rfl⟩
  obtain ⟨s, hs⟩ : ∃ z, redP p v = z := ⟨_, rfl⟩
  obtain ⟨t, ht⟩ : ∃ z, redQ p v = z := ⟨_, rfl⟩
  obtain ⟨s', hs'⟩ : ∃ z, redP u q = z := ⟨_, rfl⟩
  obtain ⟨t', ht'⟩ : ∃ z, redQ u q = z := ⟨_, rfl⟩
  rw [hg] at HG e1 e2 i1 i2 g1
  rw [hk] at HH e3 e4 i3 i4 k1
  rw [hs] at e1 i1 m1 x1 x2
  rw [ht] at e2 i2 m2 x3 x4
  rw [hs'] at e3 i3 m1 y1 y2
  rw [ht'] at e4 i4 m2 y3 y4
  obtain ⟨TB1, TB2, TB3, TB4⟩ := TB
  have z1 : (g == 0) = false := by simp; omega
  have z2 : (k == 0) = false := by simp; omega
  have n1 : g ≠ 0 := by omega
  have n2 : k ≠ 0 := by omega
  have t1 : IntKind.i64.wrap s = s := IntWalk.i64_in _ (by omega)
  have t2 : IntKind.i64.wrap t = t := IntWalk.i64_in _ (by omega)
  have t3 : IntKind.i64.wrap s' = s' := IntWalk.i64_in _ (by omega)
  have t4 : IntKind.i64.wrap t' = t' := IntWalk.i64_in _ (by omega)
  have t5 : IntKind.i64.wrap P = P := IntWalk.i64_in _ (by omega)
  have t6 : IntKind.i64.wrap Q = Q := IntWalk.i64_in _ (by omega)
  clear hm hP hQ hg hk hs ht hs' ht' h1 h2
  obtain ⟨W, hW⟩ : ∃ W, W = (((w.alloc (.cells #[.int .i64 p, .int .i64 q] 28)).alloc (.cells #[.int .i64 u, .int .i64 v] 28)).alloc (.cells #[.int .i64 0, .int .i64 0] 28)) := ⟨_, rfl⟩
  obtain ⟨q0, q1, q2, bW, sW⟩ := three_ratios w 28 (.int .i64 p) (.int .i64 q) (.int .i64 u) (.int .i64 v) (.int .i64 0) (.int .i64 0) W hW
  have bE := hid bW
  have hW2 := hid hW
  have l0 := q0.lt
  have l1 := q1.lt
  have l2 := q2.lt
  have hb0 := Below.refl W.heap.size W
  have Q2 := hid q2
  have c0 := q0.cell 0
  have c1 := q0.cell 1
  have c2 := q1.cell 0
  have c3 := q1.cell 1
  simp only [List.getElem?_cons_zero, List.getElem?_cons_succ] at c0 c1 c2 c3
  have Cs := hid (And.intro c0 (And.intro c1 (And.intro c2 c3)))
  clear bW hW sW q0 q1 q2 c0 c1 c2 c3
  go_enter Try.func29, Try.ntmps29
  go_wp2_with fail
  refine (HG.out _).mono ?_
  rintro e w' ⟨rfl, rfl⟩
  go_wp2_with fail
  refine (HH.out _).mono ?_
  rintro e w' ⟨rfl, rfl⟩
  go_wp2_with fail
  rw [← hW2.out]
  obtain ⟨c0, c1, c2, c3⟩ := Cs.out
  have hqs := Cs.out
  have m0 : w.heap.size < w.heap.size + 1 + 1 := by omega
  have m1 : w.heap.size + 1 < w.heap.size + 1 + 1 := by omega
  go_region_held3 (fun w' => w'.cell? ⟨w.heap.size, 0, none⟩ = some (.int .i64 p) ∧ w'.cell? ⟨w.heap.size, 1, none⟩ = some (.int .i64 q) ∧ w'.cell? ⟨w.heap.size + 1, 0, none⟩ = some (.int .i64 u) ∧ w'.cell? ⟨w.heap.size + 1, 1, none⟩ = some (.int .i64 v)) (first | with_reducible exact hq2 | with_reducible exact hq1 | exact hqs)
    ((go_at_call 28; have hX := HM.out W.drew; refine hX.mono ?_; clear hX; rintro e v1 ⟨rfl, hB1⟩; have hb1 := hb0.drew.trans (hB1.mono hb0.size); have hq1 := (And.intro ((hb1.cell (p := ⟨w.heap.size, 0, none⟩) l0).trans c0) (And.intro ((hb1.cell (p := ⟨w.heap.size, 1, none⟩) l0).trans c1) (And.intro ((hb1.cell (p := ⟨w.heap.size + 1, 0, none⟩) l1).trans c2) ((hb1.cell (p := ⟨w.heap.size + 1, 1, none⟩) l1).trans c3)))); have rr := Q2.out.below hb1 l2; have d4 := rr.cell 0; have d5 := rr.cell 1; have f4 := rr.frozen 0; have f5 := rr.frozen 1; simp only [List.getElem?_cons_zero, List.getElem?_cons_succ] at d4 d5; have hb2 := ((Below.refl (w.heap.size + 1 + 1) v1).setCell (p := ⟨w.heap.size + 1 + 1, 0, none⟩) (Nat.le_refl _) (.int .i64 X)).setCell (p := ⟨w.heap.size + 1 + 1, 1, none⟩) (Nat.le_refl _) (.int .i64 Y); have hq2 := (And.intro ((hb2.cell (p := ⟨w.heap.size, 0, none⟩) m0).trans hq1.1) (And.intro ((hb2.cell (p := ⟨w.heap.size, 1, none⟩) m0).trans hq1.2.1) (And.intro ((hb2.cell (p := ⟨w.heap.size + 1, 0, none⟩) m1).trans hq1.2.2.1) ((hb2.cell (p := ⟨w.heap.size + 1, 1, none⟩) m1).trans hq1.2.2.2))))))
  obtain ⟨V, hV⟩ : ∃ V, V = (v1.setCell ⟨w.heap.size + 1 + 1, 0, none⟩ (.int .i64 X)).setCell ⟨w.heap.size + 1 + 1, 1, none⟩ (.int .i64 Y) := ⟨_, rfl⟩
  have rV := (Q2.out.below hb1 l2)
  obtain ⟨rV, bV, _⟩ := pair_again (.int .i64 X) (.int .i64 Y) rV V hV
  rw [← hV]
  have g0 := rV.cell 0
  have g1 := rV.cell 1
  simp only [List.getElem?_cons_zero, List.getElem?_cons_succ] at g0 g1
  have bF := hid (bE.out.trans ((hb1.mono (by omega)).trans (bV w.heap.size (by omega))))
  clear hV rV bV hb1 hb2 hq1 hq2 hqs d4 d5 f4 f5 rr hB1 c0 c1 c2 c3
  go_wp2_with fail
  exact bodyPost_ret (v := .tuple #[.agg #[.int .i64 X, .int .i64 Y], .int .i64 C]) (by simp [results, Try.results29, go_sem, g0, g1]) rfl ⟨rfl, bF.out⟩
end Go.Proofs.Ytdlcbfoghpoliaa
