/- Portions that explain pairs: the small contracts. -/
import Derived.Test.YtihadhbgkjbkeaaDoorSimD
import Derived.Test.YtihadhbgkjbkeaaDoorPrs
namespace Go.Proofs.YtihadhbgkjbkeaaDoor
open Go.RowKit
set_option linter.unusedVariables false
theorem red0_bd {p q : Int} (hp : 0 ≤ p) (hq : 1 ≤ q) : 1 ≤ gcdI p q ∧ gcdI p q ≤ q ∧ 0 ≤ redP p q ∧ redP p q ≤ p ∧ 1 ≤ redQ p q ∧ redQ p q ≤ q := by
  by_cases h : p = 0
  · subst h
    have e : gcdI 0 q = q := by unfold gcdI; simp; omega
    have e1 : redP 0 q = 0 := by unfold redP; simp
    have e2 : redQ 0 q = 1 := by unfold redQ; rw [e]; exact Int.ediv_self (by omega)
    omega
  · have R := red_bd (show 1 ≤ p by omega) hq
    omega
set_option maxHeartbeats 1000000 in
theorem reduced0_any (p q : Int) (hp : 0 ≤ p) (hq : 1 ≤ q) (hp' : p ≤ 9223372036854775807) (hq' : q ≤ 9223372036854775807) (w : World) :
    Calls Tryd.prog 26 #[.int .i64 p, .int .i64 q] w (GivesB w (.agg #[.int .i64 (redP p q), .int .i64 (redQ p q)])) := by
  have HG := hid (fun w => gcd_any p q (by omega) (by omega) hp' hq' w)
  have R := red0_bd hp hq
  have e1 : p.tdiv (gcdI p q) = redP p q := Int.tdiv_eq_ediv_of_nonneg (by omega)
  have e2 : q.tdiv (gcdI p q) = redQ p q := Int.tdiv_eq_ediv_of_nonneg (by omega)
  obtain ⟨g, hg⟩ : ∃ g, g = gcdI p q := ⟨_, rfl⟩
  obtain ⟨x, hx⟩ : ∃ x, x = redP p q := ⟨_, rfl⟩
  obtain ⟨y, hy⟩ : ∃ x, x = redQ p q := ⟨_, rfl⟩
  rw [← hg, ← hx, ← hy] at R
  rw [← hg, ← hx] at e1
  rw [← hg, ← hy] at e2
  rw [← hg] at HG
  rw [← hx, ← hy]
  obtain ⟨g1, g3, x1, x2, y1, y2⟩ := R
  have g0 : (g == 0) = false := by simp; omega
  have w1 : IntKind.i64.wrap x = x := IntWalk.i64_in x (by omega)
  have w2 : IntKind.i64.wrap y = y := IntWalk.i64_in y (by omega)
  have rB := hid (Row.new w 56 [.int .i64 0, .int .i64 0])
  have bel : Below w.heap.size w (w.alloc (.cells #[.int .i64 0, .int .i64 0] 56)) := (Below.refl _ w).alloc (Nat.le_refl _) _
  clear hg hx hy hp hq
  go_enter Tryd.func26, Tryd.ntmps26
  go_wp2_with fail
  refine (HG.out _).mono ?_
  rintro e w' ⟨rfl, d, rfl⟩
  go_wp2_with fail
  go_region
  obtain ⟨W, hW⟩ : ∃ W, W = ((((w.alloc (.cells #[.int .i64 0, .int .i64 0] 56)).drewN (d + 1)).setCell ⟨w.heap.size, 0, none⟩ (.int .i64 x)).setCell ⟨w.heap.size, 1, none⟩ (.int .i64 y)) := ⟨_, rfl⟩
  obtain ⟨rw, bw, _⟩ := pair_stored w _ _ _ _ _ _ W hW
  rw [← hW]
  clear hW
  have c0 := rw.cell 0
  have c1 := rw.cell 1
  simp only [List.getElem?_cons_zero, List.getElem?_cons_succ] at c0 c1
  go_wp2_with fail
  exact bodyPost_ret (v := .agg #[.int .i64 x, .int .i64 y]) (by simp [results, Tryd.results26, go_sem, c0, c1]) rfl ⟨rfl, bw⟩


theorem l06Gcd_any : ∀ (n : Nat) (a b : Int) (w : World), 0 ≤ a → 0 ≤ b → b ≤ n → a ≤ 9223372036854775807 → b ≤ 9223372036854775807 → Calls Tryd.prog 23 #[.int .i64 a, .int .i64 b] w fun e w' => e = .returned (.int .i64 (gcdI a b)) ∧ w = w'
  | n, a, b, w, ha, hb, hn, ha', hb' => by
    by_cases h0 : b = 0
    · subst h0
      have e := gcdI_zero a ha
      have HE := hid e
      clear e
      go_enter Tryd.func23, Tryd.ntmps23
      go_wp2_with fail
      go_ret
      exact ⟨by rw [HE.out]; rfl, rfl⟩
    · obtain ⟨r, e1, r0, r1, r2, hg2⟩ := gcd_step a b ha (by omega)
      obtain ⟨m, rfl⟩ : ∃ m, n = m + 1 := ⟨n - 1, by omega⟩
      have HI := hid (l06Gcd_any m b r w hb r0 (by omega) hb' (by omega))
      rw [hg2] at HI
      have d1 : (b == 0) = false := by simp [h0]
      clear hg2
      go_enter Tryd.func23, Tryd.ntmps23
      go_wp2_with fail
      refine HI.out.mono ?_
      rintro e w' ⟨rfl, rfl⟩
      go_wp2_with fail
      go_ret
      exact ⟨rfl, rfl⟩
set_option maxHeartbeats 1000000 in
theorem l06Plain_any (p q : Int) (hp : 0 ≤ p) (hq : 1 ≤ q) (hp' : p ≤ 1000000000) (hq' : q ≤ 1000000000) (w : World) :
    Calls Tryd.prog 14 #[.int .i64 p, .int .i64 q] w (GivesB w (.agg #[.int .i64 (redP p q), .int .i64 (redQ p q)])) := by
  have HG := hid (fun w => l06Gcd_any q.toNat p q w hp (by omega) (by omega) (by omega) (by omega))
  have R := red0_bd hp hq
  have e1 : p.tdiv (gcdI p q) = redP p q := Int.tdiv_eq_ediv_of_nonneg (by omega)
  have e2 : q.tdiv (gcdI p q) = redQ p q := Int.tdiv_eq_ediv_of_nonneg (by omega)
  obtain ⟨g, hg⟩ : ∃ g, g = gcdI p q := ⟨_, rfl⟩
  obtain ⟨x, hx⟩ : ∃ x, x = redP p q := ⟨_, rfl⟩
  obtain ⟨y, hy⟩ : ∃ x, x = redQ p q := ⟨_, rfl⟩
  rw [← hg, ← hx, ← hy] at R
  rw [← hg, ← hx] at e1
  rw [← hg, ← hy] at e2
  rw [← hg] at HG
  rw [← hx, ← hy]
  obtain ⟨g1, g3, x1, x2, y1, y2⟩ := R
  have g0 : (g == 0) = false := by simp; omega
  have w1 : IntKind.i64.wrap x = x := IntWalk.i64_in x (by omega)
  have w2 : IntKind.i64.wrap y = y := IntWalk.i64_in y (by omega)
  have bel : Below w.heap.size w (w.alloc (.cells #[.int .i64 0, .int .i64 0] 28)) := (Below.refl _ w).alloc (Nat.le_refl _) _
  clear hg hx hy hp hq
  go_enter Tryd.func14, Tryd.ntmps14
  go_wp2_with fail
  refine (HG.out _).mono ?_
  rintro e w' ⟨rfl, rfl⟩
  go_wp2_with fail
  go_region
  go_wp2_with fail
  exact bodyPost_ret (v := .agg #[.int .i64 x, .int .i64 y]) (by simp [results, Tryd.results14, go_sem]) rfl ⟨rfl, ((Below.refl _ w).alloc (Nat.le_refl _) _).drew⟩
set_option maxHeartbeats 1000000 in
theorem explaining_any (x y : Int) (h1 : 1 ≤ x) (h2 : x ≤ 100000) (h3 : 0 ≤ y) (h4 : y ≤ 100000) (w : World) :
    Calls Tryd.prog 20 #[.agg #[.int .i64 x, .int .i64 y]] w (GivesB w (.agg #[.int .i64 (redP y x), .int .i64 (redQ y x), .int .i64 (redP (y + 1) x), .int .i64 (redQ (y + 1) x)])) := by
  have H1 := hid (fun w => reduced0_any y x h3 h1 (by omega) (by omega) w)
  have H2 := hid (fun w => reduced0_any (y + 1) x (by omega) h1 (by omega) (by omega) w)
  have w1 : IntKind.i64.wrap (y + 1) = y + 1 := IntWalk.i64_in _ (by omega)
  have bel : Below w.heap.size w ((w.alloc (.cells #[.int .i64 x, .int .i64 y] 26)).alloc (.cells #[.int .i64 0, .int .i64 0, .int .i64 0, .int .i64 0] 35)) := ((Below.refl _ w).alloc (Nat.le_refl _) _).alloc (by simp) _
  have HB := hid bel
  have rR := (Row.new (w.alloc (.cells #[.int .i64 x, .int .i64 y] 26)) 35 [.int .i64 0, .int .i64 0, .int .i64 0, .int .i64 0])
  simp only [World.size_alloc] at rR
  have HR : Hid (Row ((w.alloc (.cells #[.int .i64 x, .int .i64 y] 26)).alloc (.cells #[.int .i64 0, .int .i64 0, .int .i64 0, .int .i64 0] 35)).drew (w.heap.size + 1) 35 [.int .i64 0, .int .i64 0, .int .i64 0, .int .i64 0]) := hid rR
  clear rR
  obtain ⟨a, ha⟩ : ∃ a, redP y x = a := ⟨_, rfl⟩
  obtain ⟨b, hb⟩ : ∃ a, redQ y x = a := ⟨_, rfl⟩
  obtain ⟨c, hc⟩ : ∃ a, redP (y + 1) x = a := ⟨_, rfl⟩
  obtain ⟨d, hd⟩ : ∃ a, redQ (y + 1) x = a := ⟨_, rfl⟩
  rw [ha, hb] at H1
  rw [hc, hd] at H2
  rw [ha, hb, hc, hd]
  clear ha hb hc hd h1 h2 h3 h4 bel
  go_enter Tryd.func20, Tryd.ntmps20
  go_wp2_with fail
  go_region
  go_wp2_with fail
  refine (H1.out _).mono ?_
  rintro e w2 ⟨rfl, hB2⟩
  have b2 := hid (HB.out.drew.trans (hB2.mono (by simp; omega)))
  have r2 := hid (HR.out.below hB2 (by simp))
  clear hB2
  go_wp2_with fail
  refine (H2.out _).mono ?_
  rintro e w3 ⟨rfl, hB3⟩
  have b3 := hid (b2.out.trans (hB3.mono b2.out.size))
  have r3 := r2.out.below hB3 r2.out.lt
  have z3 := b3.out.size
  have c0 := r3.cell 0
  have c1 := r3.cell 1
  have c2 := r3.cell 2
  have c3 := r3.cell 3
  have f0 := r3.frozen 0
  have f1 := r3.frozen 1
  have f2 := r3.frozen 2
  have f3 := r3.frozen 3
  simp only [List.getElem?_cons_zero, List.getElem?_cons_succ] at c0 c1 c2 c3
  have R4 := hid ((((r3.set 0 (.int .i64 a)).set 1 (.int .i64 b)).set 2 (.int .i64 c)).set 3 (.int .i64 d))
  have B4 := hid ((((b3.out.setCell (p := ⟨w.heap.size + 1, 0, none⟩) (by show w.heap.size ≤ w.heap.size + 1; omega) (.int .i64 a)).setCell (p := ⟨w.heap.size + 1, 1, none⟩) (by show w.heap.size ≤ w.heap.size + 1; omega) (.int .i64 b)).setCell (p := ⟨w.heap.size + 1, 2, none⟩) (by show w.heap.size ≤ w.heap.size + 1; omega) (.int .i64 c)).setCell (p := ⟨w.heap.size + 1, 3, none⟩) (by show w.heap.size ≤ w.heap.size + 1; omega) (.int .i64 d))
  clear hB3 r3
  go_wp2_with fail
  have R5 := R4.out
  have k0 := R5.cell 0
  have k1 := R5.cell 1
  have k2 := R5.cell 2
  have k3 := R5.cell 3
  simp only [List.set_cons_zero, List.set_cons_succ, List.getElem?_cons_zero, List.getElem?_cons_succ] at k0 k1 k2 k3
  exact bodyPost_ret (v := .agg #[.int .i64 a, .int .i64 b, .int .i64 c, .int .i64 d]) (by simp [results, Tryd.results20, go_sem, k0, k1, k2, k3]) rfl ⟨rfl, B4.out⟩
/-- two bounds met -/
def mtL (a b c d : Int) : Int × Int := if c * b > a * d then (c, d) else (a, b)
def mtH (a b c d : Int) : Int × Int := if c * b < a * d then (c, d) else (a, b)
theorem cmp3_pos {X Y : Int} : (0 < cmp3 X Y) = (Y < X) := by unfold cmp3; split <;> (try split) <;> simp <;> omega
theorem cmp3_neg {X Y : Int} : (cmp3 X Y < 0) = (X < Y) := by unfold cmp3; split <;> (try split) <;> simp <;> omega
set_option maxHeartbeats 4000000 in
theorem meet_any (a b c d a' b' c' d' : Int) (h1 : 0 ≤ a' * b) (h2 : a' * b ≤ 9000000000000000000) (h3 : 0 ≤ a * b') (h4 : a * b' ≤ 9000000000000000000) (h5 : 0 ≤ c' * d) (h6 : c' * d ≤ 9000000000000000000) (h7 : 0 ≤ c * d') (h8 : c * d' ≤ 9000000000000000000) (w : World) :
    Calls Tryd.prog 21 #[.agg #[.int .i64 a, .int .i64 b, .int .i64 c, .int .i64 d], .agg #[.int .i64 a', .int .i64 b', .int .i64 c', .int .i64 d'], .func (.func 18) #[] #[]] w (GivesB w (.agg #[.int .i64 (mtL a b a' b').1, .int .i64 (mtL a b a' b').2, .int .i64 (mtH c d c' d').1, .int .i64 (mtH c d c' d').2])) := by
  have H1 := hid (fun w => compareP_any a' b' a b h1 h2 h3 h4 w)
  have H2 := hid (fun w => compareP_any c' d' c d h5 h6 h7 h8 w)
  obtain ⟨W, hW⟩ : ∃ W, W = ((w.alloc (.cells #[.int .i64 a, .int .i64 b, .int .i64 c, .int .i64 d] 35)).alloc (.cells #[.int .i64 a', .int .i64 b', .int .i64 c', .int .i64 d'] 35)).alloc (.cells #[.int .i64 0, .int .i64 0, .int .i64 0, .int .i64 0] 35) := ⟨_, rfl⟩
  have RA : Hid (Row W w.heap.size 35 [.int .i64 a, .int .i64 b, .int .i64 c, .int .i64 d]) := hid (by rw [hW]; exact ((Row.new w 35 [.int .i64 a, .int .i64 b, .int .i64 c, .int .i64 d]).alloc _).alloc _)
  have RB : Hid (Row W (w.heap.size + 1) 35 [.int .i64 a', .int .i64 b', .int .i64 c', .int .i64 d']) := hid (by
    have h := (Row.new (w.alloc (.cells #[.int .i64 a, .int .i64 b, .int .i64 c, .int .i64 d] 35)) 35 [.int .i64 a', .int .i64 b', .int .i64 c', .int .i64 d']).alloc (.cells #[.int .i64 0, .int .i64 0, .int .i64 0, .int .i64 0] 35)
    simp only [World.size_alloc] at h
    rw [hW]; exact h)
  have RC : Hid (Row W (w.heap.size + 1 + 1) 35 [.int .i64 0, .int .i64 0, .int .i64 0, .int .i64 0]) := hid (by
    have h := Row.new ((w.alloc (.cells #[.int .i64 a, .int .i64 b, .int .i64 c, .int .i64 d] 35)).alloc (.cells #[.int .i64 a', .int .i64 b', .int .i64 c', .int .i64 d'] 35)) 35 [.int .i64 0, .int .i64 0, .int .i64 0, .int .i64 0]
    simp only [World.size_alloc] at h
    rw [hW]; exact h)
  have HB : Hid (Below w.heap.size w W) := hid (by rw [hW]; exact (((Below.refl _ w).alloc (Nat.le_refl _) _).alloc (by simp) _).alloc (by simp; omega) _)
  have HW := hid hW
  clear hW
  by_cases hL : a' * b > a * b'
  · by_cases hH : c' * d < c * d'
    · have e1 : mtL a b a' b' = (a', b') := if_pos hL
      have e2 : mtH c d c' d' = (c', d') := if_pos hH
      rw [e1, e2]
      obtain ⟨v1, hv1⟩ : ∃ v, cmp3 (a' * b) (a * b') = v := ⟨_, rfl⟩
      obtain ⟨v2, hv2⟩ : ∃ v, cmp3 (c' * d) (c * d') = v := ⟨_, rfl⟩
      have p1 : 0 < v1 := by rw [← hv1]; unfold cmp3; split <;> (try split) <;> omega
      have p2 : v2 < 0 := by rw [← hv2]; unfold cmp3; split <;> (try split) <;> omega
      rw [hv1] at H1
      rw [hv2] at H2
      clear hv1 hv2 e1 e2 hL hH h1 h2 h3 h4 h5 h6 h7 h8
      go_enter Tryd.func21, Tryd.ntmps21
      go_wp2_with fail
      rw [← HW.out]
      refine (H1.out _).mono ?_
      rintro e w1 ⟨rfl, hB1⟩
      have r1 := RA.out.below hB1 RA.out.lt
      have r2 := RB.out.below hB1 RB.out.lt
      have r3 := RC.out.below hB1 RC.out.lt
      have b1 := HB.out.trans (hB1.mono HB.out.size)
      have x0 := r1.cell 0
      have x1 := r1.cell 1
      have x2 := r1.cell 2
      have x3 := r1.cell 3
      simp only [List.set_cons_zero, List.set_cons_succ, List.getElem?_cons_zero, List.getElem?_cons_succ] at x0 x1 x2 x3
      have y0 := r2.cell 0
      have y1 := r2.cell 1
      have y2 := r2.cell 2
      have y3 := r2.cell 3
      simp only [List.set_cons_zero, List.set_cons_succ, List.getElem?_cons_zero, List.getElem?_cons_succ] at y0 y1 y2 y3
      have f0 := r1.frozen 0
      have f1 := r1.frozen 1
      have f2 := r1.frozen 2
      have f3 := r1.frozen 3
      have R1 := hid ((r1.set 0 (.int .i64 a')).set 1 (.int .i64 b'))
      have R2 := hid ((r2.other (a := ⟨w.heap.size, 0, none⟩) (by show w.heap.size ≠ w.heap.size + 1; omega) (.int .i64 a')).other (a := ⟨w.heap.size, 1, none⟩) (by show w.heap.size ≠ w.heap.size + 1; omega) (.int .i64 b'))
      have R3 := hid ((r3.other (a := ⟨w.heap.size, 0, none⟩) (by show w.heap.size ≠ w.heap.size + 1 + 1; omega) (.int .i64 a')).other (a := ⟨w.heap.size, 1, none⟩) (by show w.heap.size ≠ w.heap.size + 1 + 1; omega) (.int .i64 b'))
      have B1 := hid ((b1.setCell (p := ⟨w.heap.size, 0, none⟩) (Nat.le_refl _) (.int .i64 a')).setCell (p := ⟨w.heap.size, 1, none⟩) (Nat.le_refl _) (.int .i64 b'))
      clear hB1 r1 r2 r3 b1
      go_wp2_with fail
      refine (H2.out _).mono ?_
      rintro e w2 ⟨rfl, hB2⟩
      have s1 := R1.out.below hB2 R1.out.lt
      have s2 := R2.out.below hB2 R2.out.lt
      have s3 := R3.out.below hB2 R3.out.lt
      have b2 := B1.out.trans (hB2.mono B1.out.size)
      clear x0 x1 x2 x3 y0 y1 y2 y3 f0 f1 f2 f3 hB2
      have x0 := s1.cell 0
      have x1 := s1.cell 1
      have x2 := s1.cell 2
      have x3 := s1.cell 3
      simp only [List.set_cons_zero, List.set_cons_succ, List.getElem?_cons_zero, List.getElem?_cons_succ] at x0 x1 x2 x3
      have y0 := s2.cell 0
      have y1 := s2.cell 1
      have y2 := s2.cell 2
      have y3 := s2.cell 3
      simp only [List.set_cons_zero, List.set_cons_succ, List.getElem?_cons_zero, List.getElem?_cons_succ] at y0 y1 y2 y3
      have z0 := s3.cell 0
      have z1 := s3.cell 1
      have z2 := s3.cell 2
      have z3 := s3.cell 3
      simp only [List.set_cons_zero, List.set_cons_succ, List.getElem?_cons_zero, List.getElem?_cons_succ] at z0 z1 z2 z3
      have f0 := s1.frozen 0
      have f1 := s1.frozen 1
      have f2 := s1.frozen 2
      have f3 := s1.frozen 3
      have g0 := s3.frozen 0
      have g1 := s3.frozen 1
      have g2 := s3.frozen 2
      have g3 := s3.frozen 3
      have R5 := hid (((((((s3.other (a := ⟨w.heap.size, 2, none⟩) (by show w.heap.size ≠ w.heap.size + 1 + 1; omega) (.int .i64 c')).other (a := ⟨w.heap.size, 3, none⟩) (by show w.heap.size ≠ w.heap.size + 1 + 1; omega) (.int .i64 d')).set 0 (.int .i64 a')).set 1 (.int .i64 b')).set 2 (.int .i64 c')).set 3 (.int .i64 d')))
      have B5 := hid (((((((b2.setCell (p := ⟨w.heap.size, 2, none⟩) (Nat.le_refl _) (.int .i64 c')).setCell (p := ⟨w.heap.size, 3, none⟩) (Nat.le_refl _) (.int .i64 d')).setCell (p := ⟨w.heap.size + 1 + 1, 0, none⟩) (by show w.heap.size ≤ w.heap.size + 1 + 1; omega) (.int .i64 a')).setCell (p := ⟨w.heap.size + 1 + 1, 1, none⟩) (by show w.heap.size ≤ w.heap.size + 1 + 1; omega) (.int .i64 b')).setCell (p := ⟨w.heap.size + 1 + 1, 2, none⟩) (by show w.heap.size ≤ w.heap.size + 1 + 1; omega) (.int .i64 c')).setCell (p := ⟨w.heap.size + 1 + 1, 3, none⟩) (by show w.heap.size ≤ w.heap.size + 1 + 1; omega) (.int .i64 d')))
      clear s1 s2 s3 b2
      go_wp2_with fail
      have r5 := R5.out
      have k0 := r5.cell 0
      have k1 := r5.cell 1
      have k2 := r5.cell 2
      have k3 := r5.cell 3
      simp only [List.set_cons_zero, List.set_cons_succ, List.getElem?_cons_zero, List.getElem?_cons_succ] at k0 k1 k2 k3
      exact bodyPost_ret (v := .agg #[.int .i64 a', .int .i64 b', .int .i64 c', .int .i64 d']) (by simp [results, Tryd.results21, go_sem, k0, k1, k2, k3]) rfl ⟨rfl, B5.out⟩
    · have e1 : mtL a b a' b' = (a', b') := if_pos hL
      have e2 : mtH c d c' d' = (c, d) := if_neg hH
      rw [e1, e2]
      obtain ⟨v1, hv1⟩ : ∃ v, cmp3 (a' * b) (a * b') = v := ⟨_, rfl⟩
      obtain ⟨v2, hv2⟩ : ∃ v, cmp3 (c' * d) (c * d') = v := ⟨_, rfl⟩
      have p1 : 0 < v1 := by rw [← hv1]; unfold cmp3; split <;> (try split) <;> omega
      have p2 : 0 ≤ v2 := by rw [← hv2]; unfold cmp3; split <;> (try split) <;> omega
      rw [hv1] at H1
      rw [hv2] at H2
      clear hv1 hv2 e1 e2 hL hH h1 h2 h3 h4 h5 h6 h7 h8
      go_enter Tryd.func21, Tryd.ntmps21
      go_wp2_with fail
      rw [← HW.out]
      refine (H1.out _).mono ?_
      rintro e w1 ⟨rfl, hB1⟩
      have r1 := RA.out.below hB1 RA.out.lt
      have r2 := RB.out.below hB1 RB.out.lt
      have r3 := RC.out.below hB1 RC.out.lt
      have b1 := HB.out.trans (hB1.mono HB.out.size)
      have x0 := r1.cell 0
      have x1 := r1.cell 1
      have x2 := r1.cell 2
      have x3 := r1.cell 3
      simp only [List.set_cons_zero, List.set_cons_succ, List.getElem?_cons_zero, List.getElem?_cons_succ] at x0 x1 x2 x3
      have y0 := r2.cell 0
      have y1 := r2.cell 1
      have y2 := r2.cell 2
      have y3 := r2.cell 3
      simp only [List.set_cons_zero, List.set_cons_succ, List.getElem?_cons_zero, List.getElem?_cons_succ] at y0 y1 y2 y3
      have f0 := r1.frozen 0
      have f1 := r1.frozen 1
      have f2 := r1.frozen 2
      have f3 := r1.frozen 3
      have R1 := hid ((r1.set 0 (.int .i64 a')).set 1 (.int .i64 b'))
      have R2 := hid ((r2.other (a := ⟨w.heap.size, 0, none⟩) (by show w.heap.size ≠ w.heap.size + 1; omega) (.int .i64 a')).other (a := ⟨w.heap.size, 1, none⟩) (by show w.heap.size ≠ w.heap.size + 1; omega) (.int .i64 b'))
      have R3 := hid ((r3.other (a := ⟨w.heap.size, 0, none⟩) (by show w.heap.size ≠ w.heap.size + 1 + 1; omega) (.int .i64 a')).other (a := ⟨w.heap.size, 1, none⟩) (by show w.heap.size ≠ w.heap.size + 1 + 1; omega) (.int .i64 b'))
      have B1 := hid ((b1.setCell (p := ⟨w.heap.size, 0, none⟩) (Nat.le_refl _) (.int .i64 a')).setCell (p := ⟨w.heap.size, 1, none⟩) (Nat.le_refl _) (.int .i64 b'))
      clear hB1 r1 r2 r3 b1
      go_wp2_with fail
      refine (H2.out _).mono ?_
      rintro e w2 ⟨rfl, hB2⟩
      have s1 := R1.out.below hB2 R1.out.lt
      have s2 := R2.out.below hB2 R2.out.lt
      have s3 := R3.out.below hB2 R3.out.lt
      have b2 := B1.out.trans (hB2.mono B1.out.size)
      clear x0 x1 x2 x3 y0 y1 y2 y3 f0 f1 f2 f3 hB2
      have x0 := s1.cell 0
      have x1 := s1.cell 1
      have x2 := s1.cell 2
      have x3 := s1.cell 3
      simp only [List.set_cons_zero, List.set_cons_succ, List.getElem?_cons_zero, List.getElem?_cons_succ] at x0 x1 x2 x3
      have y0 := s2.cell 0
      have y1 := s2.cell 1
      have y2 := s2.cell 2
      have y3 := s2.cell 3
      simp only [List.set_cons_zero, List.set_cons_succ, List.getElem?_cons_zero, List.getElem?_cons_succ] at y0 y1 y2 y3
      have z0 := s3.cell 0
      have z1 := s3.cell 1
      have z2 := s3.cell 2
      have z3 := s3.cell 3
      simp only [List.set_cons_zero, List.set_cons_succ, List.getElem?_cons_zero, List.getElem?_cons_succ] at z0 z1 z2 z3
      have f0 := s1.frozen 0
      have f1 := s1.frozen 1
      have f2 := s1.frozen 2
      have f3 := s1.frozen 3
      have g0 := s3.frozen 0
      have g1 := s3.frozen 1
      have g2 := s3.frozen 2
      have g3 := s3.frozen 3
      have R5 := hid (((((s3.set 0 (.int .i64 a')).set 1 (.int .i64 b')).set 2 (.int .i64 c)).set 3 (.int .i64 d)))
      have B5 := hid (((((b2.setCell (p := ⟨w.heap.size + 1 + 1, 0, none⟩) (by show w.heap.size ≤ w.heap.size + 1 + 1; omega) (.int .i64 a')).setCell (p := ⟨w.heap.size + 1 + 1, 1, none⟩) (by show w.heap.size ≤ w.heap.size + 1 + 1; omega) (.int .i64 b')).setCell (p := ⟨w.heap.size + 1 + 1, 2, none⟩) (by show w.heap.size ≤ w.heap.size + 1 + 1; omega) (.int .i64 c)).setCell (p := ⟨w.heap.size + 1 + 1, 3, none⟩) (by show w.heap.size ≤ w.heap.size + 1 + 1; omega) (.int .i64 d)))
      clear s1 s2 s3 b2
      go_wp2_with fail
      have r5 := R5.out
      have k0 := r5.cell 0
      have k1 := r5.cell 1
      have k2 := r5.cell 2
      have k3 := r5.cell 3
      simp only [List.set_cons_zero, List.set_cons_succ, List.getElem?_cons_zero, List.getElem?_cons_succ] at k0 k1 k2 k3
      exact bodyPost_ret (v := .agg #[.int .i64 a', .int .i64 b', .int .i64 c, .int .i64 d]) (by simp [results, Tryd.results21, go_sem, k0, k1, k2, k3]) rfl ⟨rfl, B5.out⟩
  · by_cases hH : c' * d < c * d'
    · have e1 : mtL a b a' b' = (a, b) := if_neg hL
      have e2 : mtH c d c' d' = (c', d') := if_pos hH
      rw [e1, e2]
      obtain ⟨v1, hv1⟩ : ∃ v, cmp3 (a' * b) (a * b') = v := ⟨_, rfl⟩
      obtain ⟨v2, hv2⟩ : ∃ v, cmp3 (c' * d) (c * d') = v := ⟨_, rfl⟩
      have p1 : v1 ≤ 0 := by rw [← hv1]; unfold cmp3; split <;> (try split) <;> omega
      have p2 : v2 < 0 := by rw [← hv2]; unfold cmp3; split <;> (try split) <;> omega
      rw [hv1] at H1
      rw [hv2] at H2
      clear hv1 hv2 e1 e2 hL hH h1 h2 h3 h4 h5 h6 h7 h8
      go_enter Tryd.func21, Tryd.ntmps21
      go_wp2_with fail
      rw [← HW.out]
      refine (H1.out _).mono ?_
      rintro e w1 ⟨rfl, hB1⟩
      have r1 := RA.out.below hB1 RA.out.lt
      have r2 := RB.out.below hB1 RB.out.lt
      have r3 := RC.out.below hB1 RC.out.lt
      have b1 := HB.out.trans (hB1.mono HB.out.size)
      have x0 := r1.cell 0
      have x1 := r1.cell 1
      have x2 := r1.cell 2
      have x3 := r1.cell 3
      simp only [List.set_cons_zero, List.set_cons_succ, List.getElem?_cons_zero, List.getElem?_cons_succ] at x0 x1 x2 x3
      have y0 := r2.cell 0
      have y1 := r2.cell 1
      have y2 := r2.cell 2
      have y3 := r2.cell 3
      simp only [List.set_cons_zero, List.set_cons_succ, List.getElem?_cons_zero, List.getElem?_cons_succ] at y0 y1 y2 y3
      have f0 := r1.frozen 0
      have f1 := r1.frozen 1
      have f2 := r1.frozen 2
      have f3 := r1.frozen 3
      have R1 := hid r1
      have R2 := hid r2
      have R3 := hid r3
      have B1 := hid b1
      clear hB1 r1 r2 r3 b1
      go_wp2_with fail
      refine (H2.out _).mono ?_
      rintro e w2 ⟨rfl, hB2⟩
      have s1 := R1.out.below hB2 R1.out.lt
      have s2 := R2.out.below hB2 R2.out.lt
      have s3 := R3.out.below hB2 R3.out.lt
      have b2 := B1.out.trans (hB2.mono B1.out.size)
      clear x0 x1 x2 x3 y0 y1 y2 y3 f0 f1 f2 f3 hB2
      have x0 := s1.cell 0
      have x1 := s1.cell 1
      have x2 := s1.cell 2
      have x3 := s1.cell 3
      simp only [List.set_cons_zero, List.set_cons_succ, List.getElem?_cons_zero, List.getElem?_cons_succ] at x0 x1 x2 x3
      have y0 := s2.cell 0
      have y1 := s2.cell 1
      have y2 := s2.cell 2
      have y3 := s2.cell 3
      simp only [List.set_cons_zero, List.set_cons_succ, List.getElem?_cons_zero, List.getElem?_cons_succ] at y0 y1 y2 y3
      have z0 := s3.cell 0
      have z1 := s3.cell 1
      have z2 := s3.cell 2
      have z3 := s3.cell 3
      simp only [List.set_cons_zero, List.set_cons_succ, List.getElem?_cons_zero, List.getElem?_cons_succ] at z0 z1 z2 z3
      have f0 := s1.frozen 0
      have f1 := s1.frozen 1
      have f2 := s1.frozen 2
      have f3 := s1.frozen 3
      have g0 := s3.frozen 0
      have g1 := s3.frozen 1
      have g2 := s3.frozen 2
      have g3 := s3.frozen 3
      have R5 := hid (((((((s3.other (a := ⟨w.heap.size, 2, none⟩) (by show w.heap.size ≠ w.heap.size + 1 + 1; omega) (.int .i64 c')).other (a := ⟨w.heap.size, 3, none⟩) (by show w.heap.size ≠ w.heap.size + 1 + 1; omega) (.int .i64 d')).set 0 (.int .i64 a)).set 1 (.int .i64 b)).set 2 (.int .i64 c')).set 3 (.int .i64 d')))
      have B5 := hid (((((((b2.setCell (p := ⟨w.heap.size, 2, none⟩) (Nat.le_refl _) (.int .i64 c')).setCell (p := ⟨w.heap.size, 3, none⟩) (Nat.le_refl _) (.int .i64 d')).setCell (p := ⟨w.heap.size + 1 + 1, 0, none⟩) (by show w.heap.size ≤ w.heap.size + 1 + 1; omega) (.int .i64 a)).setCell (p := ⟨w.heap.size + 1 + 1, 1, none⟩) (by show w.heap.size ≤ w.heap.size + 1 + 1; omega) (.int .i64 b)).setCell (p := ⟨w.heap.size + 1 + 1, 2, none⟩) (by show w.heap.size ≤ w.heap.size + 1 + 1; omega) (.int .i64 c')).setCell (p := ⟨w.heap.size + 1 + 1, 3, none⟩) (by show w.heap.size ≤ w.heap.size + 1 + 1; omega) (.int .i64 d')))
      clear s1 s2 s3 b2
      go_wp2_with fail
      have r5 := R5.out
      have k0 := r5.cell 0
      have k1 := r5.cell 1
      have k2 := r5.cell 2
      have k3 := r5.cell 3
      simp only [List.set_cons_zero, List.set_cons_succ, List.getElem?_cons_zero, List.getElem?_cons_succ] at k0 k1 k2 k3
      exact bodyPost_ret (v := .agg #[.int .i64 a, .int .i64 b, .int .i64 c', .int .i64 d']) (by simp [results, Tryd.results21, go_sem, k0, k1, k2, k3]) rfl ⟨rfl, B5.out⟩
    · have e1 : mtL a b a' b' = (a, b) := if_neg hL
      have e2 : mtH c d c' d' = (c, d) := if_neg hH
      rw [e1, e2]
      obtain ⟨v1, hv1⟩ : ∃ v, cmp3 (a' * b) (a * b') = v := ⟨_, rfl⟩
      obtain ⟨v2, hv2⟩ : ∃ v, cmp3 (c' * d) (c * d') = v := ⟨_, rfl⟩
      have p1 : v1 ≤ 0 := by rw [← hv1]; unfold cmp3; split <;> (try split) <;> omega
      have p2 : 0 ≤ v2 := by rw [← hv2]; unfold cmp3; split <;> (try split) <;> omega
      rw [hv1] at H1
      rw [hv2] at H2
      clear hv1 hv2 e1 e2 hL hH h1 h2 h3 h4 h5 h6 h7 h8
      go_enter Tryd.func21, Tryd.ntmps21
      go_wp2_with fail
      rw [← HW.out]
      refine (H1.out _).mono ?_
      rintro e w1 ⟨rfl, hB1⟩
      have r1 := RA.out.below hB1 RA.out.lt
      have r2 := RB.out.below hB1 RB.out.lt
      have r3 := RC.out.below hB1 RC.out.lt
      have b1 := HB.out.trans (hB1.mono HB.out.size)
      have x0 := r1.cell 0
      have x1 := r1.cell 1
      have x2 := r1.cell 2
      have x3 := r1.cell 3
      simp only [List.set_cons_zero, List.set_cons_succ, List.getElem?_cons_zero, List.getElem?_cons_succ] at x0 x1 x2 x3
      have y0 := r2.cell 0
      have y1 := r2.cell 1
      have y2 := r2.cell 2
      have y3 := r2.cell 3
      simp only [List.set_cons_zero, List.set_cons_succ, List.getElem?_cons_zero, List.getElem?_cons_succ] at y0 y1 y2 y3
      have f0 := r1.frozen 0
      have f1 := r1.frozen 1
      have f2 := r1.frozen 2
      have f3 := r1.frozen 3
      have R1 := hid r1
      have R2 := hid r2
      have R3 := hid r3
      have B1 := hid b1
      clear hB1 r1 r2 r3 b1
      go_wp2_with fail
      refine (H2.out _).mono ?_
      rintro e w2 ⟨rfl, hB2⟩
      have s1 := R1.out.below hB2 R1.out.lt
      have s2 := R2.out.below hB2 R2.out.lt
      have s3 := R3.out.below hB2 R3.out.lt
      have b2 := B1.out.trans (hB2.mono B1.out.size)
      clear x0 x1 x2 x3 y0 y1 y2 y3 f0 f1 f2 f3 hB2
      have x0 := s1.cell 0
      have x1 := s1.cell 1
      have x2 := s1.cell 2
      have x3 := s1.cell 3
      simp only [List.set_cons_zero, List.set_cons_succ, List.getElem?_cons_zero, List.getElem?_cons_succ] at x0 x1 x2 x3
      have y0 := s2.cell 0
      have y1 := s2.cell 1
      have y2 := s2.cell 2
      have y3 := s2.cell 3
      simp only [List.set_cons_zero, List.set_cons_succ, List.getElem?_cons_zero, List.getElem?_cons_succ] at y0 y1 y2 y3
      have z0 := s3.cell 0
      have z1 := s3.cell 1
      have z2 := s3.cell 2
      have z3 := s3.cell 3
      simp only [List.set_cons_zero, List.set_cons_succ, List.getElem?_cons_zero, List.getElem?_cons_succ] at z0 z1 z2 z3
      have f0 := s1.frozen 0
      have f1 := s1.frozen 1
      have f2 := s1.frozen 2
      have f3 := s1.frozen 3
      have g0 := s3.frozen 0
      have g1 := s3.frozen 1
      have g2 := s3.frozen 2
      have g3 := s3.frozen 3
      have R5 := hid (((((s3.set 0 (.int .i64 a)).set 1 (.int .i64 b)).set 2 (.int .i64 c)).set 3 (.int .i64 d)))
      have B5 := hid (((((b2.setCell (p := ⟨w.heap.size + 1 + 1, 0, none⟩) (by show w.heap.size ≤ w.heap.size + 1 + 1; omega) (.int .i64 a)).setCell (p := ⟨w.heap.size + 1 + 1, 1, none⟩) (by show w.heap.size ≤ w.heap.size + 1 + 1; omega) (.int .i64 b)).setCell (p := ⟨w.heap.size + 1 + 1, 2, none⟩) (by show w.heap.size ≤ w.heap.size + 1 + 1; omega) (.int .i64 c)).setCell (p := ⟨w.heap.size + 1 + 1, 3, none⟩) (by show w.heap.size ≤ w.heap.size + 1 + 1; omega) (.int .i64 d)))
      clear s1 s2 s3 b2
      go_wp2_with fail
      have r5 := R5.out
      have k0 := r5.cell 0
      have k1 := r5.cell 1
      have k2 := r5.cell 2
      have k3 := r5.cell 3
      simp only [List.set_cons_zero, List.set_cons_succ, List.getElem?_cons_zero, List.getElem?_cons_succ] at k0 k1 k2 k3
      exact bodyPost_ret (v := .agg #[.int .i64 a, .int .i64 b, .int .i64 c, .int .i64 d]) (by simp [results, Tryd.results21, go_sem, k0, k1, k2, k3]) rfl ⟨rfl, B5.out⟩
end Go.Proofs.YtihadhbgkjbkeaaDoor
