/- Flows that show a value: the program's pieces. -/
import Derived.Test.YtoenpfjnjpgbfaaMetS
import Derived.Test.YtoenpfjnjpgbfaaFloor
import Derived.Test.YtoenpfjnjpgbfaaCmp
namespace Go.Proofs.Ytoenpfjnjpgbfaa
open Go.RowKit
set_option linter.unusedVariables false
/-- rounded up -/
def ceilI (a b : Int) : Int := -((-a) / b)
theorem ceilI_eq (a b : Int) (hb : 1 ≤ b) : ceilI a b = (a + b - 1) / b := by
  unfold ceilI
  have e := Int.mul_ediv_add_emod (-a) b
  have m0 := Int.emod_nonneg (-a) (show b ≠ 0 by omega)
  have m1 := Int.emod_lt_of_pos (-a) (show 0 < b by omega)
  obtain ⟨q, hq⟩ : ∃ q, (-a) / b = q := ⟨_, rfl⟩
  obtain ⟨m, hm⟩ : ∃ m, (-a) % b = m := ⟨_, rfl⟩
  rw [hq, hm] at e
  rw [hm] at m0 m1
  rw [hq]
  exact (((Int.ediv_emod_unique (a := a + b - 1) (b := b) (r := b - 1 - m) (q := -q) (show 0 < b by omega)).2 ⟨by rw [Int.mul_neg]; omega, by omega, by omega⟩).1).symm
theorem ceilI_less (a b : Int) (hb : 1 ≤ b) : ceilI a b - 1 = (a - 1) / b := by
  rw [ceilI_eq a b hb, show a + b - 1 = (a - 1) + 1 * b by omega, Int.add_mul_ediv_right _ _ (show b ≠ 0 by omega)]
  omega
theorem ceilDiv_any (a c : Int) (ha : -1000000000000000000 ≤ a ∧ a ≤ 1000000000000000000) (hc : 1 ≤ c ∧ c ≤ 10000000000000000) (w : World) :
    Calls Try.prog 39 #[.int .i64 a, .int .i64 c] w fun e w' => e = .returned (.int .i64 (ceilI a c)) ∧ w = w' := by
  have HF := hid (fun w => floorDiv_any (-a) c (by omega) hc w)
  have t1 : IntKind.i64.wrap (-a) = -a := IntWalk.i64_in _ (by omega)
  have q1 : -1000000000000000000 ≤ (-a) / c ∧ (-a) / c ≤ 1000000000000000000 := by
    by_cases h : 0 ≤ -a
    · have := Int.ediv_nonneg h (show 0 ≤ c by omega)
      have := Int.ediv_le_self c h
      omega
    · have h1 := Int.ediv_le_ediv (show 0 < c by omega) (show -a ≤ 0 by omega)
      rw [Int.zero_ediv] at h1
      have h2 : -1000000000000000000 ≤ (-a) / c := by
        rw [Int.le_ediv_iff_mul_le (by omega)]
        have : -1000000000000000000 * c ≤ -1000000000000000000 * 1 := Int.mul_le_mul_of_nonpos_left (by omega) (by omega)
        omega
      omega
  unfold ceilI
  obtain ⟨q, hq⟩ : ∃ q, (-a) / c = q := ⟨_, rfl⟩
  rw [hq] at HF q1 ⊢
  have t2 : IntKind.i64.wrap (-q) = -q := IntWalk.i64_in _ (by omega)
  clear hq q1 ha hc
  go_enter Try.func39, Try.ntmps39
  go_wp2_with fail
  refine (HF.out _).mono ?_
  rintro e w1 ⟨rfl, rfl⟩
  go_wp2_with fail
  go_ret
  exact ⟨rfl, rfl⟩
theorem firstWith_any (P Q c : Int) (h : -1000000000000000000 ≤ c * Q ∧ c * Q ≤ 1000000000000000000) (hP : 1 ≤ P ∧ P ≤ 1000000000000) (w : World) :
    Calls Try.prog 35 #[.agg #[.int .i64 P, .int .i64 Q], .int .i64 c] w (GivesB w (.int .i64 (ceilI (c * Q) P))) := by
  have bel := hid (box2_bel w 43 (.int .i64 P) (.int .i64 Q))
  have HC := hid (fun w => ceilDiv_any (c * Q) P h (by omega) w)
  obtain ⟨X, hX⟩ : ∃ X, c * Q = X := ⟨_, rfl⟩
  rw [hX] at h HC ⊢
  have tX : IntKind.i64.wrap X = X := IntWalk.i64_in _ (by omega)
  clear h hP
  go_enter Try.func35, Try.ntmps35
  go_wp2_with fail
  refine (HC.out _).mono ?_
  rintro e w1 ⟨rfl, rfl⟩
  go_wp2_with fail
  go_ret
  exact ⟨rfl, bel.out⟩
set_option maxHeartbeats 2000000 in
theorem meet64_any (l h l' h' : Int) (w : World) :
    Calls Try.prog 34 #[.agg #[.int .i64 l, .int .i64 h], .agg #[.int .i64 l', .int .i64 h'], .func (.func 36) #[] #[]] w (GivesB w (.agg #[.int .i64 (max l l'), .int .i64 (min h h')])) := by
  by_cases c1 : l < l'
  · have k1 : cmp3 l' l = 1 := cmp3_gt c1
    rw [show max l l' = l' by omega]
    by_cases c2 : h' < h
    · have k2 : cmp3 h' h = -1 := cmp3_lt c2
      rw [show min h h' = h' by omega]
      clear c1 c2
      go_enter Try.func34, Try.ntmps34
      go_wp2_with fail
      refine (compare64 _ _ _).mono ?_
      rw [k1]
      rintro e w1 ⟨rfl, rfl⟩
      go_wp2_with fail
      refine (compare64 _ _ _).mono ?_
      rw [k2]
      rintro e w1 ⟨rfl, rfl⟩
      go_wp2_with fail
      exact bodyPost_ret (v := .agg #[.int .i64 l', .int .i64 h']) (by simp [results, Try.results34, go_sem]) rfl ⟨rfl, by (repeat (first | assumption | refine Below.drew ?_ | refine Below.setCell ?_ (by first | omega | (simp; done) | (simp; omega)) _ | refine Below.alloc ?_ (by first | omega | (simp; done) | (simp; omega)) _ | exact Below.refl _ _))⟩
    · have k2 : 0 ≤ cmp3 h' h := cmp3_ge c2
      rw [show min h h' = h by omega]
      obtain ⟨u, hu⟩ : ∃ u, cmp3 h' h = u := ⟨_, rfl⟩
      have hu2 := hid hu
      rw [hu] at k2
      have k3 : ¬ u < 0 := by omega
      clear c1 c2 hu
      go_enter Try.func34, Try.ntmps34
      go_wp2_with fail
      refine (compare64 _ _ _).mono ?_
      rw [k1]
      rintro e w1 ⟨rfl, rfl⟩
      go_wp2_with fail
      refine (compare64 _ _ _).mono ?_
      rw [hu2.out]
      rintro e w1 ⟨rfl, rfl⟩
      go_wp2_with fail
      exact bodyPost_ret (v := .agg #[.int .i64 l', .int .i64 h]) (by simp [results, Try.results34, go_sem]) rfl ⟨rfl, by (repeat (first | assumption | refine Below.drew ?_ | refine Below.setCell ?_ (by first | omega | (simp; done) | (simp; omega)) _ | refine Below.alloc ?_ (by first | omega | (simp; done) | (simp; omega)) _ | exact Below.refl _ _))⟩
  · have k1 : cmp3 l' l ≤ 0 := cmp3_le c1
    rw [show max l l' = l by omega]
    obtain ⟨v, hv⟩ : ∃ u, cmp3 l' l = u := ⟨_, rfl⟩
    have hv2 := hid hv
    rw [hv] at k1
    have k4 : ¬ 0 < v := by omega
    clear hv
    by_cases c2 : h' < h
    · have k2 : cmp3 h' h = -1 := cmp3_lt c2
      rw [show min h h' = h' by omega]
      clear c1 c2
      go_enter Try.func34, Try.ntmps34
      go_wp2_with fail
      refine (compare64 _ _ _).mono ?_
      rw [hv2.out]
      rintro e w1 ⟨rfl, rfl⟩
      go_wp2_with fail
      refine (compare64 _ _ _).mono ?_
      rw [k2]
      rintro e w1 ⟨rfl, rfl⟩
      go_wp2_with fail
      exact bodyPost_ret (v := .agg #[.int .i64 l, .int .i64 h']) (by simp [results, Try.results34, go_sem]) rfl ⟨rfl, by (repeat (first | assumption | refine Below.drew ?_ | refine Below.setCell ?_ (by first | omega | (simp; done) | (simp; omega)) _ | refine Below.alloc ?_ (by first | omega | (simp; done) | (simp; omega)) _ | exact Below.refl _ _))⟩
    · have k2 : 0 ≤ cmp3 h' h := cmp3_ge c2
      rw [show min h h' = h by omega]
      obtain ⟨u, hu⟩ : ∃ u, cmp3 h' h = u := ⟨_, rfl⟩
      have hu2 := hid hu
      rw [hu] at k2
      have k3 : ¬ u < 0 := by omega
      clear c1 c2 hu
      go_enter Try.func34, Try.ntmps34
      go_wp2_with fail
      refine (compare64 _ _ _).mono ?_
      rw [hv2.out]
      rintro e w1 ⟨rfl, rfl⟩
      go_wp2_with fail
      refine (compare64 _ _ _).mono ?_
      rw [hu2.out]
      rintro e w1 ⟨rfl, rfl⟩
      go_wp2_with fail
      exact bodyPost_ret (v := .agg #[.int .i64 l, .int .i64 h]) (by simp [results, Try.results34, go_sem]) rfl ⟨rfl, by (repeat (first | assumption | refine Below.drew ?_ | refine Below.setCell ?_ (by first | omega | (simp; done) | (simp; omega)) _ | refine Below.alloc ?_ (by first | omega | (simp; done) | (simp; omega)) _ | exact Below.refl _ _))⟩

/-- what stays through the region of flows: a gauge, bounds, and a box for the result -/
def CoreF (w : World) (T0 T1 : TypeId) (v0 v1 v2 v3 u0 u1 : Value) (w' : World) : Prop :=
  Below w.heap.size w w' ∧ Row w' w.heap.size T0 [v0, v1, v2, v3] ∧ Row w' (w.heap.size + 1 + 1) T1 [u0, u1] ∧ ∃ a b, Row w' (w.heap.size + 1) T1 [a, b]
theorem CoreF.below {w : World} {T0 T1 : TypeId} {v0 v1 v2 v3 u0 u1 : Value} {w' w'' : World} (h : CoreF w T0 T1 v0 v1 v2 v3 u0 u1 w') (hB : Below w'.heap.size w' w'') : CoreF w T0 T1 v0 v1 v2 v3 u0 u1 w'' := by
  obtain ⟨h1, h2, h3, a, b, h4⟩ := h
  exact ⟨h1.trans (hB.mono h1.size), h2.below hB h2.lt, h3.below hB h3.lt, a, b, h4.below hB h4.lt⟩
theorem CoreF.store {w : World} {T0 T1 : TypeId} {v0 v1 v2 v3 u0 u1 : Value} {w' : World} (h : CoreF w T0 T1 v0 v1 v2 v3 u0 u1 w') (x y : Value) : CoreF w T0 T1 v0 v1 v2 v3 u0 u1 ((w'.setCell ⟨w.heap.size + 1, 0, none⟩ x).setCell ⟨w.heap.size + 1, 1, none⟩ y) := by
  obtain ⟨h1, h2, h3, a, b, h4⟩ := h
  have l : w.heap.size ≤ w.heap.size + 1 := by omega
  have n1 : w.heap.size + 1 ≠ w.heap.size := by omega
  have n2 : w.heap.size + 1 ≠ w.heap.size + 1 + 1 := by omega
  exact ⟨(h1.setCell (p := ⟨w.heap.size + 1, 0, none⟩) l _).setCell (p := ⟨w.heap.size + 1, 1, none⟩) l _, (h2.other n1 _).other n1 _, (h3.other n2 _).other n2 _, x, y, (h4.set 0 _).set 1 _⟩
theorem CoreF.cells {w : World} {T0 T1 : TypeId} {v0 v1 v2 v3 u0 u1 : Value} {w' : World} (h : CoreF w T0 T1 v0 v1 v2 v3 u0 u1 w') :
    CoreF w T0 T1 v0 v1 v2 v3 u0 u1 w' ∧ w'.cell? ⟨w.heap.size, 0, none⟩ = some v0 ∧ w'.cell? ⟨w.heap.size, 1, none⟩ = some v1 ∧ w'.cell? ⟨w.heap.size, 2, none⟩ = some v2 ∧ w'.cell? ⟨w.heap.size, 3, none⟩ = some v3 ∧ w'.cell? ⟨w.heap.size + 1 + 1, 0, none⟩ = some u0 ∧ w'.cell? ⟨w.heap.size + 1 + 1, 1, none⟩ = some u1 := by
  have h' := h
  obtain ⟨h1, h2, h3, _⟩ := h'
  exact ⟨h, h2.cell 0, h2.cell 1, h2.cell 2, h2.cell 3, h3.cell 0, h3.cell 1⟩
set_option maxRecDepth 100000 in
set_option maxHeartbeats 2000000 in
theorem flows_any (B n cap : Nat) (x y s sum : Int) (hx : 1 ≤ x ∧ x ≤ 1000) (hy : 1 ≤ y ∧ y ≤ 1000) (hc : -1000000000000 ≤ sum - s ∧ sum - s ≤ 10000000000000000) (h1 : (sum - s) * y ≤ 100000000000000000) (w : World) :
    Calls Try.prog 25 #[.agg #[.slice (some ⟨B, 0, none⟩) n cap, .int .i64 x, .int .i64 y, .int .i64 s], .int .i64 sum] w (GivesB w (.agg #[.int .i64 (max 0 (ceilI ((sum - s) * y) x)), .int .i64 (min 1000000000001 (ceilI ((sum - s + 1) * y) x))])) := by
  have b1 : -1000000000000000 ≤ (sum - s) * y := by
    by_cases h : 0 ≤ sum - s
    · have := Int.mul_nonneg h (show 0 ≤ y by omega); omega
    · have := Int.mul_le_mul_of_nonpos_left (a := sum - s) (b := 1000) (c := y) (by omega) (by omega)
      have := Int.mul_le_mul_of_nonneg_right (show -1000000000000 ≤ sum - s by omega) (show (0 : Int) ≤ 1000 by omega)
      omega
  have b2 : (sum - s + 1) * y = (sum - s) * y + y := by rw [Int.add_mul, Int.one_mul]
  have F1 := hid (fun w => firstWith_any x y (sum - s) ⟨by omega, by omega⟩ (by omega) w)
  have F2 := hid (fun w => firstWith_any x y (sum - s + 1) ⟨by omega, by omega⟩ (by omega) w)
  obtain ⟨c, hcc⟩ : ∃ c, sum - s = c := ⟨_, rfl⟩
  rw [hcc] at F1 F2 hc ⊢
  have t1 : IntKind.i64.wrap c = c := IntWalk.i64_in _ (by omega)
  have t2 : IntKind.i64.wrap (c + 1) = c + 1 := IntWalk.i64_in _ (by omega)
  obtain ⟨A, hA⟩ : ∃ A, ceilI (c * y) x = A := ⟨_, rfl⟩
  obtain ⟨D, hD⟩ : ∃ A, ceilI ((c + 1) * y) x = A := ⟨_, rfl⟩
  rw [hA] at F1 ⊢
  rw [hD] at F2 ⊢
  have ME := hid (fun w => meet64_any 0 1000000000001 A D w)
  obtain ⟨M, hM⟩ : ∃ A', max 0 A = A' := ⟨_, rfl⟩
  obtain ⟨K, hK⟩ : ∃ A', min 1000000000001 D = A' := ⟨_, rfl⟩
  rw [hM, hK] at ME ⊢
  obtain ⟨V, hV⟩ : ∃ V, V = (((w.alloc (.cells #[.slice (some ⟨B, 0, none⟩) n cap, .int .i64 x, .int .i64 y, .int .i64 s] 45)).alloc (.cells #[.int .i64 0, .int .i64 0] 52)).alloc (.cells #[.int .i64 0, .int .i64 1000000000001] 52)) := ⟨_, rfl⟩
  have bV : Below w.heap.size w V := by rw [hV]; exact (((Below.refl _ w).alloc (Nat.le_refl _) _).alloc (by simp) _).alloc (by simp; omega) _
  have rg : Row V w.heap.size 45 [.slice (some ⟨B, 0, none⟩) n cap, .int .i64 x, .int .i64 y, .int .i64 s] := by rw [hV]; exact ((Row.new w _ _).alloc _).alloc _
  have rr : Row V (w.heap.size + 1) 52 [.int .i64 0, .int .i64 0] := by
    have h := (Row.new (w.alloc (.cells #[.slice (some ⟨B, 0, none⟩) n cap, .int .i64 x, .int .i64 y, .int .i64 s] 45)) 52 [.int .i64 0, .int .i64 0]).alloc (.cells #[.int .i64 0, .int .i64 1000000000001] 52)
    simp only [World.size_alloc] at h
    rw [hV]; exact h
  have ra : Row V (w.heap.size + 1 + 1) 52 [.int .i64 0, .int .i64 1000000000001] := by
    have h := Row.new ((w.alloc (.cells #[.slice (some ⟨B, 0, none⟩) n cap, .int .i64 x, .int .i64 y, .int .i64 s] 45)).alloc (.cells #[.int .i64 0, .int .i64 0] 52)) 52 [.int .i64 0, .int .i64 1000000000001]
    simp only [World.size_alloc] at h
    rw [hV]; exact h
  have HS0 := hid (CoreF.cells (w' := V.drew) ⟨bV.drew, rg.below (Below.refl _ _).drew rg.lt, ra.below (Below.refl _ _).drew ra.lt, _, _, rr.below (Below.refl _ _).drew rr.lt⟩)
  have F1' := hid (fun (w' : World) (h : (fun w' : World => CoreF w 45 52 (.slice (some ⟨B, 0, none⟩) n cap) (.int .i64 x) (.int .i64 y) (.int .i64 s) (.int .i64 0) (.int .i64 1000000000001) w' ∧ w'.cell? ⟨w.heap.size, 0, none⟩ = some (.slice (some ⟨B, 0, none⟩) n cap) ∧ w'.cell? ⟨w.heap.size, 1, none⟩ = some (.int .i64 x) ∧ w'.cell? ⟨w.heap.size, 2, none⟩ = some (.int .i64 y) ∧ w'.cell? ⟨w.heap.size, 3, none⟩ = some (.int .i64 s) ∧ w'.cell? ⟨w.heap.size + 1 + 1, 0, none⟩ = some (.int .i64 0) ∧ w'.cell? ⟨w.heap.size + 1 + 1, 1, none⟩ = some (.int .i64 1000000000001)) w') => (F1.out w').mono fun e w'' ⟨he, hB⟩ => And.intro he (h.1.below hB).cells)
  have F2' := hid (fun (w' : World) (h : (fun w' : World => CoreF w 45 52 (.slice (some ⟨B, 0, none⟩) n cap) (.int .i64 x) (.int .i64 y) (.int .i64 s) (.int .i64 0) (.int .i64 1000000000001) w' ∧ w'.cell? ⟨w.heap.size, 0, none⟩ = some (.slice (some ⟨B, 0, none⟩) n cap) ∧ w'.cell? ⟨w.heap.size, 1, none⟩ = some (.int .i64 x) ∧ w'.cell? ⟨w.heap.size, 2, none⟩ = some (.int .i64 y) ∧ w'.cell? ⟨w.heap.size, 3, none⟩ = some (.int .i64 s) ∧ w'.cell? ⟨w.heap.size + 1 + 1, 0, none⟩ = some (.int .i64 0) ∧ w'.cell? ⟨w.heap.size + 1 + 1, 1, none⟩ = some (.int .i64 1000000000001)) w') => (F2.out w').mono fun e w'' ⟨he, hB⟩ => And.intro he (h.1.below hB).cells)
  have ME' := hid (fun (w' : World) (h : (fun w' : World => CoreF w 45 52 (.slice (some ⟨B, 0, none⟩) n cap) (.int .i64 x) (.int .i64 y) (.int .i64 s) (.int .i64 0) (.int .i64 1000000000001) w' ∧ w'.cell? ⟨w.heap.size, 0, none⟩ = some (.slice (some ⟨B, 0, none⟩) n cap) ∧ w'.cell? ⟨w.heap.size, 1, none⟩ = some (.int .i64 x) ∧ w'.cell? ⟨w.heap.size, 2, none⟩ = some (.int .i64 y) ∧ w'.cell? ⟨w.heap.size, 3, none⟩ = some (.int .i64 s) ∧ w'.cell? ⟨w.heap.size + 1 + 1, 0, none⟩ = some (.int .i64 0) ∧ w'.cell? ⟨w.heap.size + 1 + 1, 1, none⟩ = some (.int .i64 1000000000001)) w') => (ME.out w').mono fun e w'' ⟨he, hB⟩ => And.intro he (h.1.below hB).cells)
  have BV := hid bV
  have HV := hid hV
  have RR := hid rr
  clear b1 b2 hA hD hM hK F1 F2 ME bV hV rg rr ra hx hy h1 hc
  have hc2 := hid hcc
  go_enter Try.func25, Try.ntmps25
  go_wp2_with fail
  rw [← HV.out]
  go_region_held3 (fun w' : World => CoreF w 45 52 (.slice (some ⟨B, 0, none⟩) n cap) (.int .i64 x) (.int .i64 y) (.int .i64 s) (.int .i64 0) (.int .i64 1000000000001) w' ∧ w'.cell? ⟨w.heap.size, 0, none⟩ = some (.slice (some ⟨B, 0, none⟩) n cap) ∧ w'.cell? ⟨w.heap.size, 1, none⟩ = some (.int .i64 x) ∧ w'.cell? ⟨w.heap.size, 2, none⟩ = some (.int .i64 y) ∧ w'.cell? ⟨w.heap.size, 3, none⟩ = some (.int .i64 s) ∧ w'.cell? ⟨w.heap.size + 1 + 1, 0, none⟩ = some (.int .i64 0) ∧ w'.cell? ⟨w.heap.size + 1 + 1, 1, none⟩ = some (.int .i64 1000000000001)) (first | assumption | exact HS0.out | exact (hv.1.store _ _).cells)
    ((first | (go_at_call 35; with_reducible refine (F1'.out _ (by assumption)).mono ?_; rintro e v ⟨rfl, hv⟩) | (go_at_call 35; with_reducible refine (F2'.out _ (by assumption)).mono ?_; rintro e v ⟨rfl, hv⟩) | (go_at_call 34; refine (ME'.out _ (by assumption)).mono ?_; rintro e v ⟨rfl, hv⟩; obtain ⟨_, _, _, ra0, rb0, rr0⟩ := hv.1; have k0 := rr0.cell 0; have k1 := rr0.cell 1; have f0 := rr0.frozen 0; have f1 := rr0.frozen 1; simp only [List.getElem?_cons_zero, List.getElem?_cons_succ] at k0 k1)))
  go_wp2_with fail
  have hy := (hv.1.store (.int .i64 M) (.int .i64 K)).1
  have rY := (rr0.set 0 (.int .i64 M)).set 1 (.int .i64 K)
  obtain ⟨Y, hY⟩ : ∃ Y, Y = (v.setCell ⟨w.heap.size + 1, 0, none⟩ (.int .i64 M)).setCell ⟨w.heap.size + 1, 1, none⟩ (.int .i64 K) := ⟨_, rfl⟩
  rw [← hY] at hy rY ⊢
  clear hY k0 k1 f0 f1
  have g0 := rY.cell 0; have g1 := rY.cell 1
  simp only [List.set_cons_zero, List.set_cons_succ, List.getElem?_cons_zero, List.getElem?_cons_succ] at g0 g1
  exact bodyPost_ret (v := .agg #[.int .i64 M, .int .i64 K]) (by simp [results, Try.results25, go_sem, g0, g1]) rfl ⟨rfl, hy⟩
end Go.Proofs.Ytoenpfjnjpgbfaa
