/- CompareRatios: the program's, the model's and the law's walk. -/
import Derived.Test.YtgomeeheleiapaaOpenR
import Derived.Deep.QuietTactic
namespace Go.Proofs.Ytgomeeheleiapaa
open Go.RowKit
def cmp3 (a b : Int) : Int := if a < b then -1 else if b < a then 1 else 0
theorem cmp3_lt {a b : Int} (h : a < b) : cmp3 a b = -1 := by simp [cmp3, h]
theorem cmp3_gt {a b : Int} (h : b < a) : cmp3 a b = 1 := by simp [cmp3, h]; omega
theorem cmp3_eq (a : Int) : cmp3 a a = 0 := by simp [cmp3]
theorem cmp3_bd (a b : Int) : -1 ≤ cmp3 a b ∧ cmp3 a b ≤ 1 := by unfold cmp3; split; omega; split <;> omega
theorem isNaN64 (a : Int) (w : World) : Calls Try.prog 70 #[.int .i64 a] w fun e w' => e = .returned (.bool false) ∧ w = w' := by
  have d : (a != a) = false := by simp
  go_enter Try.func70, Try.ntmps70
  go_wp2
  go_ret
  exact ⟨rfl, rfl⟩
theorem compare64 (a b : Int) (w : World) : Calls Try.prog 50 #[.int .i64 a, .int .i64 b] w fun e w' => e = .returned (.int .i64 (cmp3 a b)) ∧ w = w' := by
  rcases Int.lt_trichotomy a b with h | rfl | h
  · rw [cmp3_lt h]
    go_enter Try.func50, Try.ntmps50
    go_wp2_with (go_at_call 70; refine (isNaN64 _ _).mono ?_; rintro e w' ⟨rfl, rfl⟩)
    go_ret
    exact ⟨rfl, rfl⟩
  · rw [cmp3_eq]
    go_enter Try.func50, Try.ntmps50
    go_wp2_with (go_at_call 70; refine (isNaN64 _ _).mono ?_; rintro e w' ⟨rfl, rfl⟩)
    go_ret
    exact ⟨rfl, rfl⟩
  · rw [cmp3_gt h]
    go_enter Try.func50, Try.ntmps50
    go_wp2_with (go_at_call 70; refine (isNaN64 _ _).mono ?_; rintro e w' ⟨rfl, rfl⟩)
    go_ret
    exact ⟨rfl, rfl⟩
def cmpR (p q u v : Int) : Int × Int := if okR p q && okR u v then (cmp3 (p * v) (u * q), 0) else (0, 1)
theorem cmpR_yes {p q u v : Int} (h : okR p q = true) (k : okR u v = true) : cmpR p q u v = (cmp3 (p * v) (u * q), 0) := by simp [cmpR, h, k]
theorem cmpR_no1 {p q u v : Int} (h : okR p q = false) : cmpR p q u v = (0, 1) := by simp [cmpR, h]
theorem cmpR_no2 {p q u v : Int} (k : okR u v = false) : cmpR p q u v = (0, 1) := by simp [cmpR, k]
theorem mul9 {a b : Int} (h1 : 1 ≤ a) (h2 : a ≤ 1000000000) (h3 : 1 ≤ b) (h4 : b ≤ 1000000000) : 1 ≤ a * b ∧ a * b ≤ 1000000000000000000 := by
  have := mul_bd h1 h2 h3 h4
  omega
/-- two ratios in boxes -/
theorem two_ratios (w : World) (T U : TypeId) (a b x y : Value) : ∀ W, W = ((w.alloc (.cells #[a, b] T)).alloc (.cells #[x, y] U)) →
    Row W w.heap.size T [a, b] ∧ Row W (w.heap.size + 1) U [x, y] ∧ Below w.heap.size w W ∧ W.heap.size = w.heap.size + 1 + 1 := by
  rintro W rfl
  have h := Row.new (w.alloc (.cells #[a, b] T)) U [x, y]
  simp only [World.size_alloc] at h
  exact ⟨(Row.new w T [a, b]).alloc _, h, (box2_bel w T a b).alloc (by simp) _, by simp⟩
set_option maxHeartbeats 1000000 in
theorem specCompare_any (p q u v : Int) (hp : I64 p) (hq : I64 q) (hu : I64 u) (hv : I64 v) (w : World) :
    Calls Try.prog 21 #[.agg #[.int .i64 p, .int .i64 q], .agg #[.int .i64 u, .int .i64 v]] w (GivesB w (.tuple #[.int .i64 (cmpR p q u v).1, .int .i64 (cmpR p q u v).2])) := by
  have HA := hid (fun w => l03Ok_any p q hp hq w)
  have HB := hid (fun w => l03Ok_any u v hu hv w)
  obtain ⟨q0, q1, bW, sW⟩ := two_ratios w 25 25 (.int .i64 p) (.int .i64 q) (.int .i64 u) (.int .i64 v) _ rfl
  have Q0 := hid q0
  have Q1 := hid q1
  have bE := hid bW
  clear q0 q1 bW sW hp hq hu hv
  cases h1 : okR p q with
  | false =>
    rw [cmpR_no1 h1]
    rw [h1] at HA
    clear h1
    go_enter Try.func21, Try.ntmps21
    go_wp2_with fail
    refine (HA.out _).mono ?_
    rintro e w1 ⟨rfl, hB1⟩
    simp only [World.size_alloc] at hB1
    go_wp2_with fail
    go_ret2
    exact ⟨rfl, bE.out.trans (hB1.mono (by omega))⟩
  | true =>
    rw [h1] at HA
    cases h2 : okR u v with
    | false =>
      rw [cmpR_no2 h2]
      rw [h2] at HB
      clear h1 h2
      go_enter Try.func21, Try.ntmps21
      go_wp2_with fail
      refine (HA.out _).mono ?_
      rintro e w1 ⟨rfl, hB1⟩
      have hz1 := hB1.size
      simp only [World.size_alloc] at hB1 hz1
      have k1 := Q1.out.below hB1 (by omega)
      have c0 := k1.cell 0
      have c1 := k1.cell 1
      simp only [List.getElem?_cons_zero, List.getElem?_cons_succ] at c0 c1
      clear k1
      go_wp2_with fail
      refine (HB.out _).mono ?_
      rintro e w2 ⟨rfl, hB2⟩
      clear c0 c1
      go_wp2_with fail
      go_ret2
      exact ⟨rfl, bE.out.trans ((hB1.mono (by omega)).trans (hB2.mono (by omega)))⟩
    | true =>
      rw [cmpR_yes h1 h2]
      rw [h2] at HB
      obtain ⟨a1, a2, a3, a4, _⟩ := okR_out h1
      obtain ⟨b1, b2, b3, b4, _⟩ := okR_out h2
      have m1 := mul9 a1 a2 b3 b4
      have m2 := mul9 b1 b2 a3 a4
      have t1 : IntKind.i64.wrap (p * v) = p * v := IntWalk.i64_in _ (by omega)
      have t2 : IntKind.i64.wrap (u * q) = u * q := IntWalk.i64_in _ (by omega)
      clear h1 h2
      obtain ⟨X, hX⟩ : ∃ X, p * v = X := ⟨_, rfl⟩
      obtain ⟨Y, hY⟩ : ∃ X, u * q = X := ⟨_, rfl⟩
      rw [hX] at m1 t1 ⊢
      rw [hY] at m2 t2 ⊢
      have hd := cmp3_bd X Y
      rcases Int.lt_trichotomy X Y with h | h | h
      all_goals
        first | rw [cmp3_lt h] | rw [cmp3_gt h] | (rw [h, cmp3_eq]; rw [h] at hX t1 m1; clear h)
        go_enter Try.func21, Try.ntmps21
        go_wp2_with fail
        refine (HA.out _).mono ?_
        rintro e w1 ⟨rfl, hB1⟩
        have hz1 := hB1.size
        simp only [World.size_alloc] at hB1 hz1
        have k0 := Q0.out.below hB1 (by omega)
        have k1 := Q1.out.below hB1 (by omega)
        have c2 := k1.cell 0
        have c3 := k1.cell 1
        simp only [List.getElem?_cons_zero, List.getElem?_cons_succ] at c2 c3
        go_wp2_with fail
        refine (HB.out _).mono ?_
        rintro e w2 ⟨rfl, hB2⟩
        have n0 := k0.below hB2 (by omega)
        have n1 := k1.below hB2 (by omega)
        clear c2 c3 k0 k1
        have d0 := n0.cell 0
        have d1 := n0.cell 1
        have d2 := n1.cell 0
        have d3 := n1.cell 1
        simp only [List.getElem?_cons_zero, List.getElem?_cons_succ] at d0 d1 d2 d3
        clear n0 n1
        have bF := hid (bE.out.trans ((hB1.mono (by omega)).trans (hB2.mono (by omega))))
        clear hB1 hB2
        go_wp2_with fail
        go_ret2
        exact ⟨rfl, bF.out⟩

set_option maxHeartbeats 1000000 in
theorem implCompare_any (p q u v : Int) (hp : I64 p) (hq : I64 q) (hu : I64 u) (hv : I64 v) (w : World) :
    Calls Try.prog 22 #[.agg #[.int .i64 p, .int .i64 q], .agg #[.int .i64 u, .int .i64 v]] w (GivesB w (.tuple #[.int .i64 (cmpR p q u v).1, .int .i64 (cmpR p q u v).2])) := by
  have HA := hid (fun w => implValidRatio_any p q hp hq w)
  have HB := hid (fun w => implValidRatio_any u v hu hv w)
  obtain ⟨q0, q1, bW, sW⟩ := two_ratios w 25 25 (.int .i64 p) (.int .i64 q) (.int .i64 u) (.int .i64 v) _ rfl
  have Q0 := hid q0
  have Q1 := hid q1
  have bE := hid bW
  clear q0 q1 bW sW hp hq hu hv
  cases h1 : okR p q with
  | false =>
    rw [cmpR_no1 h1]
    rw [h1] at HA
    clear h1
    go_enter Try.func22, Try.ntmps22
    go_wp2_with fail
    refine (HA.out _).mono ?_
    rintro e w1 ⟨rfl, hB1⟩
    simp only [World.size_alloc] at hB1
    go_wp2_with fail
    go_ret2
    exact ⟨rfl, bE.out.trans (hB1.mono (by omega))⟩
  | true =>
    rw [h1] at HA
    cases h2 : okR u v with
    | false =>
      rw [cmpR_no2 h2]
      rw [h2] at HB
      clear h1 h2
      go_enter Try.func22, Try.ntmps22
      go_wp2_with fail
      refine (HA.out _).mono ?_
      rintro e w1 ⟨rfl, hB1⟩
      have hz1 := hB1.size
      simp only [World.size_alloc] at hB1 hz1
      have k1 := Q1.out.below hB1 (by omega)
      have c0 := k1.cell 0
      have c1 := k1.cell 1
      simp only [List.getElem?_cons_zero, List.getElem?_cons_succ] at c0 c1
      clear k1
      go_wp2_with fail
      refine (HB.out _).mono ?_
      rintro e w2 ⟨rfl, hB2⟩
      clear c0 c1
      go_wp2_with fail
      go_ret2
      exact ⟨rfl, bE.out.trans ((hB1.mono (by omega)).trans (hB2.mono (by omega)))⟩
    | true =>
      rw [cmpR_yes h1 h2]
      rw [h2] at HB
      obtain ⟨a1, a2, a3, a4, _⟩ := okR_out h1
      obtain ⟨b1, b2, b3, b4, _⟩ := okR_out h2
      have m1 := mul9 a1 a2 b3 b4
      have m2 := mul9 b1 b2 a3 a4
      have t1 : IntKind.i64.wrap (p * v) = p * v := IntWalk.i64_in _ (by omega)
      have t2 : IntKind.i64.wrap (u * q) = u * q := IntWalk.i64_in _ (by omega)
      clear h1 h2
      obtain ⟨X, hX⟩ : ∃ X, p * v = X := ⟨_, rfl⟩
      obtain ⟨Y, hY⟩ : ∃ X, u * q = X := ⟨_, rfl⟩
      rw [hX] at m1 t1 ⊢
      rw [hY] at m2 t2 ⊢
      have hd := cmp3_bd X Y
      go_enter Try.func22, Try.ntmps22
      go_wp2_with fail
      refine (HA.out _).mono ?_
      rintro e w1 ⟨rfl, hB1⟩
      have hz1 := hB1.size
      simp only [World.size_alloc] at hB1 hz1
      have k0 := Q0.out.below hB1 (by omega)
      have k1 := Q1.out.below hB1 (by omega)
      have c2 := k1.cell 0
      have c3 := k1.cell 1
      simp only [List.getElem?_cons_zero, List.getElem?_cons_succ] at c2 c3
      go_wp2_with fail
      refine (HB.out _).mono ?_
      rintro e w2 ⟨rfl, hB2⟩
      have n0 := k0.below hB2 (by omega)
      have n1 := k1.below hB2 (by omega)
      clear c2 c3 k0 k1
      have d0 := n0.cell 0
      have d1 := n0.cell 1
      have d2 := n1.cell 0
      have d3 := n1.cell 1
      simp only [List.getElem?_cons_zero, List.getElem?_cons_succ] at d0 d1 d2 d3
      clear n0 n1
      have bF := hid (bE.out.trans ((hB1.mono (by omega)).trans (hB2.mono (by omega))))
      clear hB1 hB2
      go_wp2_with fail
      refine (compare64 X Y _).mono ?_
      rintro e w' ⟨rfl, rfl⟩
      go_wp2_with fail
      go_ret2
      exact ⟨rfl, bF.out⟩

end Go.Proofs.Ytgomeeheleiapaa
