/- The simplest portion between two; mathematics and pieces. -/
import Derived.Test.YtihadhbgkjbkeaaDoorCmp
import Derived.Test.YtihadhbgkjbkeaaDoorOpenR
import Derived.Test.YtihadhbgkjbkeaaDoorCompare
import Derived.Test.YtihadhbgkjbkeaaDoorFloor
namespace Go.Proofs.YtihadhbgkjbkeaaDoor
open Go.RowKit
set_option linter.unusedVariables false
def ceilI (a b : Int) : Int := -((-a) / b)
theorem Row.set2 {w : World} {g : Nat} {T : TypeId} {a b : Value} (h : Row w g T [a, b]) (x y : Value) : Row ((w.setCell ⟨g, 0, none⟩ x).setCell ⟨g, 1, none⟩ y) g T [x, y] := (h.set 0 x).set 1 y
theorem ceilI_eq (a b : Int) (hb : 1 ≤ b) : ceilI a b = (a + b - 1) / b := by
  unfold ceilI
  have e := Int.mul_ediv_add_emod (-a) b
  have m0 := Int.emod_nonneg (-a) (show b ≠ 0 by omega)
  have m1 := Int.emod_lt_of_pos (-a) (show 0 < b by omega)
  obtain ⟨q, hq⟩ : ∃ q, (-a) / b = q := ⟨_, rfl⟩
  obtain ⟨m, hm⟩ : ∃ m, (-a) % b = m := ⟨_, rfl⟩
  rw [hq, hm] at e
  rw [hm] at m0 m1
  rw [hq]
  exact (((Int.ediv_emod_unique (a := a + b - 1) (b := b) (r := b - 1 - m) (q := -q) (show 0 < b by omega)).2 ⟨by rw [Int.mul_neg]; omega, by omega, by omega⟩).1).symm
theorem ceilDiv_any (a c : Int) (ha : -1000000000000000000 ≤ a ∧ a ≤ 1000000000000000000) (hc : 1 ≤ c ∧ c ≤ 10000000000000000) (w : World) :
    Calls Tryd.prog 25 #[.int .i64 a, .int .i64 c] w fun e w' => e = .returned (.int .i64 (ceilI a c)) ∧ w = w' := by
  have HF := hid (fun w => floorDiv_any (-a) c (by omega) hc w)
  have t1 : IntKind.i64.wrap (-a) = -a := IntWalk.i64_in _ (by omega)
  have q1 : -1000000000000000000 ≤ (-a) / c ∧ (-a) / c ≤ 1000000000000000000 := by
    by_cases h : 0 ≤ -a
    · have := Int.ediv_nonneg h (show 0 ≤ c by omega)
      have := Int.ediv_le_self c h
      omega
    · have h1 := Int.ediv_le_ediv (show 0 < c by omega) (show -a ≤ 0 by omega)
      rw [Int.zero_ediv] at h1
      have h2 : -1000000000000000000 ≤ (-a) / c := by
        rw [Int.le_ediv_iff_mul_le (by omega)]
        have : -1000000000000000000 * c ≤ -1000000000000000000 * 1 := Int.mul_le_mul_of_nonpos_left (by omega) (by omega)
        omega
      omega
  unfold ceilI
  obtain ⟨q, hq⟩ : ∃ q, (-a) / c = q := ⟨_, rfl⟩
  rw [hq] at HF q1 ⊢
  have t2 : IntKind.i64.wrap (-q) = -q := IntWalk.i64_in _ (by omega)
  clear hq q1 ha hc
  go_enter Tryd.func25, Tryd.ntmps25
  go_wp2_with fail
  refine (HF.out _).mono ?_
  rintro e w1 ⟨rfl, rfl⟩
  go_wp2_with fail
  go_ret
  exact ⟨rfl, rfl⟩
/-- the least numerator with a denominator k that is not less than p / q -/
def sp (p q k : Int) : Int := (p * k + q - 1) / q
def simGo (p q u v : Int) : Nat → Int → Int × Int
  | 0, k => (sp p q k, k)
  | n + 1, k => if sp p q k * v < u * k then (sp p q k, k) else simGo p q u v n (k + 1)
theorem simGo_yes {p q u v : Int} {n : Nat} {k : Int} (h : sp p q k * v < u * k) : simGo p q u v n k = (sp p q k, k) := by
  cases n with
  | zero => rfl
  | succ n => rw [simGo, if_pos h]
theorem simGo_no {p q u v : Int} {n : Nat} {k : Int} (h : ¬ sp p q k * v < u * k) : simGo p q u v (n + 1) k = simGo p q u v n (k + 1) := by rw [simGo, if_neg h]
def okPo (p q : Int) : Bool := (decide (0 ≤ p) && decide (p ≤ 1000000000)) && (decide (1 ≤ q) && decide (q ≤ 1000000000))
theorem okPo_out {p q : Int} (h : okPo p q = true) : 0 ≤ p ∧ p ≤ 1000000000 ∧ 1 ≤ q ∧ q ≤ 1000000000 := by
  simp only [okPo, Bool.and_eq_true, decide_eq_true_eq] at h; omega
theorem okPo_no {p q : Int} (h : ¬ (0 ≤ p ∧ p ≤ 1000000000 ∧ 1 ≤ q ∧ q ≤ 1000000000)) : okPo p q = false := by
  cases e : okPo p q with
  | false => rfl
  | true => exact absurd (okPo_out e) h
theorem okPo_yes {p q : Int} (h : 0 ≤ p ∧ p ≤ 1000000000 ∧ 1 ≤ q ∧ q ≤ 1000000000) : okPo p q = true := by
  simp only [okPo, Bool.and_eq_true, decide_eq_true_eq]; omega
theorem sp_at {p q : Int} (hq : 1 ≤ q) : sp p q q = p := by
  unfold sp
  rw [show p * q + q - 1 = (q - 1) + p * q by omega, Int.add_mul_ediv_right _ _ (show q ≠ 0 by omega), Int.ediv_eq_zero_of_lt (by omega) (by omega)]
  omega
theorem sp_bd {p q k : Int} (hp : 0 ≤ p) (hq : 1 ≤ q) (hk : 1 ≤ k) (hkq : k ≤ q) : 0 ≤ sp p q k ∧ sp p q k ≤ p ∧ 0 ≤ p * k ∧ p * k ≤ p * q := by
  have a := Int.mul_nonneg hp (show 0 ≤ k by omega)
  have b := Int.mul_le_mul_of_nonneg_left hkq hp
  refine ⟨Int.ediv_nonneg (by omega) (by omega), ?_, a, b⟩
  have c : sp p q k ≤ sp p q q := Int.ediv_le_ediv (by omega) (by omega)
  rwa [sp_at hq] at c
theorem mul_le2 {a b A B : Int} (h1 : 0 ≤ a) (h2 : a ≤ A) (h3 : 0 ≤ b) (h4 : b ≤ B) : 0 ≤ a * b ∧ a * b ≤ A * B :=
  ⟨Int.mul_nonneg h1 h3, Int.mul_le_mul h2 h4 h3 (by omega)⟩
def simR (p q u v : Int) : (Int × Int) × Int :=
  if (okPo p q && okPo u v) = true then (if 100000 < q ∨ 100000 < v then ((0, 0), 2) else if p * v < u * q then (simGo p q u v q.toNat 1, 0) else ((0, 0), 4)) else ((0, 0), 1)
theorem simR_no1 {p q u v : Int} (h : okPo p q = false) : simR p q u v = ((0, 0), 1) := by simp [simR, h]
theorem simR_no2 {p q u v : Int} (h : okPo u v = false) : simR p q u v = ((0, 0), 1) := by simp [simR, h]
theorem simR_range {p q u v : Int} (h : okPo p q = true) (k : okPo u v = true) (r : 100000 < q ∨ 100000 < v) : simR p q u v = ((0, 0), 2) := by rw [simR, h, k, if_pos (by rfl), if_pos r]
theorem simR_state {p q u v : Int} (h : okPo p q = true) (k : okPo u v = true) (r : ¬ (100000 < q ∨ 100000 < v)) (c : ¬ p * v < u * q) : simR p q u v = ((0, 0), 4) := by rw [simR, h, k, if_pos (by rfl), if_neg r, if_neg c]
theorem simR_yes {p q u v : Int} (h : okPo p q = true) (k : okPo u v = true) (r : ¬ (100000 < q ∨ 100000 < v)) (c : p * v < u * q) : simR p q u v = (simGo p q u v q.toNat 1, 0) := by rw [simR, h, k, if_pos (by rfl), if_neg r, if_pos c]
def pairW (r : (Int × Int) × Int) : Value := .tuple #[.agg #[.int .i64 r.1.1, .int .i64 r.1.2], .int .i64 r.2]
theorem pair_again2 {w : World} {g : Nat} {T : TypeId} {a b : Value} (x y : Value) (h : Row w g T [a, b]) : ∀ W, W = (w.setCell ⟨g, 0, none⟩ x).setCell ⟨g, 1, none⟩ y → Row W g T [x, y] ∧ (∀ k, k ≤ g → Below k w W) ∧ W.heap.size = w.heap.size := by
  rintro W rfl
  exact ⟨Row.set2 h x y, fun k hk => ((Below.refl k w).setCell (p := ⟨g, 0, none⟩) hk _).setCell (p := ⟨g, 1, none⟩) hk _, by simp⟩
theorem two_boxes2 (w : World) (T U : TypeId) (a b x y : Value) : ∀ W, W = ((w.alloc (.cells #[a, b] T)).alloc (.cells #[x, y] U)) →
    Row W w.heap.size T [a, b] ∧ Row W (w.heap.size + 1) U [x, y] ∧ Below w.heap.size w W ∧ W.heap.size = w.heap.size + 1 + 1 := by
  rintro W rfl
  have h := Row.new (w.alloc (.cells #[a, b] T)) U [x, y]
  simp only [World.size_alloc] at h
  exact ⟨(Row.new w T [a, b]).alloc _, h, ((Below.refl _ w).alloc (Nat.le_refl _) _).alloc (by simp) _, by simp⟩
theorem three_boxes2 (w : World) (T U X : TypeId) (a b x y s t : Value) : ∀ W, W = (((w.alloc (.cells #[a, b] T)).alloc (.cells #[x, y] U)).alloc (.cells #[s, t] X)) →
    Row W w.heap.size T [a, b] ∧ Row W (w.heap.size + 1) U [x, y] ∧ Row W (w.heap.size + 1 + 1) X [s, t] ∧ Below w.heap.size w W ∧ W.heap.size = w.heap.size + 1 + 1 + 1 := by
  rintro W rfl
  obtain ⟨h0, h1, h2, h3⟩ := two_boxes2 w T U a b x y _ rfl
  have h := Row.new ((w.alloc (.cells #[a, b] T)).alloc (.cells #[x, y] U)) X [s, t]
  simp only [World.size_alloc] at h
  exact ⟨h0.alloc _, h1.alloc _, h, h2.alloc (by simp; omega) _, by simp⟩
theorem compareP_any (a b c d : Int) (h1 : 0 ≤ a * d) (h2 : a * d ≤ 9000000000000000000) (h3 : 0 ≤ c * b) (h4 : c * b ≤ 9000000000000000000) (w : World) :
    Calls Tryd.prog 18 #[.agg #[.int .i64 a, .int .i64 b], .agg #[.int .i64 c, .int .i64 d]] w (GivesB w (.int .i64 (cmp3 (a * d) (c * b)))) := by
  obtain ⟨_, _, bW, _⟩ := two_boxes2 w 28 28 (.int .i64 a) (.int .i64 b) (.int .i64 c) (.int .i64 d) _ rfl
  have bel := hid bW
  have HC := hid (fun w => compare64 (a * d) (c * b) w)
  obtain ⟨X, hX⟩ : ∃ X, a * d = X := ⟨_, rfl⟩
  obtain ⟨Y, hY⟩ : ∃ X, c * b = X := ⟨_, rfl⟩
  rw [hX] at h1 h2 HC ⊢
  rw [hY] at h3 h4 HC ⊢
  have tX : IntKind.i64.wrap X = X := IntWalk.i64_in _ (by omega)
  have tY : IntKind.i64.wrap Y = Y := IntWalk.i64_in _ (by omega)
  clear h1 h2 h3 h4 bW
  go_enter Tryd.func18, Tryd.ntmps18
  go_wp2_with fail
  refine (HC.out _).mono ?_
  rintro e w1 ⟨rfl, rfl⟩
  go_wp2_with fail
  go_ret
  exact ⟨rfl, bel.out⟩
theorem l06Less_any (a b c d : Int) (h1 : 0 ≤ a * d) (h2 : a * d ≤ 9000000000000000000) (h3 : 0 ≤ c * b) (h4 : c * b ≤ 9000000000000000000) (w : World) :
    Calls Tryd.prog 15 #[.agg #[.int .i64 a, .int .i64 b], .agg #[.int .i64 c, .int .i64 d]] w (GivesB w (.bool (decide (a * d < c * b)))) := by
  obtain ⟨_, _, bW, _⟩ := two_boxes2 w 28 28 (.int .i64 a) (.int .i64 b) (.int .i64 c) (.int .i64 d) _ rfl
  have bel := hid bW
  obtain ⟨X, hX⟩ : ∃ X, a * d = X := ⟨_, rfl⟩
  obtain ⟨Y, hY⟩ : ∃ X, c * b = X := ⟨_, rfl⟩
  rw [hX] at h1 h2 ⊢
  rw [hY] at h3 h4 ⊢
  have tX : IntKind.i64.wrap X = X := IntWalk.i64_in _ (by omega)
  have tY : IntKind.i64.wrap Y = Y := IntWalk.i64_in _ (by omega)
  clear h1 h2 h3 h4 bW
  go_enter Tryd.func15, Tryd.ntmps15
  go_wp2_with fail
  go_ret
  exact ⟨rfl, bel.out⟩
theorem validP_any (p q : Int) (w : World) : Calls Tryd.prog 17 #[.agg #[.int .i64 p, .int .i64 q]] w (GivesB w (.bool (okPo p q))) := by
  have bel := hid (box2_bel w 28 (.int .i64 p) (.int .i64 q))
  unfold okPo
  cases h1 : decide (0 ≤ p)
  · go_enter Tryd.func17, Tryd.ntmps17
    go_wp2_with fail
    go_ret
    exact ⟨rfl, bel.out⟩
  cases h2 : decide (p ≤ 1000000000)
  · go_enter Tryd.func17, Tryd.ntmps17
    go_wp2_with fail
    go_ret
    exact ⟨rfl, bel.out⟩
  cases h3 : decide (1 ≤ q)
  · go_enter Tryd.func17, Tryd.ntmps17
    go_wp2_with fail
    go_ret
    exact ⟨rfl, bel.out⟩
  cases h4 : decide (q ≤ 1000000000)
  · go_enter Tryd.func17, Tryd.ntmps17
    go_wp2_with fail
    go_ret
    exact ⟨rfl, bel.out⟩
  · go_enter Tryd.func17, Tryd.ntmps17
    go_wp2_with fail
    go_ret
    exact ⟨rfl, bel.out⟩
theorem atLeast_any (p q k : Int) (h1 : 0 ≤ p * k) (h2 : p * k ≤ 1000000000000000000) (hq : 1 ≤ q ∧ q ≤ 1000000000) (w : World) :
    Calls Tryd.prog 19 #[.agg #[.int .i64 p, .int .i64 q], .int .i64 k] w (GivesB w (.agg #[.int .i64 (sp p q k), .int .i64 k])) := by
  have HC := hid (fun w => ceilDiv_any (p * k) q (by omega) (by omega) w)
  rw [show ceilI (p * k) q = sp p q k from ceilI_eq _ _ hq.1] at HC
  obtain ⟨q0, q1, bW, sW⟩ := two_boxes2 w 28 28 (.int .i64 p) (.int .i64 q) (.int .i64 0) (.int .i64 0) _ rfl
  have bel := hid bW
  obtain ⟨X, hX⟩ : ∃ X, p * k = X := ⟨_, rfl⟩
  rw [hX] at h1 h2 HC
  have tX : IntKind.i64.wrap X = X := IntWalk.i64_in _ (by omega)
  obtain ⟨s, hs⟩ : ∃ s, sp p q k = s := ⟨_, rfl⟩
  rw [hs] at HC ⊢
  clear h1 h2 hq bW q0 q1 sW hs
  go_enter Tryd.func19, Tryd.ntmps19
  go_wp2_with fail
  refine (HC.out _).mono ?_
  rintro e w1 ⟨rfl, rfl⟩
  go_wp2_with fail
  exact bodyPost_ret (v := .agg #[.int .i64 s, .int .i64 k]) (by simp [results, Tryd.results19, go_sem]) rfl ⟨rfl, ((Below.refl _ _).alloc (Nat.le_refl _) _).alloc (by simp) _⟩
end Go.Proofs.YtihadhbgkjbkeaaDoor
