/- NearerRatio: the program's, the model's and the law's walk. -/
import Derived.Test.YteangabkpaamcaaCompare
import Derived.Deep.QuietTactic
namespace Go.Proofs.Yteangabkpaamcaa
open Go.RowKit
def sizeI (n : Int) : Int := if n < 0 then -n else n
theorem sizeI_neg {n : Int} (h : n < 0) : sizeI n = -n := by simp [sizeI, h]
theorem sizeI_pos {n : Int} (h : 0 ≤ n) : sizeI n = n := by simp [sizeI]; omega
/-- three ratios in boxes -/
theorem three_ratios (w : World) (T : TypeId) (a b x y s t : Value) : ∀ W, W = (((w.alloc (.cells #[a, b] T)).alloc (.cells #[x, y] T)).alloc (.cells #[s, t] T)) →
    Row W w.heap.size T [a, b] ∧ Row W (w.heap.size + 1) T [x, y] ∧ Row W (w.heap.size + 2) T [s, t] ∧ Below w.heap.size w W ∧ W.heap.size = w.heap.size + 1 + 1 + 1 := by
  rintro W rfl
  obtain ⟨h1, h2, h3, h4⟩ := two_ratios w T T a b x y _ rfl
  have h := Row.new ((w.alloc (.cells #[a, b] T)).alloc (.cells #[x, y] T)) T [s, t]
  rw [h4] at h
  exact ⟨h1.alloc _, h2.alloc _, h, h3.alloc (by rw [h4]; omega) _, by simp⟩
/-- which of two small ratios is nearer -/
def nearI (p q a b c d : Int) : Int := cmp3 (sizeI (p * b - a * q) * d) (sizeI (p * d - c * q) * b)
theorem size_bd {n B : Int} (h : -B ≤ n ∧ n ≤ B) : 0 ≤ sizeI n ∧ sizeI n ≤ B := by unfold sizeI; split <;> omega
theorem mul12 {a b : Int} (h1 : 1 ≤ a) (h2 : a ≤ 1000000000) (h3 : 1 ≤ b) (h4 : b ≤ 1000) : 1 ≤ a * b ∧ a * b ≤ 1000000000000 := by
  have := mul_bd h1 h2 h3 h4
  omega
theorem mul15 {a b : Int} (h1 : 0 ≤ a) (h2 : a ≤ 1000000000000) (h3 : 1 ≤ b) (h4 : b ≤ 1000) : 0 ≤ a * b ∧ a * b ≤ 1000000000000000 := by
  have x := Int.mul_nonneg h1 (show 0 ≤ b by omega)
  have y := Int.mul_le_mul h2 h4 (by omega) (by omega)
  omega
/-- what the walks want of the numbers -/
structure NearFacts (p q a b c d X Y Z U : Int) : Prop where
  x : p * b = X
  y : a * q = Y
  z : p * d = Z
  u : c * q = U
  bx : 1 ≤ X ∧ X ≤ 1000000000000
  by_ : 1 ≤ Y ∧ Y ≤ 1000000000000
  bz : 1 ≤ Z ∧ Z ≤ 1000000000000
  bu : 1 ≤ U ∧ U ≤ 1000000000000
theorem near_facts {p q a b c d : Int} (hr : okR p q = true) (ha : okR a b = true) (hc : okR c d = true) (sa : a ≤ 1000) (sb : b ≤ 1000) (sc : c ≤ 1000) (sd : d ≤ 1000) : NearFacts p q a b c d (p * b) (a * q) (p * d) (c * q) := by
  obtain ⟨r1, r2, r3, r4, _⟩ := okR_out hr
  obtain ⟨a1, a2, a3, a4, _⟩ := okR_out ha
  obtain ⟨c1, c2, c3, c4, _⟩ := okR_out hc
  exact ⟨rfl, rfl, rfl, rfl, mul12 r1 r2 a3 sb, by rw [Int.mul_comm]; exact mul12 r3 r4 a1 sa, mul12 r1 r2 c3 sd, by rw [Int.mul_comm]; exact mul12 r3 r4 c1 sc⟩
end Go.Proofs.Yteangabkpaamcaa
