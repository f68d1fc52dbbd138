/- CompareRatios: the program's, the model's and the law's walk. -/
import Derived.Test.YtdlcbfoghpoliaaOpenR
import Derived.Deep.QuietTactic
namespace Go.Proofs.Ytdlcbfoghpoliaa
open Go.RowKit
def cmp3 (a b : Int) : Int := if a < b then -1 else if b < a then 1 else 0
theorem cmp3_lt {a b : Int} (h : a < b) : cmp3 a b = -1 := by simp [cmp3, h]
theorem cmp3_gt {a b : Int} (h : b < a) : cmp3 a b = 1 := by simp [cmp3, h]; omega
theorem cmp3_eq (a : Int) : cmp3 a a = 0 := by simp [cmp3]
theorem cmp3_bd (a b : Int) : -1 ≤ cmp3 a b ∧ cmp3 a b ≤ 1 := by unfold cmp3; split; omega; split <;> omega
def cmpR (p q u v : Int) : Int × Int := if okR p q && okR u v then (cmp3 (p * v) (u * q), 0) else (0, 1)
theorem cmpR_yes {p q u v : Int} (h : okR p q = true) (k : okR u v = true) : cmpR p q u v = (cmp3 (p * v) (u * q), 0) := by simp [cmpR, h, k]
theorem cmpR_no1 {p q u v : Int} (h : okR p q = false) : cmpR p q u v = (0, 1) := by simp [cmpR, h]
theorem cmpR_no2 {p q u v : Int} (k : okR u v = false) : cmpR p q u v = (0, 1) := by simp [cmpR, k]
theorem mul9 {a b : Int} (h1 : 1 ≤ a) (h2 : a ≤ 1000000000) (h3 : 1 ≤ b) (h4 : b ≤ 1000000000) : 1 ≤ a * b ∧ a * b ≤ 1000000000000000000 := by
  have := mul_bd h1 h2 h3 h4
  omega
/-- two ratios in boxes -/
theorem two_ratios (w : World) (T U : TypeId) (a b x y : Value) : ∀ W, W = ((w.alloc (.cells #[a, b] T)).alloc (.cells #[x, y] U)) →
    Row W w.heap.size T [a, b] ∧ Row W (w.heap.size + 1) U [x, y] ∧ Below w.heap.size w W ∧ W.heap.size = w.heap.size + 1 + 1 := by
  rintro W rfl
  have h := Row.new (w.alloc (.cells #[a, b] T)) U [x, y]
  simp only [World.size_alloc] at h
  exact ⟨(Row.new w T [a, b]).alloc _, h, (box2_bel w T a b).alloc (by simp) _, by simp⟩
end Go.Proofs.Ytdlcbfoghpoliaa
