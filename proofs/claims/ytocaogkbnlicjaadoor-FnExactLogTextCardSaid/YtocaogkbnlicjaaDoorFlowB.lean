/- Possible counts, the program's: the least and the greatest one; which readings and flows are valid. -/
import Derived.Test.YtocaogkbnlicjaaDoorFlowA
import Derived.OrdersHeld
namespace Go.Proofs.YtocaogkbnlicjaaDoor
open Go.RowKit
theorem bel_step {W w w' : World} (h : Below W.heap.size W w) (hB : Below w.heap.size w w') : Below W.heap.size W w' := h.trans (hB.mono h.size)
def tup2 (x y : Int) : Value := .tuple #[.int .i64 x, .int .i64 y]
/-- an interval's box and a flow's -/
theorem ivfl_boxes (w : World) (T T' : TypeId) (a b c d x y : Value) : ∀ W, W = ((w.alloc (.cells #[a, b, c, d] T)).alloc (.cells #[x, y] T')) →
    Row W w.heap.size T [a, b, c, d] ∧ Row W (w.heap.size + 1) T' [x, y] ∧ Below w.heap.size w W ∧ W.heap.size = w.heap.size + 1 + 1 := by
  rintro W rfl
  have h := Row.new (w.alloc (.cells #[a, b, c, d] T)) T' [x, y]
  simp only [World.size_alloc] at h
  exact ⟨(Row.new w T [a, b, c, d]).alloc _, h, (box4_bel w T a b c d).alloc (by simp) _, by simp⟩
theorem mul_small (x d : Int) (hx : 0 ≤ x ∧ x ≤ 1000000) (hd : 0 ≤ d ∧ d ≤ 100000) : 0 ≤ x * d ∧ x * d ≤ 100000000000 := by
  have := Int.mul_nonneg hx.1 hd.1
  have h1 := Int.mul_le_mul_of_nonneg_right hx.2 hd.1
  have h2 := Int.mul_le_mul_of_nonneg_left hd.2 (show (0 : Int) ≤ 1000000 by omega)
  omega
theorem okF_low {lo hi : Int} (h : lo < 0) : okF lo hi = false := by simp [okF]; omega
theorem okF_mid {lo hi : Int} (h : hi < lo) : okF lo hi = false := by simp [okF]; omega
theorem okF_high {lo hi : Int} (h : 1000000 < hi) : okF lo hi = false := by simp [okF]; omega
theorem okF_yes {lo hi : Int} (h1 : 0 ≤ lo) (h2 : lo ≤ hi) (h3 : hi ≤ 1000000) : okF lo hi = true := by simp [okF]; omega
theorem okF_out {lo hi : Int} (h : okF lo hi = true) : 0 ≤ lo ∧ lo ≤ hi ∧ hi ≤ 1000000 := by simpa [okF] using h
theorem hasValue_any (bS n cap : Nat) (zs : List Int) (hn : n = zs.length) (hv : okL zs = true) (x : Int) (w : World) (hS : Stk w bS zs) :
    Calls Tryd.prog 106 #[.slice (some ⟨bS, 0, none⟩) n cap, .int .i64 x] w (GivesB w (.bool (decide (0 ≤ x ∧ x < szL zs)))) := by
  have Z := hid (size_any bS n cap zs hn hv w hS)
  obtain ⟨_, _, _, z1, z2⟩ := okL_out hv
  obtain ⟨z, hz⟩ : ∃ z, szL zs = z := ⟨_, rfl⟩
  rw [hz] at Z z1 z2 ⊢
  clear hz hv hn hS
  by_cases h1 : x < 0
  · rw [decide_eq_false (by omega)]
    go_enter Tryd.func106, Tryd.ntmps106
    go_wp2_with fail
    go_ret
    exact ⟨rfl, Below.refl _ _⟩
  by_cases h2 : x < z
  · rw [decide_eq_true (by omega)]
    go_enter Tryd.func106, Tryd.ntmps106
    go_wp2_with fail
    refine Z.out.mono ?_
    rintro e w1 ⟨rfl, hB⟩
    go_wp2_with fail
    go_ret
    exact ⟨rfl, hB⟩
  · rw [decide_eq_false (by omega)]
    go_enter Tryd.func106, Tryd.ntmps106
    go_wp2_with fail
    refine Z.out.mono ?_
    rintro e w1 ⟨rfl, hB⟩
    go_wp2_with fail
    go_ret
    exact ⟨by show Ending.returned (.bool (decide (x < z))) = _; rw [decide_eq_false (by omega)], hB⟩
theorem okRd_low {z d v : Int} (h : d < 0) : okRd z d v = false := by simp [okRd]; omega
theorem okRd_high {z d v : Int} (h : 100000 < d) : okRd z d v = false := by simp [okRd]; omega
theorem okRd_val {z d v : Int} (h1 : 0 ≤ d) (h2 : d ≤ 100000) : okRd z d v = decide (0 ≤ v ∧ v < z) := by simp [okRd, h1, h2]
theorem okRd_out {z d v : Int} (h : okRd z d v = true) : 0 ≤ d ∧ d ≤ 100000 ∧ 0 ≤ v ∧ v < z := by simpa [okRd] using h
theorem hasReading_any (bS n cap : Nat) (zs : List Int) (hn : n = zs.length) (hv : okL zs = true) (d x : Int) (w : World) (hS : Stk w bS zs) :
    Calls Tryd.prog 75 #[.slice (some ⟨bS, 0, none⟩) n cap, .agg #[.int .i64 d, .int .i64 x]] w (GivesB w (.bool (okRd (szL zs) d x))) := by
  have bel := hid (box2_bel w 81 (.int .i64 d) (.int .i64 x))
  by_cases h1 : d < 0
  · rw [okRd_low h1]
    go_enter Tryd.func75, Tryd.ntmps75
    go_wp2_with fail
    go_ret
    exact ⟨rfl, bel.out⟩
  by_cases h2 : 100000 < d
  · rw [okRd_high h2]
    go_enter Tryd.func75, Tryd.ntmps75
    go_wp2_with fail
    go_ret
    exact ⟨rfl, bel.out⟩
  rw [okRd_val (by omega) (by omega)]
  have HV := hid (hasValue_any bS n cap zs hn hv x _ (hS.below bel.out hS.1))
  obtain ⟨r, hr⟩ : ∃ r, decide (0 ≤ x ∧ x < szL zs) = r := ⟨_, rfl⟩
  rw [hr] at HV ⊢
  clear hr hv hn hS
  go_enter Tryd.func75, Tryd.ntmps75
  go_wp2_with fail
  refine HV.out.mono ?_
  rintro e w1 ⟨rfl, hB⟩
  have b1 := hid (bel.out.trans (hB.mono (by simp)))
  clear hB
  go_wp2_with fail
  go_ret
  exact ⟨rfl, b1.out⟩
end Go.Proofs.YtocaogkbnlicjaaDoor
