/- Two stacks held against each other. -/
import Derived.Test.YtfifnngdmhdkiaaGreatDoorMgP
namespace Go.Proofs.YtfifnngdmhdkiaaGreatDoor
open Go.RowKit
/-! two stacks held against each other -/
def sameL (xs ys : List Int) : Bool := decide (xs = ys)
theorem sameL_len {xs ys : List Int} (h : xs.length ≠ ys.length) : sameL xs ys = false := by
  simp only [sameL, decide_eq_false_iff_not]; intro e; exact h (by rw [e])
theorem sameL_at {xs ys : List Int} (k : Nat) (h : xs[k]?.getD 0 ≠ ys[k]?.getD 0) : sameL xs ys = false := by
  simp only [sameL, decide_eq_false_iff_not]; intro e; exact h (by rw [e])
theorem sameL_all {xs ys : List Int} (hl : xs.length = ys.length) (h : ∀ j, j < xs.length → xs[j]?.getD 0 = ys[j]?.getD 0) : sameL xs ys = true := by
  simp only [sameL, decide_eq_true_eq]
  apply List.ext_getElem hl
  intro i h1 h2
  have := h i h1
  simpa [h1, h2] using this
def sameTo (xs ys : List Int) (k : Nat) : Prop := ∀ j, j < k → xs[j]?.getD 0 = ys[j]?.getD 0
theorem sameTo_succ {xs ys : List Int} {k : Nat} (h : sameTo xs ys k) (e : xs[k]?.getD 0 = ys[k]?.getD 0) : sameTo xs ys (k + 1) := fun j hj => by
  by_cases h' : j = k
  · rw [h']; exact e
  · exact h j (by omega)
set_option maxHeartbeats 1000000 in
theorem slicesEqual_any (b1 b2 n1 n2 c1 c2 : Nat) (xs ys : List Int) (w : World) (h1 : Stk w b1 xs) (h2 : Stk w b2 ys) (hn1 : n1 = xs.length) (hn2 : n2 = ys.length) :
    Calls Tryz.prog 44 #[.slice (some ⟨b1, 0, none⟩) n1 c1, .slice (some ⟨b2, 0, none⟩) n2 c2] w fun e w' => e = .returned (.bool (sameL xs ys)) ∧ Below w.heap.size w w' := by
  have hC1 := hid h1.2.1
  have hC2 := hid h2.2.1
  have hl := h1.2.2.2
  have hl2 := h2.2.2.2
  rw [← hn1] at hl
  rw [← hn2] at hl2
  have hN1 := hid hn1
  have hN2 := hid hn2
  clear h1 h2 hn1 hn2
  by_cases hne : n1 = n2
  · have HE : Hid (n1 = n2) := hid hne
    subst hne
    have hne : ((n1 : Int) != (n1 : Int)) = false := by simp
    go_enter Tryz.func44, Tryz.ntmps44
    go_wp2
    go_loopw [13] (fun i wr => ∃ k : Nat, k ≤ n1 ∧ i = .int .i64 k ∧ sameTo xs ys k ∧ ∃ d, wr = w.drewN d) (fun i _ => n1 - (intOf i).toNat)
    case atStart => exact ⟨0, Nat.zero_le _, rfl, fun j h => by omega, 0, rfl⟩
    case round =>
      obtain ⟨k, hk, rfl, hS, d, rfl⟩ := hrel
      by_cases hlt : k < n1
      · have hx1 := hC1.out k (by rw [← hN1.out]; exact hlt)
        have hx2 := hC2.out k (by rw [← hN2.out]; exact hlt)
        have hlt' : (k : Int) < (n1 : Int) := by omega
        have HF := hid (@sameL_at xs ys k)
        have HG := hid (@sameTo_succ xs ys k hS)
        clear hS
        obtain ⟨x, hx⟩ : ∃ x, x = xs[k]?.getD 0 := ⟨_, rfl⟩
        obtain ⟨y, hy⟩ : ∃ y, y = ys[k]?.getD 0 := ⟨_, rfl⟩
        rw [← hx] at hx1 HF HG
        rw [← hy] at hx2 HF HG
        clear hx hy
        by_cases hxy : x = y
        · have HG' := hid (HG.out hxy)
          subst hxy
          have hb : (x != x) = false := by simp
          go_wp2
          go_quiet (fail)
          go_wp2
          all_goals go_roundw
          case rel => exact ⟨k + 1, by omega, by go_num, HG'.out, _, rfl⟩
          case measure => simp [intOf]; omega
        · have hb : (x != y) = true := by rw [bne_iff_ne]; exact hxy
          have HF' := hid (HF.out hxy)
          clear hxy
          go_wp2
          go_quiet (fail)
          go_wp2
          go_ret
          exact ⟨by rw [HF'.out]; rfl, below_drewN (below_drewN (Below.refl _ _) d) _⟩
      · obtain rfl : k = n1 := by omega
        have HF := hid (sameL_all (by rw [← hN1.out, ← hN2.out]) (fun j hj => hS j (by rw [hN1.out]; exact hj)))
        clear hS
        go_wp2
        go_ret
        exact ⟨by rw [HF.out]; rfl, below_drewN (Below.refl _ _) d⟩
  · have hb : ((n1 : Int) != (n2 : Int)) = true := by rw [bne_iff_ne]; omega
    have HF := hid (@sameL_len xs ys (by rw [← hN1.out, ← hN2.out]; exact hne))
    clear hne
    go_enter Tryz.func44, Tryz.ntmps44
    go_wp2
    go_ret
    exact ⟨by rw [HF.out]; rfl, Below.refl _ _⟩
set_option maxHeartbeats 1000000 in
theorem l01Same_any (b1 b2 n1 n2 c1 c2 : Nat) (xs ys : List Int) (w : World) (h1 : Stk w b1 xs) (h2 : Stk w b2 ys) (hn1 : n1 = xs.length) (hn2 : n2 = ys.length) :
    Calls Tryz.prog 43 #[.slice (some ⟨b1, 0, none⟩) n1 c1, .slice (some ⟨b2, 0, none⟩) n2 c2] w fun e w' => e = .returned (.bool (sameL xs ys)) ∧ Below w.heap.size w w' := by
  have hC1 := hid h1.2.1
  have hC2 := hid h2.2.1
  have hl := h1.2.2.2
  have hl2 := h2.2.2.2
  rw [← hn1] at hl
  rw [← hn2] at hl2
  have hN1 := hid hn1
  have hN2 := hid hn2
  clear h1 h2 hn1 hn2
  by_cases hne : n1 = n2
  · have HE : Hid (n1 = n2) := hid hne
    subst hne
    have hne : ((n1 : Int) != (n1 : Int)) = false := by simp
    go_enter Tryz.func43, Tryz.ntmps43
    go_wp2
    go_loopw [5] (fun i wr => ∃ k : Nat, k ≤ n1 ∧ i = .int .i64 k ∧ sameTo xs ys k ∧ ∃ d, wr = w.drewN d) (fun i _ => n1 - (intOf i).toNat)
    case atStart => exact ⟨0, Nat.zero_le _, rfl, fun j h => by omega, 0, rfl⟩
    case round =>
      obtain ⟨k, hk, rfl, hS, d, rfl⟩ := hrel
      by_cases hlt : k < n1
      · have hx1 := hC1.out k (by rw [← hN1.out]; exact hlt)
        have hx2 := hC2.out k (by rw [← hN2.out]; exact hlt)
        have hlt' : (k : Int) < (n1 : Int) := by omega
        have HF := hid (@sameL_at xs ys k)
        have HG := hid (@sameTo_succ xs ys k hS)
        clear hS
        obtain ⟨x, hx⟩ : ∃ x, x = xs[k]?.getD 0 := ⟨_, rfl⟩
        obtain ⟨y, hy⟩ : ∃ y, y = ys[k]?.getD 0 := ⟨_, rfl⟩
        rw [← hx] at hx1 HF HG
        rw [← hy] at hx2 HF HG
        clear hx hy
        by_cases hxy : x = y
        · have HG' := hid (HG.out hxy)
          subst hxy
          have hb : (x != x) = false := by simp
          go_wp2
          go_quiet (fail)
          go_wp2
          all_goals go_roundw
          case rel => exact ⟨k + 1, by omega, by go_num, HG'.out, _, rfl⟩
          case measure => simp [intOf]; omega
        · have hb : (x != y) = true := by rw [bne_iff_ne]; exact hxy
          have HF' := hid (HF.out hxy)
          clear hxy
          go_wp2
          go_quiet (fail)
          go_wp2
          go_ret
          exact ⟨by rw [HF'.out]; rfl, below_drewN (below_drewN (Below.refl _ _) d) _⟩
      · obtain rfl : k = n1 := by omega
        have HF := hid (sameL_all (by rw [← hN1.out, ← hN2.out]) (fun j hj => hS j (by rw [hN1.out]; exact hj)))
        clear hS
        go_wp2
        go_ret
        exact ⟨by rw [HF.out]; rfl, below_drewN (Below.refl _ _) d⟩
  · have hb : ((n1 : Int) != (n2 : Int)) = true := by rw [bne_iff_ne]; omega
    have HF := hid (@sameL_len xs ys (by rw [← hN1.out, ← hN2.out]; exact hne))
    clear hne
    go_enter Tryz.func43, Tryz.ntmps43
    go_wp2
    go_ret
    exact ⟨by rw [HF.out]; rfl, Below.refl _ _⟩

theorem implSame_any (b1 b2 n1 n2 c1 c2 : Nat) (xs ys : List Int) (w : World) (h1 : Stk w b1 xs) (h2 : Stk w b2 ys) (hn1 : n1 = xs.length) (hn2 : n2 = ys.length) :
    Calls Tryz.prog 16 #[.slice (some ⟨b1, 0, none⟩) n1 c1, .slice (some ⟨b2, 0, none⟩) n2 c2] w fun e w' => e = .returned (.bool (sameL xs ys)) ∧ Below w.heap.size w w' := by
  have H1 := hid h1; have H2 := hid h2; have N1 := hid hn1; have N2 := hid hn2
  clear h1 h2 hn1 hn2
  go_enter Tryz.func16, Tryz.ntmps16
  go_wp2_with (go_at_call 44; refine (slicesEqual_any _ _ _ _ _ _ xs ys _ H1.out H2.out N1.out N2.out).mono ?_; rintro e w' ⟨rfl, hB⟩)
  go_ret
  exact ⟨rfl, hB⟩
theorem specSame_any (b1 b2 n1 n2 c1 c2 : Nat) (xs ys : List Int) (w : World) (h1 : Stk w b1 xs) (h2 : Stk w b2 ys) (hn1 : n1 = xs.length) (hn2 : n2 = ys.length) :
    Calls Tryz.prog 15 #[.slice (some ⟨b1, 0, none⟩) n1 c1, .slice (some ⟨b2, 0, none⟩) n2 c2] w fun e w' => e = .returned (.bool (sameL xs ys)) ∧ Below w.heap.size w w' := by
  have H1 := hid h1; have H2 := hid h2; have N1 := hid hn1; have N2 := hid hn2
  clear h1 h2 hn1 hn2
  go_enter Tryz.func15, Tryz.ntmps15
  go_wp2_with (go_at_call 43; refine (l01Same_any _ _ _ _ _ _ xs ys _ H1.out H2.out N1.out N2.out).mono ?_; rintro e w' ⟨rfl, hB⟩)
  go_ret
  exact ⟨rfl, hB⟩
end Go.Proofs.YtfifnngdmhdkiaaGreatDoor
