/- Plain mathematics of the ratios of first terms. No program in it. -/
import Derived.Below
import Derived.IntWalk
namespace Go.Proofs.Ytgkinoibidkicaa
open Go.RowKit
def zA (zs : List Int) (j : Nat) : Int := zs[j]?.getD 0
/-- the numbers P of the ratios of the first k - 1 and of the first k terms -/
def fP (zs : List Int) : Nat → Int × Int
  | 0 => (0, 1)
  | k + 1 => ((fP zs k).2, zA zs k * (fP zs k).2 + (fP zs k).1)
def fQ (zs : List Int) : Nat → Int × Int
  | 0 => (1, 0)
  | k + 1 => ((fQ zs k).2, zA zs k * (fQ zs k).2 + (fQ zs k).1)
def inTo (zs : List Int) (k : Nat) : Prop := ∀ j, j < k → (fP zs (j + 1)).2 ≤ 1000000000 ∧ (fQ zs (j + 1)).2 ≤ 1000000000
def zTo (zs : List Int) (k : Nat) : Prop := ∀ j, j < k → 0 ≤ zA zs j ∧ zA zs j ≤ 1000000000
theorem mul_add_bd {z l b : Int} (h1 : 0 ≤ z) (h2 : z ≤ 1000000000) (h3 : 0 ≤ l) (h4 : l ≤ 1000000000) (h5 : 0 ≤ b) (h6 : b ≤ 1000000000) : 0 ≤ z * l ∧ z * l ≤ 1000000000000000000 ∧ 0 ≤ z * l + b ∧ z * l + b ≤ 1000000001000000000 := by
  have a := Int.mul_nonneg h1 h3
  have c := Int.mul_le_mul h2 h4 h3 (by omega)
  omega
theorem f_bd {zs : List Int} : ∀ (k : Nat), zTo zs k → inTo zs k → (0 ≤ (fP zs k).1 ∧ (fP zs k).1 ≤ 1000000000 ∧ 0 ≤ (fP zs k).2 ∧ (fP zs k).2 ≤ 1000000000) ∧ (0 ≤ (fQ zs k).1 ∧ (fQ zs k).1 ≤ 1000000000 ∧ 0 ≤ (fQ zs k).2 ∧ (fQ zs k).2 ≤ 1000000000)
  | 0, _, _ => by simp [fP, fQ]
  | k + 1, hz, hi => by
    have ih := f_bd k (fun j hj => hz j (by omega)) (fun j hj => hi j (by omega))
    have z := hz k (by omega)
    have i := hi k (by omega)
    have a := mul_add_bd z.1 z.2 ih.1.2.2.1 ih.1.2.2.2 ih.1.1 ih.1.2.1
    have b := mul_add_bd z.1 z.2 ih.2.2.2.1 ih.2.2.2.2 ih.2.1 ih.2.2.1
    refine ⟨⟨ih.1.2.2.1, ih.1.2.2.2, ?_, i.1⟩, ⟨ih.2.2.2.1, ih.2.2.2.2, ?_, i.2⟩⟩
    · exact a.2.2.1
    · exact b.2.2.1
def inF (zs : List Int) : Bool := decide (∀ j, j < zs.length → (fP zs (j + 1)).2 ≤ 1000000000 ∧ (fQ zs (j + 1)).2 ≤ 1000000000)
theorem inF_yes {zs : List Int} (h : inTo zs zs.length) : inF zs = true := by simp only [inF, decide_eq_true_eq]; exact h
theorem inF_no {zs : List Int} (k : Nat) (hk : k < zs.length) (h : ¬ ((fP zs (k + 1)).2 ≤ 1000000000 ∧ (fQ zs (k + 1)).2 ≤ 1000000000)) : inF zs = false := by
  simp only [inF, decide_eq_false_iff_not]
  exact fun a => h (a k hk)
theorem inTo_succ {zs : List Int} {k : Nat} (h : inTo zs k) (h1 : (fP zs (k + 1)).2 ≤ 1000000000) (h2 : (fQ zs (k + 1)).2 ≤ 1000000000) : inTo zs (k + 1) := fun j hj => by
  by_cases e : j = k
  · subst e; exact ⟨h1, h2⟩
  · exact h j (by omega)
/-- which terms are in range -/
def tOk (zs : List Int) (k : Nat) : Prop := ∀ j, j < k → (0 ≤ zA zs j ∧ zA zs j ≤ 1000000000) ∧ (0 < j → 1 ≤ zA zs j)
def okF (zs : List Int) : Bool := decide ((1 ≤ zs.length ∧ zs.length ≤ 60) ∧ (∀ j, j < zs.length → (0 ≤ zA zs j ∧ zA zs j ≤ 1000000000) ∧ (0 < j → 1 ≤ zA zs j)) ∧ (zs.length = 1 → 1 ≤ zA zs 0))
theorem okF_len {zs : List Int} (h : zs.length < 1 ∨ 60 < zs.length) : okF zs = false := by
  simp only [okF, decide_eq_false_iff_not]; omega
theorem okF_bad {zs : List Int} (k : Nat) (hk : k < zs.length) (h : ¬ ((0 ≤ zA zs k ∧ zA zs k ≤ 1000000000) ∧ (0 < k → 1 ≤ zA zs k))) : okF zs = false := by
  simp only [okF, decide_eq_false_iff_not]
  exact fun a => h (a.2.1 k hk)
theorem okF_one {zs : List Int} (h1 : zs.length = 1) (h : zA zs 0 < 1) : okF zs = false := by
  simp only [okF, decide_eq_false_iff_not]
  intro a
  have := a.2.2 h1
  omega
theorem okF_yes {zs : List Int} (h1 : 1 ≤ zs.length ∧ zs.length ≤ 60) (h : tOk zs zs.length) (h2 : zs.length = 1 → 1 ≤ zA zs 0) : okF zs = true := by
  simp only [okF, decide_eq_true_eq]
  exact ⟨h1, h, h2⟩
theorem okF_out {zs : List Int} (h : okF zs = true) : (1 ≤ zs.length ∧ zs.length ≤ 60) ∧ zTo zs zs.length := by
  simp only [okF, decide_eq_true_eq] at h
  exact ⟨h.1, fun j hj => (h.2.1 j hj).1⟩
theorem tOk_succ {zs : List Int} {k : Nat} (h : tOk zs k) (h1 : (0 ≤ zA zs k ∧ zA zs k ≤ 1000000000) ∧ (0 < k → 1 ≤ zA zs k)) : tOk zs (k + 1) := fun j hj => by
  by_cases e : j = k
  · subst e; exact h1
  · exact h j (by omega)
def fromR (zs : List Int) : (Int × Int) × Int := if okF zs then (if inF zs then (((fP zs zs.length).2, (fQ zs zs.length).2), 0) else ((0, 0), 3)) else ((0, 0), 2)
end Go.Proofs.Ytgkinoibidkicaa
