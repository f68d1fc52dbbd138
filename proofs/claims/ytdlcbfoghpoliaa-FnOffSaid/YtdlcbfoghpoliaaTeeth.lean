/- Ratchets: the teeth, a turn that is refused, the last tooth. -/
import Derived.Test.YtdlcbfoghpoliaaBase
import Derived.RegionTactic
import Derived.Deep.RegionWith
import Derived.Defers
import Derived.Recover
import Derived.OrdersHeld
import Derived.Laws.Pointers
namespace Go.Proofs.Ytdlcbfoghpoliaa
open Go.RowKit

theorem quiet_same {P : Program} {f : FuncId} {args : Array Value} {w : World} {n : Nat} {v : Value}
    (h : Calls P f args (w.drewN n) fun e w' => e = .returned v ∧ w.drewN n = w') : Calls P f args (w.drewN n) fun e w'' => e = .returned v ∧ ∃ m, w'' = w.drewN m :=
  h.mono fun _ _ ⟨he, hm⟩ => ⟨he, n, hm.symm⟩
def teethB (t : Int) : Bool := decide (1 ≤ t) && decide (t ≤ 1000) && decide (1000 % t = 0)
theorem teethB_low {t : Int} (h : t < 1) : teethB t = false := by simp only [teethB, decide_eq_false (show ¬ 1 ≤ t by omega)]; rfl
theorem teethB_high {t : Int} (h : 1000 < t) : teethB t = false := by simp only [teethB, decide_eq_false (show ¬ t ≤ 1000 by omega)]; simp
theorem teethB_mid {t : Int} (h1 : 1 ≤ t) (h2 : t ≤ 1000) : teethB t = decide (1000 % t = 0) := by simp [teethB, h1, h2]
theorem teethB_out {t : Int} (h : teethB t = true) : 1 ≤ t ∧ t ≤ 1000 ∧ 1000 % t = 0 := by
  simp only [teethB, Bool.and_eq_true, decide_eq_true_eq] at h
  exact ⟨h.1.1, h.1.2, h.2⟩
/-- how far two teeth are apart -/
def gapOf (t : Int) : Int := 1000 / t
theorem gap_bd {t : Int} (h1 : 1 ≤ t) (h2 : t ≤ 1000) : 1 ≤ gapOf t ∧ gapOf t ≤ 1000 := by
  have a := Int.ediv_le_self t (show (0 : Int) ≤ 1000 by decide)
  have b : 1 * t ≤ 1000 := by omega
  have c := (Int.le_ediv_iff_mul_le (show 0 < t by omega) (a := 1) (b := 1000)).2 b
  exact ⟨c, a⟩

theorem emod_le_self (a g : Int) (h : 0 ≤ a) (hg : 1 ≤ g) : a % g ≤ a := by
  have e := Int.mul_ediv_add_emod a g
  have q := Int.ediv_nonneg h (show 0 ≤ g by omega)
  have := Int.mul_nonneg (show 0 ≤ g by omega) q
  omega
end Go.Proofs.Ytdlcbfoghpoliaa
