/- Meters: what has been counted; the program's and the model's answers. -/
import Derived.Test.YtbefbkklompcjaaDoorMetV
namespace Go.Proofs.YtbefbkklompcjaaDoor
open Go.RowKit
/-- the code of a meter and a flow -/
def askI (zs : List Int) (x y s f : Int) : Int := if okMe zs x y s then (if 0 ≤ f ∧ f ≤ 1000000000000 then 0 else 2) else 1
theorem askI_no {zs : List Int} {x y s f : Int} (h : okMe zs x y s = false) : askI zs x y s f = 1 := by simp [askI, h]
theorem askI_range {zs : List Int} {x y s f : Int} (h : okMe zs x y s = true) (k : ¬ (0 ≤ f ∧ f ≤ 1000000000000)) : askI zs x y s f = 2 := by rw [askI, h, if_pos rfl, if_neg k]
theorem askI_yes {zs : List Int} {x y s f : Int} (h : okMe zs x y s = true) (k : 0 ≤ f ∧ f ≤ 1000000000000) : askI zs x y s f = 0 := by rw [askI, h, if_pos rfl, if_pos k]
/-- what has been counted, with a code -/
def cntA (zs : List Int) (x y s f : Int) : Int × Int := if askI zs x y s f = 0 then (f * x / y, 0) else (0, askI zs x y s f)
theorem cntA_no {zs : List Int} {x y s f : Int} (h : okMe zs x y s = false) : cntA zs x y s f = (0, 1) := by rw [cntA, askI_no h]; rfl
theorem cntA_range {zs : List Int} {x y s f : Int} (h : okMe zs x y s = true) (k : ¬ (0 ≤ f ∧ f ≤ 1000000000000)) : cntA zs x y s f = (0, 2) := by rw [cntA, askI_range h k]; rfl
theorem cntA_yes {zs : List Int} {x y s f : Int} (h : okMe zs x y s = true) (k : 0 ≤ f ∧ f ≤ 1000000000000) : cntA zs x y s f = (f * x / y, 0) := by rw [cntA, askI_yes h k]; rfl
theorem mul_upto {f x : Int} (h1 : 0 ≤ f) (h2 : f ≤ 1000000000000) (h3 : 1 ≤ x) (h4 : x ≤ 1000) : 0 ≤ f * x ∧ f * x ≤ 1000000000000000 := by
  have a := Int.mul_nonneg h1 (show 0 ≤ x by omega)
  have b := Int.mul_le_mul_of_nonneg_left h4 h1
  omega
theorem quo_bd {X y : Int} (h : 0 ≤ X) (hy : 1 ≤ y) : X.tdiv y = X / y ∧ 0 ≤ X / y ∧ X / y ≤ X := by
  refine ⟨Int.tdiv_eq_ediv_of_nonneg h, Int.ediv_nonneg h (by omega), Int.ediv_le_self _ h⟩
theorem of_any (P Q n : Int) (h0 : 0 ≤ n * P) (h1 : n * P ≤ 9000000000000000000) (hQ : 1 ≤ Q) (w : World) :
    Calls Tryd.prog 58 #[.agg #[.int .i64 P, .int .i64 Q], .int .i64 n] w (GivesB w (.int .i64 (n * P / Q))) := by
  have bel := hid (box2_bel w 25 (.int .i64 P) (.int .i64 Q))
  obtain ⟨X, hX⟩ : ∃ X, n * P = X := ⟨_, rfl⟩
  rw [hX] at h0 h1 ⊢
  obtain ⟨e1, e2, e3⟩ := quo_bd h0 hQ
  obtain ⟨r, hr⟩ : ∃ r, X / Q = r := ⟨_, rfl⟩
  rw [hr] at e1 e2 e3 ⊢
  have tX : IntKind.i64.wrap X = X := IntWalk.i64_in _ (by omega)
  have tr : IntKind.i64.wrap r = r := IntWalk.i64_in _ (by omega)
  have nQ : Q ≠ 0 := by omega
  clear e2 e3 h0 h1 hQ
  go_enter Tryd.func58, Tryd.ntmps58
  go_wp2_with fail
  go_ret
  exact ⟨rfl, bel.out⟩
end Go.Proofs.YtbefbkklompcjaaDoor
