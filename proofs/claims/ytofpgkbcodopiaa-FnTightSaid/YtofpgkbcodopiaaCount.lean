/- CountWith: the program's and the model's answers. -/
import Derived.Test.YtofpgkbcodopiaaSizes
namespace Go.Proofs.Ytofpgkbcodopiaa
open Go.RowKit

def hdB (zs : List Int) (k x : Int) : Prop := (0 ≤ k ∧ k < zs.length) ∧ 0 ≤ x ∧ x < zs[k.toNat]?.getD 0
/-- how many values less than e have a digit x on a wheel with the place p and the base z -/
def belowF (p z x e : Int) : Int := e / (p * z) * p + min (max (e % (p * z) - x * p) 0) p
theorem belowF_bd (p z x e : Int) (hp : 1 ≤ p) (hz : 2 ≤ z) (he : 0 ≤ e) : 0 ≤ belowF p z x e ∧ belowF p z x e ≤ e + p := by
  unfold belowF
  have hc : 1 * 1 ≤ p * z := Int.mul_le_mul hp (by omega) (by omega) (by omega)
  have h0 := Int.ediv_nonneg he (show 0 ≤ p * z by omega)
  have h1 : 0 ≤ e / (p * z) * p := Int.mul_nonneg h0 (by omega)
  have h2 : e / (p * z) * p ≤ e / (p * z) * (p * z) := Int.mul_le_mul_of_nonneg_left (by have : p * 1 ≤ p * z := Int.mul_le_mul_of_nonneg_left (by omega) (by omega); omega) h0
  have h3 := Int.ediv_mul_le e (show p * z ≠ 0 by omega)
  omega

theorem hasValue_yes (b n cap : Nat) (zs : List Int) (v : Int) (w : World) (h : Stk w b zs) (hn : n = zs.length) (hv : okL zs = true) (hx : 0 ≤ v ∧ v < szL zs) :
    Calls Try.prog 58 #[.slice (some ⟨b, 0, none⟩) n cap, .int .i64 v] w fun e w' => e = .returned (.bool true) ∧ Below w.heap.size w w' := by
  have hX := hid (size_any b n cap zs hn hv w h)
  clear h hn hv
  have d0 : decide (0 ≤ v) = true := by simp; omega
  have d1 : decide (v < szL zs) = true := by simp; omega
  go_enter Try.func58, Try.ntmps58
  go_wp2_with (go_at_call 50; refine hX.out.mono ?_; rintro e w' ⟨rfl, hB⟩)
  go_ret
  exact ⟨rfl, hB⟩
theorem hasValue_no (b n cap : Nat) (zs : List Int) (v : Int) (w : World) (h : Stk w b zs) (hn : n = zs.length) (hv : okL zs = true) (hx : ¬ (0 ≤ v ∧ v < szL zs)) :
    Calls Try.prog 58 #[.slice (some ⟨b, 0, none⟩) n cap, .int .i64 v] w fun e w' => e = .returned (.bool false) ∧ Below w.heap.size w w' := by
  have hX := hid (size_any b n cap zs hn hv w h)
  clear h hn hv
  by_cases h0 : 0 ≤ v
  · have d0 : decide (0 ≤ v) = true := by simp; omega
    have d1 : decide (v < szL zs) = false := by simp; omega
    have d2 : szL zs ≤ v := by omega
    clear hx
    go_enter Try.func58, Try.ntmps58
    go_wp2_with (go_at_call 50; refine hX.out.mono ?_; rintro e w' ⟨rfl, hB⟩)
    go_ret
    exact ⟨rfl, hB⟩
  · have d0 : decide (0 ≤ v) = false := by simp; omega
    clear hx
    go_enter Try.func58, Try.ntmps58
    go_wp2_with fail
    go_ret
    exact ⟨rfl, Below.refl _ _⟩
theorem max_any (a b : Int) (w : World) : Calls Try.prog 27 #[.int .i64 a, .int .i64 b] w fun e w' => e = .returned (.int .i64 (max a b)) ∧ w = w' := by
  by_cases h : b < a
  · have hm := hid (show max a b = a from by omega)
    go_enter Try.func27, Try.ntmps27
    go_wp2
    go_ret
    exact ⟨by rw [hm.out]; rfl, rfl⟩
  · have hm := hid (show max a b = b from by omega)
    go_enter Try.func27, Try.ntmps27
    go_wp2
    go_ret
    exact ⟨by rw [hm.out]; rfl, rfl⟩

end Go.Proofs.Ytofpgkbcodopiaa
