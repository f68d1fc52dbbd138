/- Ratchets: bytes as numbers; the numbers. -/
import Derived.Test.YtpnhmncamcdipaaRtA
namespace Go.Proofs.Ytpnhmncamcdipaa
open Go.RowKit
set_option linter.unusedVariables false
set_option linter.unusedSimpArgs false
def NumIn (lo hi : Int) (w : World) (e : Ending) (w' : World) : Prop := ∃ x : Int, lo ≤ x ∧ x < hi ∧ e = .returned (.int .i64 x) ∧ w = w'
theorem a2Long_yes (a : Option Addr) (len cap : Nat) (a' : Option Addr) (len' cap' : Nat) (w : World) (h : 3000 < len ∨ 3000 < len') :
    Calls Try.prog 4 #[.slice a len cap, .slice a' len' cap'] w fun e w' => e = .returned (.bool true) ∧ w = w' := by
  by_cases h1 : 3000 < len
  · clear h
    go_enter Try.func4, Try.ntmps4
    go_wp2_with fail
    go_ret
    exact ⟨rfl, rfl⟩
  · have h2 : 3000 < len' := by omega
    have h3 : len ≤ 3000 := by omega
    have d1 : decide (3000 < (len : Int)) = false := by simp; omega
    have d2 : decide (3000 < (len' : Int)) = true := by simp; omega
    clear h h1
    go_enter Try.func4, Try.ntmps4
    go_wp2_with fail
    go_ret
    exact ⟨rfl, rfl⟩
theorem a2Long_no (a : Option Addr) (len cap : Nat) (a' : Option Addr) (len' cap' : Nat) (w : World) (h : len ≤ 3000) (h' : len' ≤ 3000) :
    Calls Try.prog 4 #[.slice a len cap, .slice a' len' cap'] w fun e w' => e = .returned (.bool false) ∧ w = w' := by
  have d1 : decide (3000 < (len : Int)) = false := by simp; omega
  have d2 : decide (3000 < (len' : Int)) = false := by simp; omega
  go_enter Try.func4, Try.ntmps4
  go_wp2_with fail
  go_ret
  exact ⟨rfl, rfl⟩
theorem a2At_any (a : Option Addr) (len cap : Nat) (zs : List Int) (k : Nat) (n : Int) (w : World) (h : InB w a len zs) (hl : len ≤ 3000) (hk : k ≤ 3000) (hn : 1 ≤ n ∧ n ≤ 1000000) :
    Calls Try.prog 5 #[.slice a len cap, .int .i64 (k : Int), .int .i64 n] w (NumIn 0 n w) := by
  by_cases hlt : k < len
  · rcases h.2.2 with h0 | ⟨b, off, rfl, hb, hc⟩
    · omega
    have hx := hc k hlt
    have zb : 0 ≤ zs[k]?.getD 0 ∧ zs[k]?.getD 0 ≤ 255 := by
      have := h.2.1 (zs[k]'(by rw [h.1]; exact hlt)) (List.getElem_mem _)
      simpa [show k < zs.length from by rw [h.1]; exact hlt] using this
    obtain ⟨x, hxx⟩ : ∃ x, x = zs[k]?.getD 0 := ⟨_, rfl⟩
    rw [← hxx] at hx zb
    have e1 : x.tmod n = x % n := Int.tmod_eq_emod_of_nonneg zb.1
    have m0 := Int.emod_nonneg x (show n ≠ 0 by omega)
    have m1 := Int.emod_lt_of_pos x (show 0 < n by omega)
    obtain ⟨r, hr⟩ : ∃ r, r = x % n := ⟨_, rfl⟩
    rw [← hr] at e1 m0 m1
    have n0 : n ≠ 0 := by omega
    have hlt' : (k : Int) < (len : Int) := by omega
    have d2 : decide (n < 1) = false := by simp; omega
    clear h hc hxx hr
    go_enter Try.func5, Try.ntmps5
    go_wp2_with fail
    go_ret
    exact ⟨r, m0, m1, rfl, rfl⟩
  · have hge : (len : Int) ≤ (k : Int) := by omega
    clear h
    go_enter Try.func5, Try.ntmps5
    go_wp2_with fail
    go_ret
    exact ⟨0, by omega, by omega, rfl, rfl⟩


theorem go1_pos {g n m : Int} (h : 0 ≤ m) (hg : 1 ≤ g) : go1 g n m = n + m := by
  have := Int.emod_nonneg n (show g ≠ 0 by omega)
  exact go1_free (by omega)
theorem go1_floor {g n m : Int} (hg : 1 ≤ g) : n - n % g ≤ go1 g n m := by
  unfold go1; split <;> omega
theorem go1_neg {g n m : Int} (h : m < 0) (hg : 1 ≤ g) : go1 g n m ≤ n ∧ go1 g n m / g = n / g := by
  have f := go1_floor (g := g) (n := n) (m := m) hg
  have m0 := Int.emod_nonneg n (show g ≠ 0 by omega)
  have le : go1 g n m ≤ n := by unfold go1; split <;> omega
  refine ⟨le, ?_⟩
  have h1 := Int.ediv_le_ediv (show 0 < g by omega) le
  have h2 := Int.ediv_le_ediv (show 0 < g by omega) f
  have h3 : (n - n % g) / g = n / g := by
    rw [show n - n % g = g * (n / g) by have := Int.mul_ediv_add_emod n g; omega, Int.mul_ediv_cancel_left _ (by omega)]
  omega
theorem floor_le {g a b : Int} (hg : 1 ≤ g) (h : a - a % g ≤ b) : a - a % g ≤ b - b % g := by
  have h2 := Int.ediv_le_ediv (show 0 < g by omega) h
  have h3 : (a - a % g) / g = a / g := by
    rw [show a - a % g = g * (a / g) by have := Int.mul_ediv_add_emod a g; omega, Int.mul_ediv_cancel_left _ (by omega)]
  rw [h3] at h2
  have e1 := Int.mul_ediv_add_emod a g
  have e2 := Int.mul_ediv_add_emod b g
  have : g * (a / g) ≤ g * (b / g) := Int.mul_le_mul_of_nonneg_left h2 (by omega)
  omega
theorem mvB_at {ms : List Int} (h : mvB ms) (k : Nat) (hk : k < ms.length) : -500 ≤ ms[k]?.getD 0 ∧ ms[k]?.getD 0 ≤ 900 := by
  have := h (ms[k]'hk) (List.getElem_mem _)
  simpa [hk] using this
/-- the moves stay in the range, and never go back behind the tooth -/
theorem goF_all {g turn : Int} {ms : List Int} (hg : 1 ≤ g) (h0 : 0 ≤ turn) (h1 : turn ≤ 10000) (hM : mvB ms) (hl : ms.length ≤ 6) : ∀ k : Nat, k ≤ ms.length → ∃ q, goF g turn (ms.take k) = some q ∧ turn - turn % g ≤ q ∧ 0 ≤ q ∧ q ≤ 10000 + 1000 * (k : Int)
  | 0, _ => ⟨turn, rfl, by have := Int.emod_nonneg turn (show g ≠ 0 by omega); omega, h0, by omega⟩
  | k + 1, hk => by
    obtain ⟨q, hq, q1, q2, q3⟩ := goF_all hg h0 h1 hM hl k (by omega)
    have mb := mvB_at hM k (by omega)
    have up : go1 g q (ms[k]?.getD 0) ≤ q + 900 := by
      have := Int.emod_nonneg q (show g ≠ 0 by omega)
      unfold go1; split <;> omega
    have lo := go1_floor (g := g) (n := q) (m := ms[k]?.getD 0) hg
    have f := floor_le hg q1
    have m1 := mod_bd q g q2 hg
    refine ⟨_, goF_step (by omega) hq (by omega), by omega, by omega, by omega⟩
theorem mv_ok {ms : List Int} (hM : mvB ms) (hl : ms.length ≤ 6) : movesOk ms = true := by
  unfold movesOk
  rw [decide_eq_true (show ms.length ≤ 100 by omega), movesB_all (fun j hj => by have := mvB_at hM j hj; omega)]
  rfl
theorem div_dif {g a b : Int} : (b / g - a / g) * g = (b - b % g) - (a - a % g) := by
  rw [Int.sub_mul, Int.mul_comm, Int.mul_comm (a / g)]
  have e1 := Int.mul_ediv_add_emod a g
  have e2 := Int.mul_ediv_add_emod b g
  omega
theorem floor_mod {g a : Int} (hg : 1 ≤ g) : (a - a % g) % g = 0 := by
  rw [show a - a % g = g * (a / g) by have := Int.mul_ediv_add_emod a g; omega, Int.mul_emod_right]
theorem turnB_of {n : Int} (h : 0 ≤ n ∧ n ≤ 1000000000000000) : turnB n = true := by simp [turnB, h]
theorem teeth7 (Y : Nat) (h : Y < 7) : ∃ t : Int, ([1, 2, 4, 5, 8, 10, 1000] : List Int)[Y]? = some t ∧ teethB t = true := by
  match Y, h with
  | 0, _ => exact ⟨1, rfl, by decide⟩
  | 1, _ => exact ⟨2, rfl, by decide⟩
  | 2, _ => exact ⟨4, rfl, by decide⟩
  | 3, _ => exact ⟨5, rfl, by decide⟩
  | 4, _ => exact ⟨8, rfl, by decide⟩
  | 5, _ => exact ⟨10, rfl, by decide⟩
  | 6, _ => exact ⟨1000, rfl, by decide⟩
end Go.Proofs.Ytpnhmncamcdipaa
