/- Sources that stay; bytes as numbers. -/
import Derived.Test.YtofpgkbcodopiaaSrc
import Derived.OwnWalk
namespace Go.Proofs.Ytofpgkbcodopiaa
open Go.RowKit
set_option linter.unusedVariables false
set_option linter.unusedSimpArgs false
theorem SrcAt.below {w w' : World} {g i n : Nat} {zs : List Int} (h : SrcAt w g i zs) (hb : Below n w w') (hn : g < n) : SrcAt w' g i zs := by
  obtain ⟨a, len, cap, s, hR, hI, hl, hg⟩ := h
  refine ⟨a, len, cap, s, hR.below hb hn, ⟨hI.1, hI.2.1, ?_⟩, hl, hg⟩
  rcases hg with h0 | ⟨b, off, rfl, hbg⟩
  · exact .inl h0
  · rcases hI.2.2 with h0 | ⟨b', off', e, hb', hc⟩
    · exact .inl h0
    · injection e with e; injection e with e1 e2
      subst e1; subst e2
      exact .inr ⟨b, off, rfl, Nat.lt_of_lt_of_le hb' hb.size, fun j hj => (hb.cell (p := ⟨b, off + j, none⟩) (by show b < n; omega)).trans (hc j hj)⟩
def NumIn (lo hi : Int) (w : World) (e : Ending) (w' : World) : Prop := ∃ x : Int, lo ≤ x ∧ x < hi ∧ e = .returned (.int .i64 x) ∧ w = w'
theorem a2Long_yes (a : Option Addr) (len cap : Nat) (a' : Option Addr) (len' cap' : Nat) (w : World) (h : 3000 < len ∨ 3000 < len') :
    Calls Try.prog 4 #[.slice a len cap, .slice a' len' cap'] w fun e w' => e = .returned (.bool true) ∧ w = w' := by
  by_cases h1 : 3000 < len
  · clear h
    go_enter Try.func4, Try.ntmps4
    go_wp2_with fail
    go_ret
    exact ⟨rfl, rfl⟩
  · have h2 : 3000 < len' := by omega
    have h3 : len ≤ 3000 := by omega
    have d1 : decide (3000 < (len : Int)) = false := by simp; omega
    have d2 : decide (3000 < (len' : Int)) = true := by simp; omega
    clear h h1
    go_enter Try.func4, Try.ntmps4
    go_wp2_with fail
    go_ret
    exact ⟨rfl, rfl⟩
theorem a2Long_no (a : Option Addr) (len cap : Nat) (a' : Option Addr) (len' cap' : Nat) (w : World) (h : len ≤ 3000) (h' : len' ≤ 3000) :
    Calls Try.prog 4 #[.slice a len cap, .slice a' len' cap'] w fun e w' => e = .returned (.bool false) ∧ w = w' := by
  have d1 : decide (3000 < (len : Int)) = false := by simp; omega
  have d2 : decide (3000 < (len' : Int)) = false := by simp; omega
  go_enter Try.func4, Try.ntmps4
  go_wp2_with fail
  go_ret
  exact ⟨rfl, rfl⟩
theorem a2At_any (a : Option Addr) (len cap : Nat) (zs : List Int) (k : Nat) (n : Int) (w : World) (h : InB w a len zs) (hl : len ≤ 3000) (hk : k ≤ 3000) (hn : 1 ≤ n ∧ n ≤ 1000000) :
    Calls Try.prog 11 #[.slice a len cap, .int .i64 (k : Int), .int .i64 n] w (NumIn 0 n w) := by
  by_cases hlt : k < len
  · rcases h.2.2 with h0 | ⟨b, off, rfl, hb, hc⟩
    · omega
    have hx := hc k hlt
    have zb : 0 ≤ zs[k]?.getD 0 ∧ zs[k]?.getD 0 ≤ 255 := by
      have := h.2.1 (zs[k]'(by rw [h.1]; exact hlt)) (List.getElem_mem _)
      simpa [show k < zs.length from by rw [h.1]; exact hlt] using this
    obtain ⟨x, hxx⟩ : ∃ x, x = zs[k]?.getD 0 := ⟨_, rfl⟩
    rw [← hxx] at hx zb
    have e1 : x.tmod n = x % n := Int.tmod_eq_emod_of_nonneg zb.1
    have m0 := Int.emod_nonneg x (show n ≠ 0 by omega)
    have m1 := Int.emod_lt_of_pos x (show 0 < n by omega)
    obtain ⟨r, hr⟩ : ∃ r, r = x % n := ⟨_, rfl⟩
    rw [← hr] at e1 m0 m1
    have n0 : n ≠ 0 := by omega
    have hlt' : (k : Int) < (len : Int) := by omega
    have d2 : decide (n < 1) = false := by simp; omega
    clear h hc hxx hr
    go_enter Try.func11, Try.ntmps11
    go_wp2_with fail
    go_ret
    exact ⟨r, m0, m1, rfl, rfl⟩
  · have hge : (len : Int) ≤ (k : Int) := by omega
    clear h
    go_enter Try.func11, Try.ntmps11
    go_wp2_with fail
    go_ret
    exact ⟨0, by omega, by omega, rfl, rfl⟩
end Go.Proofs.Ytofpgkbcodopiaa
