/- The law on least stacks: its parts. -/
import Derived.Test.YtobephnmbpoopaaLsX
import Derived.Test.YtobephnmbpoopaaSrcP
import Derived.Test.YtobephnmbpoopaaSizes
namespace Go.Proofs.Ytobephnmbpoopaa
open Go.RowKit
set_option linter.unusedVariables false
set_option linter.unusedSimpArgs false
set_option maxHeartbeats 1000000 in
theorem sameB_own (b1 b2 : Nat) (v1 v2 : Value) (zs : List Int) (w : World) (h1 : OwnB w b1 v1 zs) (h2 : OwnB w b2 v2 zs) :
    Calls Try.prog 20 #[v1, v2] w fun e w' => e = .returned (.bool true) ∧ ∃ d, w' = w.drewN d := by
  obtain ⟨a1, c1, rfl, hl, k1⟩ := h1
  obtain ⟨a2, c2, rfl, _, k2⟩ := h2
  have hne : ((zs.length : Int) != (zs.length : Int)) = false := by simp
  rcases k1 with hz | ⟨g1, r1, rfl, _, R1⟩
  · subst hz
    simp only [List.length_nil] at *
    clear k2 hne
    go_enter Try.func20, Try.ntmps20
    go_wp2_with fail
    refine wp_loop_rounds 1 ?_
    rw [rounds_succ]
    go_wp2_with fail
    go_ret
    exact ⟨rfl, 0, rfl⟩
  · rcases k2 with hz | ⟨g2, r2, rfl, _, R2⟩
    · subst hz
      simp only [List.length_nil] at *
      clear R1 hne
      go_enter Try.func20, Try.ntmps20
      go_wp2_with fail
      refine wp_loop_rounds 1 ?_
      rw [rounds_succ]
      go_wp2_with fail
      go_ret
      exact ⟨rfl, 0, rfl⟩
    · have C1 := hid (fun j (hj : j < zs.length) => OwnB.cell R1 j hj)
      have C2 := hid (fun j (hj : j < zs.length) => OwnB.cell R2 j hj)
      obtain ⟨n, hn⟩ : ∃ n, zs.length = n := ⟨_, rfl⟩
      rw [hn] at C1 C2 hl hne ⊢
      clear R1 R2 hn
      go_enter Try.func20, Try.ntmps20
      go_wp2_with fail
      go_loopw [5] (fun i wr => ∃ k : Nat, k ≤ n ∧ i = .int .i64 k ∧ ∃ d, wr = w.drewN d) (fun i _ => n - (intOf i).toNat)
      case atStart => exact ⟨0, Nat.zero_le _, rfl, 0, rfl⟩
      case round =>
        obtain ⟨k, hk, rfl, d, rfl⟩ := hrel
        by_cases hlt : k < n
        · have hx1 := C1.out k hlt
          have hx2 := C2.out k hlt
          have hlt' : (k : Int) < (n : Int) := by omega
          have hk0 : (0 : Int) ≤ (k : Int) := by omega
          obtain ⟨x, hx⟩ : ∃ x, zs[k]?.getD 0 = x := ⟨_, rfl⟩
          rw [hx] at hx1 hx2
          have hb : (x != x) = false := by simp
          clear hx
          go_wp2_with fail
          go_quiet (fail)
          go_wp2_with fail
          go_roundw
          case rel => exact ⟨k + 1, by omega, by go_num, _, rfl⟩
          case measure => simp [intOf]; omega
        · obtain rfl : k = n := by omega
          go_wp2_with fail
          go_ret
          exact ⟨rfl, d, rfl⟩

set_option maxRecDepth 100000 in
set_option maxHeartbeats 1000000 in
theorem sameStackB_own (b1 b2 : Nat) (v1 v2 : Value) (zs : List Int) (w : World) (h1 : OwnB w b1 v1 zs) (h2 : OwnB w b2 v2 zs) :
    Calls Try.prog 8 #[v1, v2] w fun e w' => e = .returned (.bool true) ∧ ∃ d, w' = w.drewN d := by
  have H := hid (sameB_own b1 b2 v1 v2 zs w h1 h2)
  clear h1 h2
  go_enter Try.func8, Try.ntmps8
  go_wp2_with fail
  refine H.out.mono ?_
  rintro e w1 ⟨rfl, d, rfl⟩
  go_wp2_with fail
  go_ret
  exact ⟨rfl, d, rfl⟩
theorem OwnB.stk {w : World} {base : Nat} {v : Value} {zs : List Int} (h : OwnB w base v zs) (h0 : zs ≠ []) (hz : ∀ z ∈ zs, 0 ≤ z ∧ z ≤ 255) (hl : zs.length ≤ 8) : ∃ g cap, v = .slice (some ⟨g, 0, none⟩) zs.length cap ∧ base ≤ g ∧ Stk w g zs := by
  obtain ⟨a, cap, rfl, h2, h3 | ⟨g, rest, rfl, hg, hr⟩⟩ := h
  · exact absurd h3 h0
  · refine ⟨g, cap, rfl, hg, hr.lt, fun j hj => OwnB.cell hr j hj |>.trans (by simp [hj]), hz, by omega⟩
theorem lsL_get (b : Int) (n : Nat) (t : Int) (j : Nat) (hn : 1 ≤ n) (hj : j < n - 1) : (lsL b n t)[j]?.getD 0 = b := by
  unfold lsL
  rw [List.getElem?_append_left (by simp; exact hj)]
  simp [hj]
theorem lsL_last (b : Int) (n : Nat) (t : Int) : (lsL b n t)[n - 1]?.getD 0 = t := by
  unfold lsL
  rw [List.getElem?_append_right (by simp)]
  simp
theorem last_ge {size o : Int} (ho : 1 ≤ o) (hs : 1 ≤ size) : size ≤ o * lastW size o := by
  unfold lastW
  have h := Int.mul_ediv_add_emod (size + o - 1) o
  have h2 := Int.emod_lt_of_pos (size + o - 1) (show 0 < o by omega)
  by_cases c : 2 ≤ (size + o - 1) / o
  · rw [show max 2 ((size + o - 1) / o) = (size + o - 1) / o by omega]; omega
  · rw [show max 2 ((size + o - 1) / o) = 2 by omega]
    have : o * ((size + o - 1) / o) ≤ o * 2 := Int.mul_le_mul_of_nonneg_left (by omega) (by omega)
    omega
theorem last_less2 {size o : Int} (ho : 1 ≤ o) (hs : 1 ≤ size) (h2 : 2 < lastW size o) : o * (lastW size o - 1) < size := by
  unfold lastW at *
  have h := Int.mul_ediv_add_emod (size + o - 1) o
  have h3 := Int.emod_nonneg (size + o - 1) (show o ≠ 0 by omega)
  rw [show max 2 ((size + o - 1) / o) = (size + o - 1) / o by omega, Int.mul_sub, Int.mul_one]
  omega
end Go.Proofs.Ytobephnmbpoopaa
