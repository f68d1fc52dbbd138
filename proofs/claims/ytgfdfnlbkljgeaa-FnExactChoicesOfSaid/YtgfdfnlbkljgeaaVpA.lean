/- Whether a wheel shows nothing: Index and Contains. -/
import Derived.Test.YtgfdfnlbkljgeaaBits
namespace Go.Proofs.Ytgfdfnlbkljgeaa
open Go.RowKit
/-- what Index finds -/
def IdxPost (b : Bool) (n : Nat) (w : World) (e : Ending) (w' : World) : Prop := ∃ r : Int, e = .returned (.int .i64 r) ∧ decide (0 ≤ r) = b ∧ Below n w w'
set_option maxRecDepth 100000 in
set_option maxHeartbeats 1000000 in
theorem index_any (g n cap : Nat) (ps : List (Int × Int)) (w : World) (hr : Row w g 31 (phL ps)) (hn : n ≤ 8) :
    Calls Try.prog 72 #[.slice (some ⟨g, 0, none⟩) n cap, .agg #[.int .u64 0, .int .u64 0]] w (IdxPost (anyZ ps n) w.heap.size w) := by
  have r1 := Row.new w 29 [.int .u64 0, .int .u64 0]
  have hB : Below w.heap.size w (w.alloc (.cells #[.int .u64 0, .int .u64 0] 29)) := (Below.refl _ _).alloc (Nat.le_refl _) _
  have r0 := hr.below hB hr.lt
  have hg := hr.lt
  clear hr
  go_enter Try.func72, Try.ntmps72
  go_wp2_with fail
  go_loopw [8] (fun i wr => ∃ k : Nat, k ≤ n ∧ i = .int .i64 k ∧ Row wr w.heap.size 29 [.int .u64 0, .int .u64 0] ∧ Row wr g 31 (phL ps) ∧ Below w.heap.size w wr ∧ ∀ j, j < k → zeroAt ps j = false) (fun i _ => n - (intOf i).toNat)
  case atStart => exact ⟨0, Nat.zero_le _, rfl, r1, r0, hB, fun j hj => absurd hj (Nat.not_lt_zero _)⟩
  case round =>
    clear r1 r0 hB
    obtain ⟨k, hk, rfl, r1, r0, hB, hnot⟩ := hrel
    by_cases hlt : k < n
    · obtain ⟨x, hx⟩ : ∃ x, x = pa ps k := ⟨_, rfl⟩
      obtain ⟨y, hy⟩ : ∃ y, y = pb ps k := ⟨_, rfl⟩
      obtain ⟨q1, q2⟩ := phL_at ps k (by omega)
      rw [← hx] at q1
      rw [← hy] at q2
      have c1 := (r0.cell (k * 2)).trans q1
      have c2 := (r0.cell (k * 2 + 1)).trans q2
      have z0 := r1.cell 0; have z1 := r1.cell 1
      simp only [List.getElem?_cons_zero, List.getElem?_cons_succ] at z0 z1
      have HN := hid hnot
      have hk0 : (0 : Int) ≤ (k : Int) := by omega
      have hlt0 : (k : Int) < (n : Int) := by omega
      have hZ : zeroAt ps k = sameM 0 0 x y := by rw [zeroAt, ← hx, ← hy]; exact sameM_comm _ _ _ _
      have HZ := hid hZ
      have hR0 := hid r0; have hR1 := hid r1
      clear hnot hx hy q1 q2 hZ r0 r1
      cases hs : sameM 0 0 x y with
      | false =>
        rw [hs] at HZ
        have he : ∀ w', Sem.run Try.prog (Op.equalIn 10000 29 (.agg #[.int .u64 0, .int .u64 0]) (.agg #[.int .u64 x, .int .u64 y])) w' = .ok false w' := fun w' => by rw [show (10000 : Nat) = 9998 + 2 from rfl, equalIn_marks, hs]
        clear hs
        go_wp2
        go_quiet (fail)
        clear he
        go_wp2
        all_goals go_roundw
        case rel => exact ⟨k + 1, by omega, by go_num, hR1.out.below (below_drewN (Below.refl _ _) _) hR1.out.lt, hR0.out.below (below_drewN (Below.refl _ _) _) hR0.out.lt, below_drewN hB _, fun j hj => by
          by_cases e : j = k
          · subst e; exact HZ.out
          · exact HN.out j (by omega)⟩
        case measure => simp [intOf]; omega
      | true =>
        rw [hs] at HZ
        have he : ∀ w', Sem.run Try.prog (Op.equalIn 10000 29 (.agg #[.int .u64 0, .int .u64 0]) (.agg #[.int .u64 x, .int .u64 y])) w' = .ok true w' := fun w' => by rw [show (10000 : Nat) = 9998 + 2 from rfl, equalIn_marks, hs]
        clear hs
        go_wp2
        go_quiet (fail)
        clear he
        go_wp2
        go_ret
        exact ⟨k, rfl, by rw [anyZ_true hlt HZ.out]; simp, below_drewN hB _⟩
    · obtain rfl : n = k := by omega
      have HN := hid (anyZ_false hnot)
      clear hnot
      go_wp2
      go_ret
      exact ⟨-1, rfl, by rw [HN.out]; rfl, hB⟩
set_option maxHeartbeats 1000000 in
theorem contains_any (g n cap : Nat) (ps : List (Int × Int)) (w : World) (hr : Row w g 31 (phL ps)) (hn : n ≤ 8) :
    Calls Try.prog 44 #[.slice (some ⟨g, 0, none⟩) n cap, .agg #[.int .u64 0, .int .u64 0]] w fun e w' => e = .returned (.bool (anyZ ps n)) ∧ Below w.heap.size w w' := by
  have hB : Below w.heap.size w (w.alloc (.cells #[.int .u64 0, .int .u64 0] 29)) := (Below.refl _ _).alloc (Nat.le_refl _) _
  have HI := hid (index_any g n cap ps _ (hr.below hB hr.lt) hn)
  clear hr
  go_enter Try.func44, Try.ntmps44
  go_wp2_with fail
  with_reducible refine HI.out.mono ?_
  rintro e w1 ⟨r, rfl, hd, hB1⟩
  have HD := hid hd
  clear hd
  go_wp2_with fail
  all_goals go_ret
  all_goals exact ⟨by rw [← HD.out]; simp_all, hB.trans (hB1.mono (by simp))⟩
end Go.Proofs.Ytgfdfnlbkljgeaa
