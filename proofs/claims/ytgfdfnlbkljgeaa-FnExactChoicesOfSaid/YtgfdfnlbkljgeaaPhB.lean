/- Marks: whether a digit is among them; the program's and the model's. -/
import Derived.Test.YtgfdfnlbkljgeaaPhA
namespace Go.Proofs.Ytgfdfnlbkljgeaa
open Go.RowKit

/-- bit k of a number -/
def bitB (x : Int) (k : Nat) : Bool := bits BinOp.and IntKind.u64 (x / 2 ^ k) 1 == 1
/-- digit d is among marks -/
def hasM (x y : Int) (d : Int) : Bool := if d < 64 then bitB x (d % 64).toNat else bitB y (d % 64).toNat
theorem hasM_low {x y d : Int} {j : Nat} (h : d < 64) (hj : d % 64 = (j : Int)) : hasM x y d = bitB x j := by simp [hasM, h, hj]
theorem hasM_high {x y d : Int} {j : Nat} (h : 64 ≤ d) (hj : d % 64 = (j : Int)) : hasM x y d = bitB y j := by
  have : ¬ d < 64 := by omega
  simp [hasM, this, hj]

set_option maxHeartbeats 400000 in
theorem implHas_any (x y d : Int) (w : World) (hd : 0 ≤ d ∧ d ≤ 127) (_ : 0 ≤ x ∧ x ≤ 18446744073709551615) (_ : 0 ≤ y ∧ y ≤ 18446744073709551615) :
    Calls Try.prog 53 #[.agg #[.int .u64 x, .int .u64 y], .int .i64 d] w fun e w' => e = .returned (.bool (hasM x y d)) ∧ Below w.heap.size w w' := by
  obtain ⟨j, hj⟩ := Int.eq_ofNat_of_zero_le (show 0 ≤ d % 64 by omega)
  have hj' : j < 64 := by omega
  by_cases h : d < 64
  · have h1 : d / 64 = 0 := by omega
    have HM := hid (hasM_low (x := x) (y := y) h hj)
    clear h
    go_enter Try.func53, Try.ntmps53
    go_wp2
    go_ret
    exact ⟨by rw [HM.out]; rfl, (Below.refl _ _).alloc (Nat.le_refl _) _⟩
  · have h1 : d / 64 = 1 := by omega
    have HM := hid (hasM_high (x := x) (y := y) (by omega) hj)
    clear h
    go_enter Try.func53, Try.ntmps53
    go_wp2
    go_ret
    exact ⟨by rw [HM.out]; rfl, (Below.refl _ _).alloc (Nat.le_refl _) _⟩
theorem l00In_any (n lo hi : Int) (w : World) :
    Calls Try.prog 51 #[.int .i64 n, .int .i64 lo, .int .i64 hi] w fun e w' => e = .returned (.bool (decide (lo ≤ n) && decide (n ≤ hi))) ∧ w' = w := by
  cases h1 : decide (lo ≤ n) with
  | true =>
    have h1' := of_decide_eq_true h1
    go_enter Try.func51, Try.ntmps51
    go_wp2
    go_ret
    exact ⟨by simp, rfl⟩
  | false =>
    have h1' := of_decide_eq_false h1
    go_enter Try.func51, Try.ntmps51
    go_wp2
    go_ret
    exact ⟨rfl, rfl⟩
set_option maxHeartbeats 400000 in
theorem l05Has_in (x y d : Int) (w : World) (hd : 0 ≤ d ∧ d ≤ 127) (_ : 0 ≤ x ∧ x ≤ 18446744073709551615) (_ : 0 ≤ y ∧ y ≤ 18446744073709551615) :
    Calls Try.prog 52 #[.agg #[.int .u64 x, .int .u64 y], .int .i64 d] w fun e w' => e = .returned (.bool (hasM x y d)) ∧ Below w.heap.size w w' := by
  obtain ⟨j, hj⟩ := Int.eq_ofNat_of_zero_le (show 0 ≤ d % 64 by omega)
  have hj' : j < 64 := by omega
  have HI := l00In_any d 0 127
  rw [show (decide (0 ≤ d) && decide (d ≤ 127)) = true from by simp; omega] at HI
  have HI' := hid HI
  clear HI
  by_cases h : d < 64
  · have h1 : d / 64 = 0 := by omega
    have HM := hid (hasM_low (x := x) (y := y) h hj)
    clear h
    go_enter Try.func52, Try.ntmps52
    go_wp2_with fail
    refine (HI'.out _).mono ?_
    rintro e w1 ⟨rfl, rfl⟩
    go_wp2
    go_ret
    exact ⟨by rw [HM.out]; rfl, (Below.refl _ _).alloc (Nat.le_refl _) _⟩
  · have h1 : d / 64 = 1 := by omega
    have HM := hid (hasM_high (x := x) (y := y) (by omega) hj)
    clear h
    go_enter Try.func52, Try.ntmps52
    go_wp2_with fail
    refine (HI'.out _).mono ?_
    rintro e w1 ⟨rfl, rfl⟩
    go_wp2
    go_ret
    exact ⟨by rw [HM.out]; rfl, (Below.refl _ _).alloc (Nat.le_refl _) _⟩
set_option maxHeartbeats 400000 in
theorem l05Has_out (x y d : Int) (w : World) (hd : ¬ (0 ≤ d ∧ d ≤ 127)) :
    Calls Try.prog 52 #[.agg #[.int .u64 x, .int .u64 y], .int .i64 d] w fun e w' => e = .returned (.bool false) ∧ Below w.heap.size w w' := by
  have HI := l00In_any d 0 127
  rw [show (decide (0 ≤ d) && decide (d ≤ 127)) = false from by simp; omega] at HI
  have HI' := hid HI
  clear HI
  go_enter Try.func52, Try.ntmps52
  go_wp2_with fail
  refine (HI'.out _).mono ?_
  rintro e w1 ⟨rfl, rfl⟩
  go_wp2
  go_ret
  exact ⟨rfl, (Below.refl _ _).alloc (Nat.le_refl _) _⟩
/-- a wheel of a photo may show a digit -/
def hasW (ps : List (Int × Int)) (wh d : Int) : Bool := decide (0 ≤ wh ∧ wh ≤ 7) && decide (0 ≤ d ∧ d ≤ 127) && hasM (pa ps wh.toNat) (pb ps wh.toNat) d
theorem hasW_wheel {ps : List (Int × Int)} {wh d : Int} (h : ¬ (0 ≤ wh ∧ wh ≤ 7)) : hasW ps wh d = false := by simp [hasW, h]
theorem hasW_digit {ps : List (Int × Int)} {wh d : Int} (h : ¬ (0 ≤ d ∧ d ≤ 127)) : hasW ps wh d = false := by simp [hasW, h]
theorem hasW_yes {ps : List (Int × Int)} {k : Nat} {d : Int} (h : k < 8) (h2 : 0 ≤ d ∧ d ≤ 127) : hasW ps k d = hasM (pa ps k) (pb ps k) d := by
  have : (k : Int) ≤ 7 := by omega
  simp [hasW, this, h2]
set_option maxHeartbeats 1000000 in
theorem implHasDigit_any (ps : List (Int × Int)) (wh d : Int) (w : World) (hp : Ph ps) :
    Calls Try.prog 25 #[.agg (phL ps).toArray, .int .i64 wh, .int .i64 d] w fun e w' => e = .returned (.bool (hasW ps wh d)) ∧ Below w.heap.size w w' := by
  by_cases hw : 0 ≤ wh ∧ wh ≤ 7
  · by_cases hd : 0 ≤ d ∧ d ≤ 127
    · obtain ⟨k, rfl⟩ := Int.eq_ofNat_of_zero_le hw.1
      have hk : k < 8 := by omega
      rw [hasW_yes hk hd]
      obtain ⟨hx, hy⟩ := hp k
      obtain ⟨p1, p2⟩ := phL_at ps k hk
      have r1 := Row.new w 31 (phL ps)
      have c1 := (r1.cell (k * 2)).trans p1
      have c2 := (r1.cell (k * 2 + 1)).trans p2
      have HM := hid (fun w => implHas_any (pa ps k) (pb ps k) d w hd hx hy)
      have hd1 : ¬ d < 0 := by omega
      have hd2 : ¬ 128 ≤ d := by omega
      have hk8 : (k : Int) < 8 := by omega
      clear p1 p2 r1 hp hx hy hw hd
      go_enter Try.func25, Try.ntmps25
      go_wp2_with fail
      refine (HM.out _).mono ?_
      rintro e w1 ⟨rfl, hB⟩
      go_wp2_with fail
      go_ret
      exact ⟨rfl, ((Below.refl _ _).alloc (Nat.le_refl _) _).trans (hB.mono (by simp))⟩
    · rw [hasW_digit hd]
      obtain ⟨k, rfl⟩ := Int.eq_ofNat_of_zero_le hw.1
      have hk8 : (k : Int) < 8 := by omega
      rcases (show d < 0 ∨ 128 ≤ d by omega) with hd1 | hd1
      all_goals
        clear hp hd hw
        go_enter Try.func25, Try.ntmps25
        go_wp2_with fail
        go_ret
        exact ⟨rfl, ((Below.refl _ _).alloc (Nat.le_refl _) _)⟩
  · rw [hasW_wheel hw]
    rcases (show wh < 0 ∨ 8 ≤ wh by omega) with hd1 | hd1
    all_goals
      clear hp hw
      go_enter Try.func25, Try.ntmps25
      go_wp2_with fail
      go_ret
      exact ⟨rfl, ((Below.refl _ _).alloc (Nat.le_refl _) _)⟩
set_option maxHeartbeats 1000000 in
theorem specHasDigit_any (ps : List (Int × Int)) (wh d : Int) (w : World) (hp : Ph ps) :
    Calls Try.prog 24 #[.agg (phL ps).toArray, .int .i64 wh, .int .i64 d] w fun e w' => e = .returned (.bool (hasW ps wh d)) ∧ Below w.heap.size w w' := by
  have HI := l00In_any wh 0 7
  by_cases hw : 0 ≤ wh ∧ wh ≤ 7
  · rw [show (decide (0 ≤ wh) && decide (wh ≤ 7)) = true from by simp; omega] at HI
    obtain ⟨k, rfl⟩ := Int.eq_ofNat_of_zero_le hw.1
    have hk : k < 8 := by omega
    obtain ⟨hx, hy⟩ := hp k
    obtain ⟨p1, p2⟩ := phL_at ps k hk
    have r1 := Row.new w 31 (phL ps)
    have c1 := (r1.cell (k * 2)).trans p1
    have c2 := (r1.cell (k * 2 + 1)).trans p2
    have HM : ∀ w, Calls Try.prog 52 #[.agg #[.int .u64 (pa ps k), .int .u64 (pb ps k)], .int .i64 d] w fun e w' => e = .returned (.bool (hasW ps k d)) ∧ Below w.heap.size w w' := fun w => by
      by_cases hd : 0 ≤ d ∧ d ≤ 127
      · rw [hasW_yes hk hd]; exact l05Has_in _ _ d w hd hx hy
      · rw [hasW_digit hd]; exact l05Has_out _ _ d w hd
    have HM' := hid HM
    have HI' := hid HI
    have hk8 : (k : Int) < 8 := by omega
    clear p1 p2 r1 hp hx hy hw HI HM
    go_enter Try.func24, Try.ntmps24
    go_wp2_with fail
    refine (HI'.out _).mono ?_
    rintro e w1 ⟨rfl, rfl⟩
    go_wp2_with fail
    refine (HM'.out _).mono ?_
    rintro e w1 ⟨rfl, hB⟩
    go_wp2_with fail
    go_ret
    exact ⟨rfl, ((Below.refl _ _).alloc (Nat.le_refl _) _).trans (hB.mono (by simp))⟩
  · rw [show (decide (0 ≤ wh) && decide (wh ≤ 7)) = false from by simp; omega] at HI
    rw [hasW_wheel hw]
    have HI' := hid HI
    clear hp hw HI
    go_enter Try.func24, Try.ntmps24
    go_wp2_with fail
    refine (HI'.out _).mono ?_
    rintro e w1 ⟨rfl, rfl⟩
    go_wp2_with fail
    go_ret
    exact ⟨rfl, ((Below.refl _ _).alloc (Nat.le_refl _) _)⟩
end Go.Proofs.Ytgfdfnlbkljgeaa
