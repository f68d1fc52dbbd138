/- Marks of all digits below a base; a digit put among marks. -/
import Derived.Test.YtgfdfnlbkljgeaaPhB
namespace Go.Proofs.Ytgfdfnlbkljgeaa
open Go.RowKit
def pwB (j : Nat) : Int := IntKind.u64.wrap (2 ^ j)
/-- a digit is put among marks, and taken away -/
def putM (x y d : Int) : Int × Int := if d < 64 then (bits BinOp.or IntKind.u64 x (pwB (d % 64).toNat), y) else (x, bits BinOp.or IntKind.u64 y (pwB (d % 64).toNat))
def clrM (x y d : Int) : Int × Int := if d < 64 then (bits BinOp.andNot IntKind.u64 x (pwB (d % 64).toNat), y) else (x, bits BinOp.andNot IntKind.u64 y (pwB (d % 64).toNat))
theorem putM_low {x y d : Int} {j : Nat} (h : d < 64) (hj : d % 64 = (j : Int)) : putM x y d = (bits BinOp.or IntKind.u64 x (IntKind.u64.wrap (2 ^ j)), y) := by simp [putM, h, hj, pwB]
theorem putM_high {x y d : Int} {j : Nat} (h : 64 ≤ d) (hj : d % 64 = (j : Int)) : putM x y d = (x, bits BinOp.or IntKind.u64 y (IntKind.u64.wrap (2 ^ j))) := by
  have : ¬ d < 64 := by omega
  simp [putM, this, hj, pwB]
theorem clrM_low {x y d : Int} {j : Nat} (h : d < 64) (hj : d % 64 = (j : Int)) : clrM x y d = (bits BinOp.andNot IntKind.u64 x (IntKind.u64.wrap (2 ^ j)), y) := by simp [clrM, h, hj, pwB]
theorem clrM_high {x y d : Int} {j : Nat} (h : 64 ≤ d) (hj : d % 64 = (j : Int)) : clrM x y d = (x, bits BinOp.andNot IntKind.u64 y (IntKind.u64.wrap (2 ^ j))) := by
  have : ¬ d < 64 := by omega
  simp [clrM, this, hj, pwB]
/-- the marks of all digits below k -/
def mbel (k : Nat) : Int × Int := if k < 64 then (IntKind.u64.wrap (IntKind.u64.wrap (2 ^ k) - 1), 0) else (IntKind.u64.wrap (IntKind.u64.wrap (2 ^ min k 64) - 1), IntKind.u64.wrap (IntKind.u64.wrap (2 ^ (k - 64)) - 1))
theorem mbel_low {k : Nat} (h : k < 64) : mbel k = (IntKind.u64.wrap (IntKind.u64.wrap (2 ^ k) - 1), 0) := by simp [mbel, h]
theorem mbel_high {k : Nat} (h : ¬ k < 64) : mbel k = (IntKind.u64.wrap (IntKind.u64.wrap (2 ^ min k 64) - 1), IntKind.u64.wrap (IntKind.u64.wrap (2 ^ (k - 64)) - 1)) := by simp [mbel, h]
theorem put_all : (List.range 101).all (fun k => decide (putM (mbel k).1 (mbel k).2 k = mbel (k + 1)) && decide (0 ≤ (mbel k).1 ∧ (mbel k).1 ≤ 18446744073709551615) && decide (0 ≤ (mbel k).2 ∧ (mbel k).2 ≤ 18446744073709551615)) = true := by decide +kernel
theorem put_mbel (k : Nat) (hk : k ≤ 100) : putM (mbel k).1 (mbel k).2 k = mbel (k + 1) := by
  have := put_all
  simp only [List.all_eq_true, List.mem_range, Bool.and_eq_true, decide_eq_true_eq] at this
  exact (this k (by omega)).1.1
theorem mbel_bd (k : Nat) (hk : k ≤ 100) : (0 ≤ (mbel k).1 ∧ (mbel k).1 ≤ 18446744073709551615) ∧ (0 ≤ (mbel k).2 ∧ (mbel k).2 ≤ 18446744073709551615) := by
  have := put_all
  simp only [List.all_eq_true, List.mem_range, Bool.and_eq_true, decide_eq_true_eq] at this
  exact ⟨(this k (by omega)).1.2, (this k (by omega)).2⟩
theorem mbel_zero : mbel 0 = (0, 0) := by decide +kernel

set_option maxHeartbeats 400000 in
theorem marksBelow_any (k : Nat) (w : World) (hk : k ≤ 100) :
    Calls Try.prog 71 #[.int .u8 k] w fun e w' => e = .returned (.agg #[.int .u64 (mbel k).1, .int .u64 (mbel k).2]) ∧ Below w.heap.size w w' := by
  by_cases h : k < 64
  · rw [mbel_low h]
    go_enter Try.func71, Try.ntmps71
    go_wp2_with fail
    exact bodyPost_ret (v := .agg #[.int .u64 (IntKind.u64.wrap (IntKind.u64.wrap (2 ^ k) - 1)), .int .u64 0]) (by simp [results, Try.results71, go_sem]) rfl ⟨rfl, (Below.refl _ _).alloc (Nat.le_refl _) _⟩
  · rw [mbel_high h]
    go_enter Try.func71, Try.ntmps71
    go_wp2_with fail
    exact bodyPost_ret (v := .agg #[.int .u64 (IntKind.u64.wrap (IntKind.u64.wrap (2 ^ min k 64) - 1)), .int .u64 (IntKind.u64.wrap (IntKind.u64.wrap (2 ^ (k - 64)) - 1))]) (by simp [results, Try.results71, go_sem]) rfl ⟨rfl, (Below.refl _ _).alloc (Nat.le_refl _) _⟩
set_option maxHeartbeats 400000 in
theorem l05Put_any (x y d : Int) (w : World) (hd : 0 ≤ d ∧ d ≤ 127) :
    Calls Try.prog 55 #[.agg #[.int .u64 x, .int .u64 y], .int .i64 d] w fun e w' => e = .returned (.agg #[.int .u64 (putM x y d).1, .int .u64 (putM x y d).2]) ∧ Below w.heap.size w w' := by
  obtain ⟨j, hj⟩ := Int.eq_ofNat_of_zero_le (show 0 ≤ d % 64 by omega)
  have hj' : j < 64 := by omega
  by_cases h : d < 64
  · have h1 : d / 64 = 0 := by omega
    rw [putM_low h hj]
    clear h
    go_enter Try.func55, Try.ntmps55
    go_wp2_with fail
    exact bodyPost_ret (v := .agg #[.int .u64 (bits BinOp.or IntKind.u64 x (IntKind.u64.wrap (2 ^ j))), .int .u64 y]) (by simp [results, Try.results55, go_sem]) rfl ⟨rfl, ((Below.refl _ _).alloc (Nat.le_refl _) _).alloc (by simp) _⟩
  · have h1 : d / 64 = 1 := by omega
    rw [putM_high (by omega) hj]
    clear h
    go_enter Try.func55, Try.ntmps55
    go_wp2_with fail
    exact bodyPost_ret (v := .agg #[.int .u64 x, .int .u64 (bits BinOp.or IntKind.u64 y (IntKind.u64.wrap (2 ^ j)))]) (by simp [results, Try.results55, go_sem]) rfl ⟨rfl, ((Below.refl _ _).alloc (Nat.le_refl _) _).alloc (by simp) _⟩
set_option maxHeartbeats 400000 in
theorem with_put (x y d : Int) (w : World) (hd : 0 ≤ d ∧ d ≤ 127) :
    Calls Try.prog 57 #[.agg #[.int .u64 x, .int .u64 y], .int .i64 d, .bool true] w fun e w' => e = .returned (.agg #[.int .u64 (putM x y d).1, .int .u64 (putM x y d).2]) ∧ Below w.heap.size w w' := by
  obtain ⟨j, hj⟩ := Int.eq_ofNat_of_zero_le (show 0 ≤ d % 64 by omega)
  have hj' : j < 64 := by omega
  by_cases h : d < 64
  · have h1 : d / 64 = 0 := by omega
    rw [putM_low h hj]
    clear h
    go_enter Try.func57, Try.ntmps57
    go_wp2_with fail
    exact bodyPost_ret (v := .agg #[.int .u64 (bits BinOp.or IntKind.u64 x (IntKind.u64.wrap (2 ^ j))), .int .u64 y]) (by simp [results, Try.results57, go_sem]) rfl ⟨rfl, ((Below.refl _ _).alloc (Nat.le_refl _) _).alloc (by simp) _⟩
  · have h1 : d / 64 = 1 := by omega
    rw [putM_high (by omega) hj]
    clear h
    go_enter Try.func57, Try.ntmps57
    go_wp2_with fail
    exact bodyPost_ret (v := .agg #[.int .u64 x, .int .u64 (bits BinOp.or IntKind.u64 y (IntKind.u64.wrap (2 ^ j)))]) (by simp [results, Try.results57, go_sem]) rfl ⟨rfl, ((Below.refl _ _).alloc (Nat.le_refl _) _).alloc (by simp) _⟩
set_option maxHeartbeats 400000 in
theorem with_clr (x y d : Int) (w : World) (hd : 0 ≤ d ∧ d ≤ 127) :
    Calls Try.prog 57 #[.agg #[.int .u64 x, .int .u64 y], .int .i64 d, .bool false] w fun e w' => e = .returned (.agg #[.int .u64 (clrM x y d).1, .int .u64 (clrM x y d).2]) ∧ Below w.heap.size w w' := by
  obtain ⟨j, hj⟩ := Int.eq_ofNat_of_zero_le (show 0 ≤ d % 64 by omega)
  have hj' : j < 64 := by omega
  by_cases h : d < 64
  · have h1 : d / 64 = 0 := by omega
    rw [clrM_low h hj]
    clear h
    go_enter Try.func57, Try.ntmps57
    go_wp2_with fail
    exact bodyPost_ret (v := .agg #[.int .u64 (bits BinOp.andNot IntKind.u64 x (IntKind.u64.wrap (2 ^ j))), .int .u64 y]) (by simp [results, Try.results57, go_sem]) rfl ⟨rfl, ((Below.refl _ _).alloc (Nat.le_refl _) _).alloc (by simp) _⟩
  · have h1 : d / 64 = 1 := by omega
    rw [clrM_high (by omega) hj]
    clear h
    go_enter Try.func57, Try.ntmps57
    go_wp2_with fail
    exact bodyPost_ret (v := .agg #[.int .u64 x, .int .u64 (bits BinOp.andNot IntKind.u64 y (IntKind.u64.wrap (2 ^ j)))]) (by simp [results, Try.results57, go_sem]) rfl ⟨rfl, ((Below.refl _ _).alloc (Nat.le_refl _) _).alloc (by simp) _⟩
set_option maxHeartbeats 1000000 in
theorem l05Full_any (n : Nat) (w : World) (hn : n ≤ 100) :
    Calls Try.prog 50 #[.int .u8 n] w fun e w' => e = .returned (.agg #[.int .u64 (mbel n).1, .int .u64 (mbel n).2]) ∧ Below w.heap.size w w' := by
  have r2 := (Row.new w 29 [.int .u64 0, .int .u64 0]).alloc (.cells #[.int .u64 0, .int .u64 0] 29)
  have r3 := Row.new (w.alloc (.cells #[.int .u64 0, .int .u64 0] 29)) 29 [.int .u64 0, .int .u64 0]
  have hB : Below w.heap.size w ((w.alloc (.cells #[.int .u64 0, .int .u64 0] 29)).alloc (.cells #[.int .u64 0, .int .u64 0] 29)) := ((Below.refl _ _).alloc (Nat.le_refl _) _).alloc (by simp) _
  simp only [World.size_alloc] at r3
  go_enter Try.func50, Try.ntmps50
  go_wp2_with fail
  go_loopw [4] (fun i wr => ∃ k : Nat, k ≤ n ∧ i = .int .i64 k ∧ Row wr w.heap.size 29 [.int .u64 0, .int .u64 0] ∧ Row wr (w.heap.size + 1) 29 [.int .u64 (mbel k).1, .int .u64 (mbel k).2] ∧ Below w.heap.size w wr) (fun i _ => n - (intOf i).toNat)
  case atStart => exact ⟨0, Nat.zero_le _, rfl, r2, by rw [mbel_zero]; exact r3, hB⟩
  case round =>
    clear r2 r3 hB
    obtain ⟨k, hk, rfl, r2, r3, hB⟩ := hrel
    have c0 := r3.cell 0; have c1 := r3.cell 1
    simp only [List.getElem?_cons_zero, List.getElem?_cons_succ] at c0 c1
    by_cases hlt : k < n
    · have HP := hid (fun w => l05Put_any (mbel k).1 (mbel k).2 k w ⟨by omega, by omega⟩)
      rw [put_mbel k (by omega)] at HP
      have hlt0 : (k : Int) < (n : Int) := by omega
      go_wp2_with fail
      refine (HP.out _).mono ?_
      rintro e w1 ⟨rfl, hB1⟩
      clear c0 c1
      have l2 := r2.lt; have l3 := r3.lt
      have s2 := r2.below hB1 l2
      have s3 := r3.below hB1 l3
      have hB2 := hB.trans (hB1.mono (by omega))
      have o0 := s3.cell 0; have o1 := s3.cell 1
      simp only [List.getElem?_cons_zero, List.getElem?_cons_succ] at o0 o1
      have f0 := s3.frozen 0; have f1 := s3.frozen 1
      have S3 := (s3.set 0 (.int .u64 (mbel (k + 1)).1)).set 1 (.int .u64 (mbel (k + 1)).2)
      have S2 := (s2.other (a := ⟨w.heap.size + 1, 0, none⟩) (by simp) (.int .u64 (mbel (k + 1)).1)).other (a := ⟨w.heap.size + 1, 1, none⟩) (by simp) (.int .u64 (mbel (k + 1)).2)
      have SB := (hB2.setCell (p := ⟨w.heap.size + 1, 0, none⟩) (by simp) (.int .u64 (mbel (k + 1)).1)).setCell (p := ⟨w.heap.size + 1, 1, none⟩) (by simp) (.int .u64 (mbel (k + 1)).2)
      simp only [List.set_cons_zero, List.set_cons_succ] at S3
      clear s2 s3 r2 r3 hB hB1 hB2 l2 l3
      go_wp2
      go_roundw
      case rel => exact ⟨k + 1, by omega, by go_num, S2, S3, SB⟩
      case measure => simp [intOf]; omega
    · obtain rfl : k = n := by omega
      have o0 := r2.cell 0; have o1 := r2.cell 1
      simp only [List.getElem?_cons_zero, List.getElem?_cons_succ] at o0 o1
      have f0 := r2.frozen 0; have f1 := r2.frozen 1
      have S2 := hid ((r2.set 0 (.int .u64 (mbel k).1)).set 1 (.int .u64 (mbel k).2))
      have SB := hid ((hB.setCell (p := ⟨w.heap.size, 0, none⟩) (by simp) (.int .u64 (mbel k).1)).setCell (p := ⟨w.heap.size, 1, none⟩) (by simp) (.int .u64 (mbel k).2))
      clear r2 r3 hB
      go_wp2
      clear c0 c1 o0 o1
      have c0 := S2.out.cell 0; have c1 := S2.out.cell 1
      simp only [List.set_cons_zero, List.set_cons_succ, List.getElem?_cons_zero, List.getElem?_cons_succ] at c0 c1
      exact bodyPost_ret (v := .agg #[.int .u64 (mbel k).1, .int .u64 (mbel k).2]) (by simp [results, Try.results50, go_sem, c0, c1]) rfl ⟨rfl, SB.out⟩
end Go.Proofs.Ytgfdfnlbkljgeaa
