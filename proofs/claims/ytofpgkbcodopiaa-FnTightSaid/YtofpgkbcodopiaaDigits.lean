/- Validity of digits: the program's and the model's answers are okV of the bases and the digits. -/
import Derived.Test.YtofpgkbcodopiaaMgP
namespace Go.Proofs.Ytofpgkbcodopiaa
open Go.RowKit

/-- an array of eight bytes is read at a place -/
theorem index_oct (d0 d1 d2 d3 d4 d5 d6 d7 : Int) (k : Nat) (hk : k < 8) (w : World) :
    (Instr.index 43 (.agg #[.int .u8 d0, .int .u8 d1, .int .u8 d2, .int .u8 d3, .int .u8 d4, .int .u8 d5, .int .u8 d6, .int .u8 d7]) (.int .i64 (k : Int))).run Try.prog w
      = .ok (.int .u8 (([d0, d1, d2, d3, d4, d5, d6, d7] : List Int)[k]?.getD 0)) w := by
  have i0 : (Instr.index 43 (.agg #[.int .u8 d0, .int .u8 d1, .int .u8 d2, .int .u8 d3, .int .u8 d4, .int .u8 d5, .int .u8 d6, .int .u8 d7]) (.int .i64 ((0 : Nat) : Int))).run Try.prog w = .ok (.int .u8 d0) w := by kernel_rfl
  have i1 : (Instr.index 43 (.agg #[.int .u8 d0, .int .u8 d1, .int .u8 d2, .int .u8 d3, .int .u8 d4, .int .u8 d5, .int .u8 d6, .int .u8 d7]) (.int .i64 ((1 : Nat) : Int))).run Try.prog w = .ok (.int .u8 d1) w := by kernel_rfl
  have i2 : (Instr.index 43 (.agg #[.int .u8 d0, .int .u8 d1, .int .u8 d2, .int .u8 d3, .int .u8 d4, .int .u8 d5, .int .u8 d6, .int .u8 d7]) (.int .i64 ((2 : Nat) : Int))).run Try.prog w = .ok (.int .u8 d2) w := by kernel_rfl
  have i3 : (Instr.index 43 (.agg #[.int .u8 d0, .int .u8 d1, .int .u8 d2, .int .u8 d3, .int .u8 d4, .int .u8 d5, .int .u8 d6, .int .u8 d7]) (.int .i64 ((3 : Nat) : Int))).run Try.prog w = .ok (.int .u8 d3) w := by kernel_rfl
  have i4 : (Instr.index 43 (.agg #[.int .u8 d0, .int .u8 d1, .int .u8 d2, .int .u8 d3, .int .u8 d4, .int .u8 d5, .int .u8 d6, .int .u8 d7]) (.int .i64 ((4 : Nat) : Int))).run Try.prog w = .ok (.int .u8 d4) w := by kernel_rfl
  have i5 : (Instr.index 43 (.agg #[.int .u8 d0, .int .u8 d1, .int .u8 d2, .int .u8 d3, .int .u8 d4, .int .u8 d5, .int .u8 d6, .int .u8 d7]) (.int .i64 ((5 : Nat) : Int))).run Try.prog w = .ok (.int .u8 d5) w := by kernel_rfl
  have i6 : (Instr.index 43 (.agg #[.int .u8 d0, .int .u8 d1, .int .u8 d2, .int .u8 d3, .int .u8 d4, .int .u8 d5, .int .u8 d6, .int .u8 d7]) (.int .i64 ((6 : Nat) : Int))).run Try.prog w = .ok (.int .u8 d6) w := by kernel_rfl
  have i7 : (Instr.index 43 (.agg #[.int .u8 d0, .int .u8 d1, .int .u8 d2, .int .u8 d3, .int .u8 d4, .int .u8 d5, .int .u8 d6, .int .u8 d7]) (.int .i64 ((7 : Nat) : Int))).run Try.prog w = .ok (.int .u8 d7) w := by kernel_rfl
  have h : k = 0 ∨ k = 1 ∨ k = 2 ∨ k = 3 ∨ k = 4 ∨ k = 5 ∨ k = 6 ∨ k = 7 := by omega
  clear hk
  rcases h with rfl | rfl | rfl | rfl | rfl | rfl | rfl | rfl
  · exact i0
  · exact i1
  · exact i2
  · exact i3
  · exact i4
  · exact i5
  · exact i6
  · exact i7
theorem oct_bd {d0 d1 d2 d3 d4 d5 d6 d7 : Int} (h : Oct d0 d1 d2 d3 d4 d5 d6 d7) (k : Nat) (hk : k < 8) :
    0 ≤ ([d0, d1, d2, d3, d4, d5, d6, d7] : List Int)[k]?.getD 0 ∧ ([d0, d1, d2, d3, d4, d5, d6, d7] : List Int)[k]?.getD 0 ≤ 255 := by
  obtain ⟨h0, h1, h2, h3, h4, h5, h6, h7⟩ := h
  match k, hk with
  | 0, _ => exact h0
  | 1, _ => exact h1
  | 2, _ => exact h2
  | 3, _ => exact h3
  | 4, _ => exact h4
  | 5, _ => exact h5
  | 6, _ => exact h6
  | 7, _ => exact h7

end Go.Proofs.Ytofpgkbcodopiaa
