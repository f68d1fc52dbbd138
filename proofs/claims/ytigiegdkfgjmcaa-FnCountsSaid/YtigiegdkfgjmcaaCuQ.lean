/- Digits and numbers by wheels compared with themselves. -/
import Derived.Test.YtigiegdkfgjmcaaCuM
import Derived.Test.YtigiegdkfgjmcaaKeys
namespace Go.Proofs.Ytigiegdkfgjmcaa
open Go.RowKit
set_option linter.unusedVariables false
set_option linter.unusedSimpArgs false
theorem neq_dig (d0 d1 d2 d3 d4 d5 d6 d7 : Int) (w : World) : Sem.run Try.prog (binOp .neq 28 (.agg #[.int .u8 d0, .int .u8 d1, .int .u8 d2, .int .u8 d3, .int .u8 d4, .int .u8 d5, .int .u8 d6, .int .u8 d7]) (.agg #[.int .u8 d0, .int .u8 d1, .int .u8 d2, .int .u8 d3, .int .u8 d4, .int .u8 d5, .int .u8 d6, .int .u8 d7])) w = .ok (.bool false) w := by
  have h := eqlIn_dig d0 d1 d2 d3 d4 d5 d6 d7 d0 d1 d2 d3 d4 d5 d6 d7 w
  rw [same_rfl] at h
  rw [run_neq_struct, h]
  rfl
theorem part_i8 (d0 d1 d2 d3 d4 d5 d6 d7 : Int) (i : Nat) (hi : i < 8) (w : World) : (part 2 #[.int .i64 d0, .int .i64 d1, .int .i64 d2, .int .i64 d3, .int .i64 d4, .int .i64 d5, .int .i64 d6, .int .i64 d7] (i * 1)).run Try.prog w = .ok (.int .i64 ([d0, d1, d2, d3, d4, d5, d6, d7][i]?.getD 0)) w := by
  have h0 : (part 2 #[.int .i64 d0, .int .i64 d1, .int .i64 d2, .int .i64 d3, .int .i64 d4, .int .i64 d5, .int .i64 d6, .int .i64 d7] (0 * 1)).run Try.prog w = .ok (.int .i64 d0) w := by kernel_rfl
  have h1 : (part 2 #[.int .i64 d0, .int .i64 d1, .int .i64 d2, .int .i64 d3, .int .i64 d4, .int .i64 d5, .int .i64 d6, .int .i64 d7] (1 * 1)).run Try.prog w = .ok (.int .i64 d1) w := by kernel_rfl
  have h2 : (part 2 #[.int .i64 d0, .int .i64 d1, .int .i64 d2, .int .i64 d3, .int .i64 d4, .int .i64 d5, .int .i64 d6, .int .i64 d7] (2 * 1)).run Try.prog w = .ok (.int .i64 d2) w := by kernel_rfl
  have h3 : (part 2 #[.int .i64 d0, .int .i64 d1, .int .i64 d2, .int .i64 d3, .int .i64 d4, .int .i64 d5, .int .i64 d6, .int .i64 d7] (3 * 1)).run Try.prog w = .ok (.int .i64 d3) w := by kernel_rfl
  have h4 : (part 2 #[.int .i64 d0, .int .i64 d1, .int .i64 d2, .int .i64 d3, .int .i64 d4, .int .i64 d5, .int .i64 d6, .int .i64 d7] (4 * 1)).run Try.prog w = .ok (.int .i64 d4) w := by kernel_rfl
  have h5 : (part 2 #[.int .i64 d0, .int .i64 d1, .int .i64 d2, .int .i64 d3, .int .i64 d4, .int .i64 d5, .int .i64 d6, .int .i64 d7] (5 * 1)).run Try.prog w = .ok (.int .i64 d5) w := by kernel_rfl
  have h6 : (part 2 #[.int .i64 d0, .int .i64 d1, .int .i64 d2, .int .i64 d3, .int .i64 d4, .int .i64 d5, .int .i64 d6, .int .i64 d7] (6 * 1)).run Try.prog w = .ok (.int .i64 d6) w := by kernel_rfl
  have h7 : (part 2 #[.int .i64 d0, .int .i64 d1, .int .i64 d2, .int .i64 d3, .int .i64 d4, .int .i64 d5, .int .i64 d6, .int .i64 d7] (7 * 1)).run Try.prog w = .ok (.int .i64 d7) w := by kernel_rfl
  have : i = 0 ∨ i = 1 ∨ i = 2 ∨ i = 3 ∨ i = 4 ∨ i = 5 ∨ i = 6 ∨ i = 7 := by omega
  rcases this with rfl | rfl | rfl | rfl | rfl | rfl | rfl | rfl
  · exact h0
  · exact h1
  · exact h2
  · exact h3
  · exact h4
  · exact h5
  · exact h6
  · exact h7
theorem Try.infoI64s : (Try.prog.info? 2).map (·.size) = some 1 := by kernel_rfl
theorem neq_i8 (d0 d1 d2 d3 d4 d5 d6 d7 : Int) (w : World) : Sem.run Try.prog (binOp .neq 34 (.agg #[.int .i64 d0, .int .i64 d1, .int .i64 d2, .int .i64 d3, .int .i64 d4, .int .i64 d5, .int .i64 d6, .int .i64 d7]) (.agg #[.int .i64 d0, .int .i64 d1, .int .i64 d2, .int .i64 d3, .int .i64 d4, .int .i64 d5, .int .i64 d6, .int .i64 d7])) w = .ok (.bool false) w := by
  have k : Try.prog.underlying 2 = some (.int .i64) := Try.underlying2
  rw [run_neq_struct, show (10000 : Nat) = 9999 + 1 from rfl, equalIn_array (P := Try.prog) w 9999 Try.underlying34 (run_sizeOf' Try.infoI64s) #[.int .i64 d0, .int .i64 d1, .int .i64 d2, .int .i64 d3, .int .i64 d4, .int .i64 d5, .int .i64 d6, .int .i64 d7] #[.int .i64 d0, .int .i64 d1, .int .i64 d2, .int .i64 d3, .int .i64 d4, .int .i64 d5, .int .i64 d6, .int .i64 d7] (fun _ => true) _ _ (fun i hi => part_i8 d0 d1 d2 d3 d4 d5 d6 d7 i hi w) (fun i hi => part_i8 d0 d1 d2 d3 d4 d5 d6 d7 i hi w) (fun i hi => by rw [run_equalIn_int _ _ _ _ _ _ _ k]; simp)]
  rfl
end Go.Proofs.Ytigiegdkfgjmcaa
