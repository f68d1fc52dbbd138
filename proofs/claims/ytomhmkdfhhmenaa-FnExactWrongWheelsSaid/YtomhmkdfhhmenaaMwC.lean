/- MovingWheels: the program's closure. -/
import Derived.Test.YtomhmkdfhhmenaaMwB
namespace Go.Proofs.Ytomhmkdfhhmenaa
open Go.RowKit
set_option linter.unusedVariables false
set_option linter.unusedSimpArgs false
theorem Try.infoI64m : (Try.prog.info? 2).map (fun i => (i.zero, i.size, i.bytes)) = some (some (.int .i64 0), 1, 8) := by kernel_rfl
/-- those of the first k wheels that are beyond their digit -/
def movE (es : List Int) : Nat → List Int
  | 0 => []
  | k + 1 => if dg es k % 1000 = 0 then movE es k else movE es k ++ [(k : Int)]
theorem movE_yes {es : List Int} {k : Nat} (h : dg es k % 1000 = 0) : movE es (k + 1) = movE es k := if_pos h
theorem movE_no {es : List Int} {k : Nat} (h : ¬ dg es k % 1000 = 0) : movE es (k + 1) = movE es k ++ [(k : Int)] := if_neg h
theorem movE_len (es : List Int) : ∀ k, (movE es k).length ≤ k
  | 0 => Nat.le_refl _
  | k + 1 => by
    have := movE_len es k
    unfold movE
    split
    · omega
    · rw [List.length_append]; simp; omega
theorem dg_parts (zs : List Int) (js : List (Int × Int)) (turn : Int) (k : Nat) (hk : k < 8) : dg (partsL zs js turn) k = if k < zs.length then pL zs js turn k else 0 := by simp [dg, partsL, hk]
theorem dg_parts_bd {zs : List Int} {js : List (Int × Int)} {turn : Int} (h : okM zs js = true) (k : Nat) (hk : k < 8) : 0 ≤ dg (partsL zs js turn) k ∧ dg (partsL zs js turn) k ≤ 1000000 := by
  rw [dg_parts zs js turn k hk]
  split
  · obtain ⟨h1, h2, h3⟩ := okM_out h
    obtain ⟨_, _, hin, _, _⟩ := okL_out h1
    have := pL_bd (turn := turn) hin (fun j hj => okJs_out h3 j hj) h2 k (by assumption)
    have h4 := hin k (by assumption)
    omega
  · omega
/-- behind the last wheel nothing is beyond its digit -/
theorem movE_all {zs : List Int} (js : List (Int × Int)) (turn : Int) (h : zs.length ≤ 8) : ∀ d, zs.length + d ≤ 8 → movE (partsL zs js turn) (zs.length + d) = movE (partsL zs js turn) zs.length
  | 0, _ => rfl
  | d + 1, hd => by
    have ih := movE_all js turn h d (by omega)
    rw [← Nat.add_assoc, movE_yes (by rw [dg_parts zs js turn _ (by omega), if_neg (by omega)]; rfl), ih]
/-- an array of eight numbers is read at a place -/
theorem index_parts (d0 d1 d2 d3 d4 d5 d6 d7 : Int) (k : Nat) (hk : k < 8) (w : World) :
    (Instr.index 70 (.agg #[.int .i64 d0, .int .i64 d1, .int .i64 d2, .int .i64 d3, .int .i64 d4, .int .i64 d5, .int .i64 d6, .int .i64 d7]) (.int .i64 (k : Int))).run Try.prog w
      = .ok (.int .i64 (([d0, d1, d2, d3, d4, d5, d6, d7] : List Int)[k]?.getD 0)) w := by
  have i0 : (Instr.index 70 (.agg #[.int .i64 d0, .int .i64 d1, .int .i64 d2, .int .i64 d3, .int .i64 d4, .int .i64 d5, .int .i64 d6, .int .i64 d7]) (.int .i64 ((0 : Nat) : Int))).run Try.prog w = .ok (.int .i64 d0) w := by kernel_rfl
  have i1 : (Instr.index 70 (.agg #[.int .i64 d0, .int .i64 d1, .int .i64 d2, .int .i64 d3, .int .i64 d4, .int .i64 d5, .int .i64 d6, .int .i64 d7]) (.int .i64 ((1 : Nat) : Int))).run Try.prog w = .ok (.int .i64 d1) w := by kernel_rfl
  have i2 : (Instr.index 70 (.agg #[.int .i64 d0, .int .i64 d1, .int .i64 d2, .int .i64 d3, .int .i64 d4, .int .i64 d5, .int .i64 d6, .int .i64 d7]) (.int .i64 ((2 : Nat) : Int))).run Try.prog w = .ok (.int .i64 d2) w := by kernel_rfl
  have i3 : (Instr.index 70 (.agg #[.int .i64 d0, .int .i64 d1, .int .i64 d2, .int .i64 d3, .int .i64 d4, .int .i64 d5, .int .i64 d6, .int .i64 d7]) (.int .i64 ((3 : Nat) : Int))).run Try.prog w = .ok (.int .i64 d3) w := by kernel_rfl
  have i4 : (Instr.index 70 (.agg #[.int .i64 d0, .int .i64 d1, .int .i64 d2, .int .i64 d3, .int .i64 d4, .int .i64 d5, .int .i64 d6, .int .i64 d7]) (.int .i64 ((4 : Nat) : Int))).run Try.prog w = .ok (.int .i64 d4) w := by kernel_rfl
  have i5 : (Instr.index 70 (.agg #[.int .i64 d0, .int .i64 d1, .int .i64 d2, .int .i64 d3, .int .i64 d4, .int .i64 d5, .int .i64 d6, .int .i64 d7]) (.int .i64 ((5 : Nat) : Int))).run Try.prog w = .ok (.int .i64 d5) w := by kernel_rfl
  have i6 : (Instr.index 70 (.agg #[.int .i64 d0, .int .i64 d1, .int .i64 d2, .int .i64 d3, .int .i64 d4, .int .i64 d5, .int .i64 d6, .int .i64 d7]) (.int .i64 ((6 : Nat) : Int))).run Try.prog w = .ok (.int .i64 d6) w := by kernel_rfl
  have i7 : (Instr.index 70 (.agg #[.int .i64 d0, .int .i64 d1, .int .i64 d2, .int .i64 d3, .int .i64 d4, .int .i64 d5, .int .i64 d6, .int .i64 d7]) (.int .i64 ((7 : Nat) : Int))).run Try.prog w = .ok (.int .i64 d7) w := by kernel_rfl
  have h : k = 0 ∨ k = 1 ∨ k = 2 ∨ k = 3 ∨ k = 4 ∨ k = 5 ∨ k = 6 ∨ k = 7 := by omega
  clear hk
  rcases h with rfl | rfl | rfl | rfl | rfl | rfl | rfl | rfl
  · exact i0
  · exact i1
  · exact i2
  · exact i3
  · exact i4
  · exact i5
  · exact i6
  · exact i7
end Go.Proofs.Ytomhmkdfhhmenaa
