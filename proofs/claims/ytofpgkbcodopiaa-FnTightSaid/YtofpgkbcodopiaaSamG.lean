/- SameLog: the program's and the model's, and the law's walk. -/
import Derived.Test.YtofpgkbcodopiaaMgP
import Derived.Test.YtofpgkbcodopiaaRatio
import Derived.Deep.QuietTactic
import Derived.OwnWalk
import Derived.Laws.StructEq
namespace Go.Proofs.Ytofpgkbcodopiaa
open Go.RowKit
theorem reading_under : Try.prog.underlying 38 = some (.struct (Try.prog.fieldsOf 38)) := by rw [Program.fieldsOf, Try.underlying38]
theorem reading_neq (a b c d : Int) (w : World) : Sem.run Try.prog (binOp .neq 38 (.agg #[.int .i64 a, .int .i64 b]) (.agg #[.int .i64 c, .int .i64 d])) w = .ok (.bool (!(a == c && b == d))) w := by
  have k : Try.prog.underlying 2 = some (.int .i64) := Try.underlying2
  obtain ⟨fs, hf, hu⟩ : ∃ fs, Try.prog.fieldsOf 38 = fs ∧ Try.prog.underlying 38 = some (.struct fs) := ⟨_, rfl, reading_under⟩
  have hfs := Option.some.inj (Try.underlying38.symm.trans hu)
  simp only [TypeDesc.struct.injEq] at hfs
  subst hfs
  rw [run_neq_struct, run_equalIn_struct w 9999 38 _ _ reading_under (by kernel_rfl), hf]
  by_cases h1 : a = c
  · subst h1
    by_cases h2 : b = d
    · subst h2
      simp [Op.eqFields, go_sem, run_equalIn_int _ _ _ _ _ _ _ k]
    · simp [Op.eqFields, go_sem, run_equalIn_int _ _ _ _ _ _ _ k, h2]
  · simp [Op.eqFields, go_sem, run_equalIn_int _ _ _ _ _ _ _ k, h1]
def samG (js ks : List (Int × Int)) : Bool := decide (js.length = ks.length) && (List.range js.length).all fun j => decide (rd js j = rd ks j ∧ rv js j = rv ks j)
def samGo (js ks : List (Int × Int)) (k : Nat) : Prop := ∀ j, j < k → rd js j = rd ks j ∧ rv js j = rv ks j
theorem samG_len {js ks : List (Int × Int)} (h : js.length ≠ ks.length) : samG js ks = false := by simp [samG, h]
theorem samG_yes {js ks : List (Int × Int)} (h : js.length = ks.length) (k : samGo js ks js.length) : samG js ks = true := by
  simp only [samG, Bool.and_eq_true, decide_eq_true_eq, List.all_eq_true, List.mem_range]
  exact ⟨h, fun j hj => k j hj⟩
theorem samG_bad {js ks : List (Int × Int)} (k : Nat) (hk : k < js.length) (h : ¬ (rd js k = rd ks k ∧ rv js k = rv ks k)) : samG js ks = false := by
  cases e : samG js ks with
  | false => rfl
  | true =>
    simp only [samG, Bool.and_eq_true, decide_eq_true_eq, List.all_eq_true, List.mem_range] at e
    exact absurd (e.2 k hk) h
theorem samGo_succ {js ks : List (Int × Int)} {k : Nat} (h : samGo js ks k) (e : rd js k = rd ks k ∧ rv js k = rv ks k) : samGo js ks (k + 1) := fun j hj => by
  by_cases he : j = k
  · subst he; exact e
  · exact h j (by omega)
end Go.Proofs.Ytofpgkbcodopiaa
