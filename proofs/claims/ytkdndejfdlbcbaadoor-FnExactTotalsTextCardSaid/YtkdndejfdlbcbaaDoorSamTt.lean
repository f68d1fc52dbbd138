/- SameTotals: the program, the model, the law; the sizes of totals. -/
import Derived.Test.YtkdndejfdlbcbaaDoorTots
import Derived.Test.YtkdndejfdlbcbaaDoorSamG
namespace Go.Proofs.YtkdndejfdlbcbaaDoor
open Go.RowKit Go.ChangeShapes Go.WideShapes Go.ChangeAt
theorem total_under : Tryd.prog.underlying 63 = some (.struct (Tryd.prog.fieldsOf 63)) := by rw [Program.fieldsOf, Tryd.underlying63]
theorem total_neq (a b c d : Int) (w : World) : Sem.run Tryd.prog (binOp .neq 63 (.agg #[.int .i64 a, .int .i64 b]) (.agg #[.int .i64 c, .int .i64 d])) w = .ok (.bool (!(a == c && b == d))) w := by
  have k : Tryd.prog.underlying 2 = some (.int .i64) := Tryd.underlying2
  obtain ⟨fs, hf, hu⟩ : ∃ fs, Tryd.prog.fieldsOf 63 = fs ∧ Tryd.prog.underlying 63 = some (.struct fs) := ⟨_, rfl, total_under⟩
  have hfs := Option.some.inj (Tryd.underlying63.symm.trans hu)
  simp only [TypeDesc.struct.injEq] at hfs
  subst hfs
  rw [run_neq_struct, run_equalIn_struct w 9999 63 _ _ total_under (by kernel_rfl), hf]
  by_cases h1 : a = c
  · subst h1
    by_cases h2 : b = d
    · subst h2
      simp [Op.eqFields, go_sem, run_equalIn_int _ _ _ _ _ _ _ k]
    · simp [Op.eqFields, go_sem, run_equalIn_int _ _ _ _ _ _ _ k, h2]
  · simp [Op.eqFields, go_sem, run_equalIn_int _ _ _ _ _ _ _ k, h1]
theorem szTots_ok (a : Option Addr) (len cap : Nat) (w : World) (h : len ≤ 1048576) : Calls Tryd.prog 11 #[.slice a len cap, .int .i64 1048576] w fun e w' => e = .returned (.int .i64 (1048576 - len)) ∧ w = w' := by
  have h1 : (0 : Int) ≤ 1048576 - (len : Int) := by omega
  go_enter Tryd.func11, Tryd.ntmps11
  go_wp2
  go_ret
  exact ⟨rfl, rfl⟩
theorem szTots_no (a : Option Addr) (len cap : Nat) (w : World) (h : 1048576 < len) (hl : len ≤ 9223372036854775807) : Calls Tryd.prog 11 #[.slice a len cap, .int .i64 1048576] w fun e w' => e = .returned (.int .i64 (-1)) ∧ w = w' := by
  have h1 : 1048576 - (len : Int) < 0 := by omega
  go_enter Tryd.func11, Tryd.ntmps11
  go_wp2
  go_ret
  exact ⟨rfl, rfl⟩
theorem szTots_left (a : Option Addr) (len cap : Nat) (l : Int) (w : World) (h0 : 0 ≤ l ∧ l ≤ 1048576) (h : (len : Int) ≤ l) : Calls Tryd.prog 11 #[.slice a len cap, .int .i64 l] w fun e w' => e = .returned (.int .i64 (l - len)) ∧ w = w' := by
  obtain ⟨l0, l1⟩ := h0
  have h1 : (0 : Int) ≤ l - (len : Int) := by omega
  have h2 : (0 : Int) ≤ (len : Int) := by omega
  go_enter Tryd.func11, Tryd.ntmps11
  go_wp2
  go_ret
  exact ⟨rfl, rfl⟩
theorem szTots_left_no (a : Option Addr) (len cap : Nat) (l : Int) (w : World) (h0 : 0 ≤ l ∧ l ≤ 1048576) (h : l < (len : Int)) (hl : len ≤ 9223372036854775807) : Calls Tryd.prog 11 #[.slice a len cap, .int .i64 l] w fun e w' => e = .returned (.int .i64 (-1)) ∧ w = w' := by
  obtain ⟨l0, l1⟩ := h0
  have h1 : l - (len : Int) < 0 := by omega
  have h2 : (0 : Int) ≤ (len : Int) := by omega
  go_enter Tryd.func11, Tryd.ntmps11
  go_wp2
  go_ret
  exact ⟨rfl, rfl⟩
end Go.Proofs.YtkdndejfdlbcbaaDoor
