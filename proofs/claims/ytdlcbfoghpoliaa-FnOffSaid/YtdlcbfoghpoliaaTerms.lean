/- The terms of a ratio: the program's and the model's. -/
import Derived.Test.YtdlcbfoghpoliaaTermsM
import Derived.Test.YtdlcbfoghpoliaaOwnI
import Derived.Test.YtdlcbfoghpoliaaOpenR
import Derived.Laws.StructEq
import Derived.Deep.DeepCutAuto
namespace Go.Proofs.Ytdlcbfoghpoliaa
open Go.RowKit
theorem owns_below {w w' : World} {base size n : Nat} {e : TypeId} {v : Value} {xs : List Value} (h : w.ownsRow base e size v n xs) (hb : Below w.heap.size w w') : w'.ownsRow base e size v n xs := by
  refine ⟨h.1, ?_⟩
  rcases h.2 with h0 | ⟨g, cap, cur, h1, h2, h3, h4⟩
  · exact .inl h0
  · exact .inr ⟨g, cap, cur, h1, h2, (hb.block g (lt_of_block h3)).trans h3, h4⟩
theorem Row.grown {w w' : World} {g : Nat} {e : TypeId} {xs : List Value} {o : Option Nat} (h : Row w g e xs) (hg : w.grownBy w' o) (hne : some g ≠ o) : Row w' g e xs := (hg.block g h.lt hne).trans h
theorem own_type {w : World} {base size n g : Nat} {e e' : TypeId} {v : Value} {xs ys : List Value} (h : w.ownsRow base e size v n xs) (r : Row w g e' ys) (hne : e ≠ e') : some g ≠ v.ownBlock := fun he => by
  rcases h.2 with ⟨rfl, _⟩ | ⟨g', cap, cur, rfl, h2, h3, _⟩
  · cases he
  · have : g = g' := Option.some.inj he
    subst this
    have := h3.symm.trans r
    simp only [Option.some.injEq, Obj.cells.injEq] at this
    exact hne this.2.1
theorem Try.infoI64' : (Try.prog.info? 2).map (fun i => (i.zero, i.size, i.bytes)) = some (some (.int .i64 0), 1, 8) := by kernel_rfl
theorem ratio_under : Try.prog.underlying 28 = some (.struct (Try.prog.fieldsOf 28)) := by rw [Program.fieldsOf, Try.underlying28]
theorem ratio_eqIn (a b c d : Int) (w : World) : Sem.run Try.prog (Op.equalIn 10000 28 (.agg #[.int .i64 a, .int .i64 b]) (.agg #[.int .i64 c, .int .i64 d])) w = .ok (a == c && b == d) w := by
  have k : Try.prog.underlying 2 = some (.int .i64) := Try.underlying2
  obtain ⟨fs, hf, hu⟩ : ∃ fs, Try.prog.fieldsOf 28 = fs ∧ Try.prog.underlying 28 = some (.struct fs) := ⟨_, rfl, ratio_under⟩
  have hfs := Option.some.inj (Try.underlying28.symm.trans hu)
  simp only [TypeDesc.struct.injEq] at hfs
  subst hfs
  rw [run_equalIn_struct w 9999 28 _ _ ratio_under (by kernel_rfl), hf]
  by_cases h1 : a = c
  · subst h1
    by_cases h2 : b = d
    · subst h2
      simp [Op.eqFields, go_sem, run_equalIn_int _ _ _ _ _ _ _ k]
    · simp [Op.eqFields, go_sem, run_equalIn_int _ _ _ _ _ _ _ k, h2]
  · simp [Op.eqFields, go_sem, run_equalIn_int _ _ _ _ _ _ _ k, h1]
theorem ratio_neq (a b c d : Int) (w : World) : Sem.run Try.prog (binOp .neq 28 (.agg #[.int .i64 a, .int .i64 b]) (.agg #[.int .i64 c, .int .i64 d])) w = .ok (.bool (!(a == c && b == d))) w := by
  rw [run_neq_struct, ratio_eqIn]; rfl
theorem ratio_eql (a b c d : Int) (w : World) : Sem.run Try.prog (binOp .eql 28 (.agg #[.int .i64 a, .int .i64 b]) (.agg #[.int .i64 c, .int .i64 d])) w = .ok (.bool (a == c && b == d)) w := by
  rw [run_eql_struct, ratio_eqIn]; rfl
def leftP (p q : Int) : Int := if p % q = 0 then 0 else q
def leftQ (p q : Int) : Int := p % q
theorem owns_other {w : World} {base size n : Nat} {e : TypeId} {v : Value} {xs : List Value} (h : w.ownsRow base e size v n xs) {a : Addr} (hne : some a.block ≠ v.ownBlock) (u : Value) : (w.setCell a u).ownsRow base e size v n xs := by
  refine ⟨h.1, ?_⟩
  rcases h.2 with h0 | ⟨g, cap, cur, h1, h2, h3, h4⟩
  · exact .inl h0
  · refine .inr ⟨g, cap, cur, h1, h2, (Below.heap_setCell w a u g (fun he => hne ?_)).trans h3, h4⟩
    rw [h1, ← he]; rfl
def TermsR (w : World) (p q : Int) (e : Ending) (w' : World) : Prop := ∃ v, e = .returned v ∧ OwnI w' w.heap.size v (termsL p q) ∧ Below w.heap.size w w'
def measT (s : Value) (w : World) : Nat := match s with
  | .pointer (some a) => (match w.cell? ⟨a.block, 1, none⟩ with | some (.int _ q) => q.toNat | _ => 0)
  | _ => 0
theorem measT_at {w : World} {g : Nat} {T : TypeId} {a : Value} {q : Int} (h : Row w g T [a, .int .i64 q]) : measT (.pointer (some ⟨g, 0, none⟩)) w = q.toNat := by
  have := h.cell 1
  simp only [List.getElem?_cons_zero, List.getElem?_cons_succ] at this
  simp only [measT, this]
/-- where the program is with the terms -/
def TmAt (p q P Q : Int) (l : List Int) : Prop := (P = 0 ∧ Q = 0 ∧ l = termsL p q) ∨ (0 ≤ P ∧ P ≤ 1000000000 ∧ 1 ≤ Q ∧ Q ≤ 1000000000 ∧ l ++ termsL P Q = termsL p q)
theorem TmAt.step {p q P Q : Int} {l : List Int} (h1 : 0 ≤ P) (h2 : P ≤ 1000000000) (h3 : 1 ≤ Q) (h4 : Q ≤ 1000000000) (h : l ++ termsL P Q = termsL p q) : TmAt p q (leftP P Q) (leftQ P Q) (l ++ [P / Q]) := by
  have m0 := Int.emod_nonneg P (show Q ≠ 0 by omega)
  have m1 := Int.emod_lt_of_pos P (show 0 < Q by omega)
  rw [termsL_step P Q h3] at h
  unfold leftP leftQ
  by_cases h0 : P % Q = 0
  · rw [if_pos h0, h0]
    rw [h0, termsL_zero] at h
    exact .inl ⟨rfl, rfl, h⟩
  · rw [if_neg h0]
    exact .inr ⟨by omega, h4, by omega, by omega, by rw [← h]; simp⟩
theorem TmAt.len {p q P Q : Int} {l : List Int} (hq : 1 ≤ q ∧ q ≤ 1000000000) (h : TmAt p q P Q l) : l.length ≤ 1000000000 := by
  have a := termsL_len p q (by omega)
  rcases h with ⟨_, _, rfl⟩ | ⟨_, _, _, _, h⟩
  · omega
  · have := congrArg List.length h
    rw [List.length_append] at this
    omega
def termsR (p q : Int) : List Int × Int := if okR p q then (termsL p q, 0) else ([], 1)
theorem termsR_no {p q : Int} (h : okR p q = false) : termsR p q = ([], 1) := by simp [termsR, h]
theorem termsR_yes {p q : Int} (h : okR p q = true) : termsR p q = (termsL p q, 0) := by simp [termsR, h]
def OwnR (w : World) (r : List Int × Int) (e : Ending) (w' : World) : Prop := ∃ v, e = .returned (.tuple #[v, .int .i64 r.2]) ∧ OwnI w' w.heap.size v r.1 ∧ Below w.heap.size w w'
theorem OwnI.base {w : World} {b b' : Nat} {v : Value} {zs : List Int} (h : OwnI w b v zs) (hb : b' ≤ b) : OwnI w b' v zs := by
  obtain ⟨a, cap, h1, h2, h3⟩ := h
  refine ⟨a, cap, h1, h2, ?_⟩
  rcases h3 with h0 | ⟨g, rest, e, hg, hr⟩
  · exact .inl h0
  · exact .inr ⟨g, rest, e, Nat.le_trans hb hg, hr⟩
end Go.Proofs.Ytdlcbfoghpoliaa
