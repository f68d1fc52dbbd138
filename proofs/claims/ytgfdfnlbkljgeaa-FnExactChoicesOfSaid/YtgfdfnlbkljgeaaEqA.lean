/- '==' between arrays of arrays of 64-bit numbers. -/
import Derived.Test.YtgfdfnlbkljgeaaPhA
import Derived.Laws.StructEq
namespace Go.Proofs.Ytgfdfnlbkljgeaa
open Go.RowKit
theorem forIn_all {P : Program} (w : World) (f : Nat → Sem Bool) (b : Nat → Bool) : ∀ (l : List Nat), (∀ i ∈ l, (f i).run P w = .ok (b i) w) →
    ((do
      let r ← forIn l ((none, ()) : Option Bool × Unit) fun i _ => do
        if !(← f i) then pure (ForInStep.done (some false, ())) else pure (ForInStep.yield (none, ()))
      match r.fst with
      | some a => pure a
      | none => pure true : Sem Bool)).run P w = .ok (l.all b) w
  | [], _ => by simp
  | i :: l, h => by
    have h0 := h i (by simp)
    have ih := forIn_all w f b l (fun j hj => h j (by simp [hj]))
    cases hb : b i with
    | false => simp [h0, hb]
    | true =>
      simp only [List.all_cons, hb, Bool.true_and]
      rw [← ih]
      simp [h0, hb]
theorem equalIn_array {P : Program} (w : World) (d : Nat) {t e : TypeId} {n sz : Nat} (ht : P.underlying t = some (.array n e)) (hs : ∀ w, (sizeOf e).run P w = .ok sz w) (xs ys : Array Value) (b : Nat → Bool) (x y : Nat → Value)
    (hx : ∀ i, i < n → (part e xs (i * sz)).run P w = .ok (x i) w) (hy : ∀ i, i < n → (part e ys (i * sz)).run P w = .ok (y i) w)
    (h : ∀ i, i < n → (Op.equalIn d e (x i) (y i)).run P w = .ok (b i) w) : (Op.equalIn (d + 1) t (.agg xs) (.agg ys)).run P w = .ok ((List.range n).all b) w := by
  have := forIn_all (P := P) w (fun i => do Op.equalIn d e (← part e xs (i * sz)) (← part e ys (i * sz))) b (List.range n) (fun i hi => by
    have hi' := List.mem_range.1 hi
    simp [hx i hi', hy i hi', h i hi'])
  rw [← this]
  simp [Op.equalIn, run_underlying ht, hs, List.range_eq_range']
  congr 1
  funext a w'
  cases a.fst <;> rfl
theorem Try.cells64 : Try.prog.cellsOf 23 = 1 := by kernel_rfl
theorem Try.cellsMarks : Try.prog.cellsOf 29 = 2 := by kernel_rfl
theorem Try.infoU64 : (Try.prog.info? 23).map (·.size) = some 1 := by kernel_rfl
theorem Try.infoMarks : (Try.prog.info? 29).map (·.size) = some 2 := by kernel_rfl
theorem run_sizeOf' {P : Program} {t : TypeId} {n : Nat} (h : (P.info? t).map (·.size) = some n) (w : World) : (sizeOf t).run P w = .ok n w := by
  cases hq : P.info? t with
  | none => simp [hq] at h
  | some i => simp [hq] at h; simp [sizeOf, typeInfo, hq, h]
/-- marks are equal -/
def sameM (x y u v : Int) : Bool := x == u && y == v
theorem equalIn_marks (d : Nat) (x y u v : Int) (w : World) : (Op.equalIn (d + 2) 29 (.agg #[.int .u64 x, .int .u64 y]) (.agg #[.int .u64 u, .int .u64 v])).run Try.prog w = .ok (sameM x y u v) w := by
  have := equalIn_array (P := Try.prog) w (d + 1) Try.underlying29 (run_sizeOf' Try.infoU64) #[.int .u64 x, .int .u64 y] #[.int .u64 u, .int .u64 v] (fun i => if i = 0 then x == u else y == v) (fun i => if i = 0 then .int .u64 x else .int .u64 y) (fun i => if i = 0 then .int .u64 u else .int .u64 v)
    (fun i hi => by
      have h0 : (part 23 #[.int .u64 x, .int .u64 y] (0 * 1)).run Try.prog w = .ok (.int .u64 x) w := by kernel_rfl
      have h1 : (part 23 #[.int .u64 x, .int .u64 y] (1 * 1)).run Try.prog w = .ok (.int .u64 y) w := by kernel_rfl
      have : i = 0 ∨ i = 1 := by omega
      rcases this with rfl | rfl
      · exact h0
      · exact h1)
    (fun i hi => by
      have h0 : (part 23 #[.int .u64 u, .int .u64 v] (0 * 1)).run Try.prog w = .ok (.int .u64 u) w := by kernel_rfl
      have h1 : (part 23 #[.int .u64 u, .int .u64 v] (1 * 1)).run Try.prog w = .ok (.int .u64 v) w := by kernel_rfl
      have : i = 0 ∨ i = 1 := by omega
      rcases this with rfl | rfl
      · exact h0
      · exact h1)
    (fun i hi => by
      have : i = 0 ∨ i = 1 := by omega
      rcases this with rfl | rfl <;> simp [run_equalIn_int _ d 23 .u64 .u64 _ _ Try.underlying23])
  rw [this]
  congr 1
  simp [sameM, List.range_succ]
theorem eql_marks (x y u v : Int) (w : World) : (binOp .eql 29 (.agg #[.int .u64 x, .int .u64 y]) (.agg #[.int .u64 u, .int .u64 v])).run Try.prog w = .ok (.bool (sameM x y u v)) w := by
  rw [run_eql_struct, show (10000 : Nat) = 9998 + 2 from rfl, equalIn_marks]
  rfl
theorem neq_marks (x y u v : Int) (w : World) : (binOp .neq 29 (.agg #[.int .u64 x, .int .u64 y]) (.agg #[.int .u64 u, .int .u64 v])).run Try.prog w = .ok (.bool (!(sameM x y u v))) w := by
  rw [run_neq_struct, show (10000 : Nat) = 9998 + 2 from rfl, equalIn_marks]
  rfl
/-- photos are equal -/
def sameP (ps qs : List (Int × Int)) : Bool := (List.range 8).all fun j => sameM (pa ps j) (pb ps j) (pa qs j) (pb qs j)
theorem part_photo (ps : List (Int × Int)) (i : Nat) (hi : i < 8) (w : World) : (part 29 (phL ps).toArray (i * 2)).run Try.prog w = .ok (.agg #[.int .u64 (pa ps i), .int .u64 (pb ps i)]) w := by
  have h0 : (part 29 (phL ps).toArray (0 * 2)).run Try.prog w = .ok (.agg #[.int .u64 (pa ps 0), .int .u64 (pb ps 0)]) w := by kernel_rfl
  have h1 : (part 29 (phL ps).toArray (1 * 2)).run Try.prog w = .ok (.agg #[.int .u64 (pa ps 1), .int .u64 (pb ps 1)]) w := by kernel_rfl
  have h2 : (part 29 (phL ps).toArray (2 * 2)).run Try.prog w = .ok (.agg #[.int .u64 (pa ps 2), .int .u64 (pb ps 2)]) w := by kernel_rfl
  have h3 : (part 29 (phL ps).toArray (3 * 2)).run Try.prog w = .ok (.agg #[.int .u64 (pa ps 3), .int .u64 (pb ps 3)]) w := by kernel_rfl
  have h4 : (part 29 (phL ps).toArray (4 * 2)).run Try.prog w = .ok (.agg #[.int .u64 (pa ps 4), .int .u64 (pb ps 4)]) w := by kernel_rfl
  have h5 : (part 29 (phL ps).toArray (5 * 2)).run Try.prog w = .ok (.agg #[.int .u64 (pa ps 5), .int .u64 (pb ps 5)]) w := by kernel_rfl
  have h6 : (part 29 (phL ps).toArray (6 * 2)).run Try.prog w = .ok (.agg #[.int .u64 (pa ps 6), .int .u64 (pb ps 6)]) w := by kernel_rfl
  have h7 : (part 29 (phL ps).toArray (7 * 2)).run Try.prog w = .ok (.agg #[.int .u64 (pa ps 7), .int .u64 (pb ps 7)]) w := by kernel_rfl
  have : i = 0 ∨ i = 1 ∨ i = 2 ∨ i = 3 ∨ i = 4 ∨ i = 5 ∨ i = 6 ∨ i = 7 := by omega
  rcases this with rfl | rfl | rfl | rfl | rfl | rfl | rfl | rfl
  · exact h0
  · exact h1
  · exact h2
  · exact h3
  · exact h4
  · exact h5
  · exact h6
  · exact h7
theorem eql_photo (ps qs : List (Int × Int)) (w : World) : (binOp .eql 31 (.agg (phL ps).toArray) (.agg (phL qs).toArray)).run Try.prog w = .ok (.bool (sameP ps qs)) w := by
  rw [run_eql_struct, show (10000 : Nat) = 9999 + 1 from rfl, equalIn_array (P := Try.prog) w 9999 Try.underlying31 (run_sizeOf' Try.infoMarks) (phL ps).toArray (phL qs).toArray (fun i => sameM (pa ps i) (pb ps i) (pa qs i) (pb qs i)) _ _ (fun i hi => part_photo ps i hi w) (fun i hi => part_photo qs i hi w) (fun i hi => by rw [show (9999 : Nat) = 9997 + 2 from rfl, equalIn_marks])]
  rfl
end Go.Proofs.Ytgfdfnlbkljgeaa
