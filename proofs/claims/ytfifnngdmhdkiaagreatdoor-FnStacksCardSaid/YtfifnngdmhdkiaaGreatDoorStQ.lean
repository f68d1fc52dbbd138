/- Digits compared with themselves. -/
import Derived.Test.YtfifnngdmhdkiaaGreatDoorStM
namespace Go.Proofs.YtfifnngdmhdkiaaGreatDoor
open Go.RowKit
set_option linter.unusedVariables false
set_option linter.unusedSimpArgs false
def sameD (ds es : List Int) : Bool := (List.range 8).all fun i => ds[i]?.getD 0 == es[i]?.getD 0
theorem Tryz.infoU8s : (Tryz.prog.info? 5).map (·.size) = some 1 := by kernel_rfl
theorem forIn_all {P : Program} (w : World) (f : Nat → Sem Bool) (b : Nat → Bool) : ∀ (l : List Nat), (∀ i ∈ l, (f i).run P w = .ok (b i) w) →
    ((do
      let r ← forIn l ((none, ()) : Option Bool × Unit) fun i _ => do
        if !(← f i) then pure (ForInStep.done (some false, ())) else pure (ForInStep.yield (none, ()))
      match r.fst with
      | some a => pure a
      | none => pure true : Sem Bool)).run P w = .ok (l.all b) w
  | [], _ => by simp
  | i :: l, h => by
    have h0 := h i (by simp)
    have ih := forIn_all w f b l (fun j hj => h j (by simp [hj]))
    cases hb : b i with
    | false => simp [h0, hb]
    | true =>
      simp only [List.all_cons, hb, Bool.true_and]
      rw [← ih]
      simp [h0, hb]
theorem equalIn_array {P : Program} (w : World) (d : Nat) {t e : TypeId} {n sz : Nat} (ht : P.underlying t = some (.array n e)) (hs : ∀ w, (sizeOf e).run P w = .ok sz w) (xs ys : Array Value) (b : Nat → Bool) (x y : Nat → Value)
    (hx : ∀ i, i < n → (part e xs (i * sz)).run P w = .ok (x i) w) (hy : ∀ i, i < n → (part e ys (i * sz)).run P w = .ok (y i) w)
    (h : ∀ i, i < n → (Op.equalIn d e (x i) (y i)).run P w = .ok (b i) w) : (Op.equalIn (d + 1) t (.agg xs) (.agg ys)).run P w = .ok ((List.range n).all b) w := by
  have := forIn_all (P := P) w (fun i => do Op.equalIn d e (← part e xs (i * sz)) (← part e ys (i * sz))) b (List.range n) (fun i hi => by
    have hi' := List.mem_range.1 hi
    simp [hx i hi', hy i hi', h i hi'])
  rw [← this]
  simp [Op.equalIn, run_underlying ht, hs, List.range_eq_range']
  congr 1
  funext a w'
  cases a.fst <;> rfl
theorem run_sizeOf' {P : Program} {t : TypeId} {n : Nat} (h : (P.info? t).map (·.size) = some n) (w : World) : (sizeOf t).run P w = .ok n w := by
  cases hq : P.info? t with
  | none => simp [hq] at h
  | some i => simp [hq] at h; simp [sizeOf, typeInfo, hq, h]
theorem part_dig (d0 d1 d2 d3 d4 d5 d6 d7 : Int) (i : Nat) (hi : i < 8) (w : World) : (part 5 #[.int .u8 d0, .int .u8 d1, .int .u8 d2, .int .u8 d3, .int .u8 d4, .int .u8 d5, .int .u8 d6, .int .u8 d7] (i * 1)).run Tryz.prog w = .ok (.int .u8 ([d0, d1, d2, d3, d4, d5, d6, d7][i]?.getD 0)) w := by
  have h0 : (part 5 #[.int .u8 d0, .int .u8 d1, .int .u8 d2, .int .u8 d3, .int .u8 d4, .int .u8 d5, .int .u8 d6, .int .u8 d7] (0 * 1)).run Tryz.prog w = .ok (.int .u8 d0) w := by kernel_rfl
  have h1 : (part 5 #[.int .u8 d0, .int .u8 d1, .int .u8 d2, .int .u8 d3, .int .u8 d4, .int .u8 d5, .int .u8 d6, .int .u8 d7] (1 * 1)).run Tryz.prog w = .ok (.int .u8 d1) w := by kernel_rfl
  have h2 : (part 5 #[.int .u8 d0, .int .u8 d1, .int .u8 d2, .int .u8 d3, .int .u8 d4, .int .u8 d5, .int .u8 d6, .int .u8 d7] (2 * 1)).run Tryz.prog w = .ok (.int .u8 d2) w := by kernel_rfl
  have h3 : (part 5 #[.int .u8 d0, .int .u8 d1, .int .u8 d2, .int .u8 d3, .int .u8 d4, .int .u8 d5, .int .u8 d6, .int .u8 d7] (3 * 1)).run Tryz.prog w = .ok (.int .u8 d3) w := by kernel_rfl
  have h4 : (part 5 #[.int .u8 d0, .int .u8 d1, .int .u8 d2, .int .u8 d3, .int .u8 d4, .int .u8 d5, .int .u8 d6, .int .u8 d7] (4 * 1)).run Tryz.prog w = .ok (.int .u8 d4) w := by kernel_rfl
  have h5 : (part 5 #[.int .u8 d0, .int .u8 d1, .int .u8 d2, .int .u8 d3, .int .u8 d4, .int .u8 d5, .int .u8 d6, .int .u8 d7] (5 * 1)).run Tryz.prog w = .ok (.int .u8 d5) w := by kernel_rfl
  have h6 : (part 5 #[.int .u8 d0, .int .u8 d1, .int .u8 d2, .int .u8 d3, .int .u8 d4, .int .u8 d5, .int .u8 d6, .int .u8 d7] (6 * 1)).run Tryz.prog w = .ok (.int .u8 d6) w := by kernel_rfl
  have h7 : (part 5 #[.int .u8 d0, .int .u8 d1, .int .u8 d2, .int .u8 d3, .int .u8 d4, .int .u8 d5, .int .u8 d6, .int .u8 d7] (7 * 1)).run Tryz.prog w = .ok (.int .u8 d7) w := by kernel_rfl
  have : i = 0 ∨ i = 1 ∨ i = 2 ∨ i = 3 ∨ i = 4 ∨ i = 5 ∨ i = 6 ∨ i = 7 := by omega
  rcases this with rfl | rfl | rfl | rfl | rfl | rfl | rfl | rfl
  · exact h0
  · exact h1
  · exact h2
  · exact h3
  · exact h4
  · exact h5
  · exact h6
  · exact h7
theorem eqlIn_dig (d0 d1 d2 d3 d4 d5 d6 d7 e0 e1 e2 e3 e4 e5 e6 e7 : Int) (w : World) : (Op.equalIn 10000 30 (.agg #[.int .u8 d0, .int .u8 d1, .int .u8 d2, .int .u8 d3, .int .u8 d4, .int .u8 d5, .int .u8 d6, .int .u8 d7]) (.agg #[.int .u8 e0, .int .u8 e1, .int .u8 e2, .int .u8 e3, .int .u8 e4, .int .u8 e5, .int .u8 e6, .int .u8 e7])).run Tryz.prog w = .ok (sameD [d0, d1, d2, d3, d4, d5, d6, d7] [e0, e1, e2, e3, e4, e5, e6, e7]) w := by
  rw [show (10000 : Nat) = 9999 + 1 from rfl, equalIn_array (P := Tryz.prog) w 9999 Tryz.underlying30 (run_sizeOf' Tryz.infoU8s) #[.int .u8 d0, .int .u8 d1, .int .u8 d2, .int .u8 d3, .int .u8 d4, .int .u8 d5, .int .u8 d6, .int .u8 d7] #[.int .u8 e0, .int .u8 e1, .int .u8 e2, .int .u8 e3, .int .u8 e4, .int .u8 e5, .int .u8 e6, .int .u8 e7] (fun i => [d0, d1, d2, d3, d4, d5, d6, d7][i]?.getD 0 == [e0, e1, e2, e3, e4, e5, e6, e7][i]?.getD 0) _ _ (fun i hi => part_dig d0 d1 d2 d3 d4 d5 d6 d7 i hi w) (fun i hi => part_dig e0 e1 e2 e3 e4 e5 e6 e7 i hi w) (fun i hi => by rw [show (9999 : Nat) = 9998 + 1 from rfl, run_equalIn_int _ 9998 5 .u8 .u8 _ _ Tryz.underlying5])]
  rfl
theorem same_rfl (ds : List Int) : sameD ds ds = true := by unfold sameD; simp
theorem neq_dig (d0 d1 d2 d3 d4 d5 d6 d7 : Int) (w : World) : Sem.run Tryz.prog (binOp .neq 30 (.agg #[.int .u8 d0, .int .u8 d1, .int .u8 d2, .int .u8 d3, .int .u8 d4, .int .u8 d5, .int .u8 d6, .int .u8 d7]) (.agg #[.int .u8 d0, .int .u8 d1, .int .u8 d2, .int .u8 d3, .int .u8 d4, .int .u8 d5, .int .u8 d6, .int .u8 d7])) w = .ok (.bool false) w := by
  have h := eqlIn_dig d0 d1 d2 d3 d4 d5 d6 d7 d0 d1 d2 d3 d4 d5 d6 d7 w
  rw [same_rfl] at h
  rw [run_neq_struct, h]
  rfl
end Go.Proofs.YtfifnngdmhdkiaaGreatDoor
