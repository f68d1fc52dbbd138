/- Maps with digits as keys; digits that are alike; plain. -/
import Derived.Test.YtigiegdkfgjmcaaVals
import Derived.Maps.OwnOps
import Derived.Maps.Views
import Derived.DeepKeys4
import Derived.Laws.StructEq
namespace Go.Proofs.Ytigiegdkfgjmcaa
open Go.RowKit Go.Maps
set_option linter.unusedSimpArgs false
theorem Try.laid' : laidOutB Try.prog = true := by kernel_rfl
theorem Try.rowDig : (28 : TypeId) < Try.prog.types.size := of_decide_eq_true (by kernel_rfl)
theorem Try.wideDig : (match Try.prog.underlying 28 with | some (.array _ _) | some (.struct _) => true | _ => false) = true := by kernel_rfl
theorem digLaw : WideMaps.KeyLaw Try.prog 28 := deep_law_laid Try.laid' (m := 3) (by omega) Try.rowDig (by kernel_rfl) Try.wideDig
theorem digKeyed : Keyed Try.prog 28 := Keyed.of_law digLaw
theorem Try.cellsDig : Try.prog.cellsOf 28 = 8 := by kernel_rfl
theorem Try.cellsU8 : Try.prog.cellsOf 5 = 1 := by kernel_rfl
theorem Try.keyDig : Try.prog.keyType 28 = true := by kernel_rfl
theorem wf8 (x : Int) (h : 0 ≤ x ∧ x ≤ 255) : (Lit.int .u8 x).wf = true := by
  exact WalkArith.wf_u8 h
theorem lits_one (m : Nat) (x : Int) (h : 0 ≤ x ∧ x ≤ 255) : Try.prog.keyLits (m + 1) 5 [.int .u8 x] = some [.int .u8 x] := by
  have hw := wf8 x h
  simp [Program.keyLits, Try.underlying5, hw]
theorem keyD {d0 d1 d2 d3 d4 d5 d6 d7 : Int} (h : Oct d0 d1 d2 d3 d4 d5 d6 d7) : ∃ l, keyOf Try.prog 28 (.agg #[.int .u8 d0, .int .u8 d1, .int .u8 d2, .int .u8 d3, .int .u8 d4, .int .u8 d5, .int .u8 d6, .int .u8 d7]) = some l := by
  obtain ⟨m, hm⟩ : ∃ m, Try.prog.types.size = m + 1 := ⟨Try.prog.types.size - 1, (Nat.sub_add_cancel (Nat.lt_of_le_of_lt (Nat.zero_le _) Try.rowDig)).symm⟩
  have hf : (Value.agg #[.int .u8 d0, .int .u8 d1, .int .u8 d2, .int .u8 d3, .int .u8 d4, .int .u8 d5, .int .u8 d6, .int .u8 d7]).formed Try.prog 28 = true := by simp [Value.formed, Try.underlying28, Try.cellsDig]
  obtain ⟨h0, h1, h2, h3, h4, h5, h6, h7⟩ := h
  unfold keyOf
  simp only [Try.underlying28, Try.keyDig, hf, Bool.and_self, if_true]
  rw [hm]
  have e8 : List.range 8 = [0, 1, 2, 3, 4, 5, 6, 7] := rfl
  simp [Program.keyLits, Try.underlying28, Try.cellsDig, Try.cellsU8, e8, Value.cells, Try.underlying5, wf8 d0 h0, wf8 d1 h1, wf8 d2 h2, wf8 d3 h3, wf8 d4 h4, wf8 d5 h5, wf8 d6 h6, wf8 d7 h7]
def sameD (ds es : List Int) : Bool := (List.range 8).all fun i => ds[i]?.getD 0 == es[i]?.getD 0
theorem Try.infoU8s : (Try.prog.info? 5).map (·.size) = some 1 := by kernel_rfl
theorem sameD_get {ds es : List Int} (h : sameD ds es = true) (j : Nat) (hj : j < 8) : ds[j]?.getD 0 = es[j]?.getD 0 := by
  simp only [sameD, List.all_eq_true, List.mem_range, beq_iff_eq] at h
  exact h j hj
theorem sameD_of {ds es : List Int} (h : ∀ j, j < 8 → ds[j]?.getD 0 = es[j]?.getD 0) : sameD ds es = true := by
  simp only [sameD, List.all_eq_true, List.mem_range, beq_iff_eq]
  exact h
theorem val_inj (zs ds es : List Int) : ∀ k, k ≤ zs.length → inB zs k → ltTo zs ds k → ltTo zs es k → valL zs ds k = valL zs es k → ∀ j, j < k → ds[j]?.getD 0 = es[j]?.getD 0
  | 0, _, _, _, _, _ => fun j hj => by omega
  | k + 1, hk, hi, hd, he, h => fun j hj => by
    have b1 := valL_bd zs ds k (by omega) (fun j hj => hi j (by omega)) (fun j hj => hd j (by omega))
    have b2 := valL_bd zs es k (by omega) (fun j hj => hi j (by omega)) (fun j hj => he j (by omega))
    have hs := (szL_bd zs k (by omega) (fun j hj => hi j (by omega))).1
    simp only [valL] at h
    obtain ⟨S, hS⟩ : ∃ S, S = szL (zs.take k) := ⟨_, rfl⟩
    rw [← hS] at b1 b2 hs h
    have q1 : (valL zs ds k + ds[k]?.getD 0 * S) / S = ds[k]?.getD 0 := by rw [Int.add_mul_ediv_right _ _ (by omega), Int.ediv_eq_zero_of_lt b1.1 b1.2]; omega
    have q2 : (valL zs es k + es[k]?.getD 0 * S) / S = es[k]?.getD 0 := by rw [Int.add_mul_ediv_right _ _ (by omega), Int.ediv_eq_zero_of_lt b2.1 b2.2]; omega
    have hd0 : ds[k]?.getD 0 = es[k]?.getD 0 := by rw [← q1, ← q2, h]
    by_cases e : j = k
    · subst e; exact hd0
    · rw [hd0] at h
      exact val_inj zs ds es k (by omega) (fun j hj => hi j (by omega)) (fun j hj => hd j (by omega)) (fun j hj => he j (by omega)) (by omega) j (by omega)
theorem val_ne {zs ds es : List Int} (hd : okV zs ds = true) (he : okV zs es = true) (h1 : ∀ j, j < 8 → 0 ≤ ds[j]?.getD 0) (h2 : ∀ j, j < 8 → 0 ≤ es[j]?.getD 0) (hn : sameD ds es = false) : valL zs ds zs.length ≠ valL zs es zs.length := fun h => by
  obtain ⟨hv1, hv2⟩ := okV_out hd
  obtain ⟨_, hw2⟩ := okV_out he
  obtain ⟨_, h8, hin, _, _⟩ := okL_out hv1
  have a := val_inj zs ds es zs.length (Nat.le_refl _) hin (okD_lt hv2 h8 h1) (okD_lt hw2 h8 h2) h
  have : sameD ds es = true := sameD_of fun j hj => by
    by_cases hj2 : j < zs.length
    · exact a j hj2
    · rw [(okD_out hv2 j hj).2 (by omega), (okD_out hw2 j hj).2 (by omega)]
  rw [this] at hn
  cases hn
theorem forIn_all {P : Program} (w : World) (f : Nat → Sem Bool) (b : Nat → Bool) : ∀ (l : List Nat), (∀ i ∈ l, (f i).run P w = .ok (b i) w) →
    ((do
      let r ← forIn l ((none, ()) : Option Bool × Unit) fun i _ => do
        if !(← f i) then pure (ForInStep.done (some false, ())) else pure (ForInStep.yield (none, ()))
      match r.fst with
      | some a => pure a
      | none => pure true : Sem Bool)).run P w = .ok (l.all b) w
  | [], _ => by simp
  | i :: l, h => by
    have h0 := h i (by simp)
    have ih := forIn_all w f b l (fun j hj => h j (by simp [hj]))
    cases hb : b i with
    | false => simp [h0, hb]
    | true =>
      simp only [List.all_cons, hb, Bool.true_and]
      rw [← ih]
      simp [h0, hb]
theorem equalIn_array {P : Program} (w : World) (d : Nat) {t e : TypeId} {n sz : Nat} (ht : P.underlying t = some (.array n e)) (hs : ∀ w, (sizeOf e).run P w = .ok sz w) (xs ys : Array Value) (b : Nat → Bool) (x y : Nat → Value)
    (hx : ∀ i, i < n → (part e xs (i * sz)).run P w = .ok (x i) w) (hy : ∀ i, i < n → (part e ys (i * sz)).run P w = .ok (y i) w)
    (h : ∀ i, i < n → (Op.equalIn d e (x i) (y i)).run P w = .ok (b i) w) : (Op.equalIn (d + 1) t (.agg xs) (.agg ys)).run P w = .ok ((List.range n).all b) w := by
  have := forIn_all (P := P) w (fun i => do Op.equalIn d e (← part e xs (i * sz)) (← part e ys (i * sz))) b (List.range n) (fun i hi => by
    have hi' := List.mem_range.1 hi
    simp [hx i hi', hy i hi', h i hi'])
  rw [← this]
  simp [Op.equalIn, run_underlying ht, hs, List.range_eq_range']
  congr 1
  funext a w'
  cases a.fst <;> rfl
theorem run_sizeOf' {P : Program} {t : TypeId} {n : Nat} (h : (P.info? t).map (·.size) = some n) (w : World) : (sizeOf t).run P w = .ok n w := by
  cases hq : P.info? t with
  | none => simp [hq] at h
  | some i => simp [hq] at h; simp [sizeOf, typeInfo, hq, h]
theorem part_dig (d0 d1 d2 d3 d4 d5 d6 d7 : Int) (i : Nat) (hi : i < 8) (w : World) : (part 5 #[.int .u8 d0, .int .u8 d1, .int .u8 d2, .int .u8 d3, .int .u8 d4, .int .u8 d5, .int .u8 d6, .int .u8 d7] (i * 1)).run Try.prog w = .ok (.int .u8 ([d0, d1, d2, d3, d4, d5, d6, d7][i]?.getD 0)) w := by
  have h0 : (part 5 #[.int .u8 d0, .int .u8 d1, .int .u8 d2, .int .u8 d3, .int .u8 d4, .int .u8 d5, .int .u8 d6, .int .u8 d7] (0 * 1)).run Try.prog w = .ok (.int .u8 d0) w := by kernel_rfl
  have h1 : (part 5 #[.int .u8 d0, .int .u8 d1, .int .u8 d2, .int .u8 d3, .int .u8 d4, .int .u8 d5, .int .u8 d6, .int .u8 d7] (1 * 1)).run Try.prog w = .ok (.int .u8 d1) w := by kernel_rfl
  have h2 : (part 5 #[.int .u8 d0, .int .u8 d1, .int .u8 d2, .int .u8 d3, .int .u8 d4, .int .u8 d5, .int .u8 d6, .int .u8 d7] (2 * 1)).run Try.prog w = .ok (.int .u8 d2) w := by kernel_rfl
  have h3 : (part 5 #[.int .u8 d0, .int .u8 d1, .int .u8 d2, .int .u8 d3, .int .u8 d4, .int .u8 d5, .int .u8 d6, .int .u8 d7] (3 * 1)).run Try.prog w = .ok (.int .u8 d3) w := by kernel_rfl
  have h4 : (part 5 #[.int .u8 d0, .int .u8 d1, .int .u8 d2, .int .u8 d3, .int .u8 d4, .int .u8 d5, .int .u8 d6, .int .u8 d7] (4 * 1)).run Try.prog w = .ok (.int .u8 d4) w := by kernel_rfl
  have h5 : (part 5 #[.int .u8 d0, .int .u8 d1, .int .u8 d2, .int .u8 d3, .int .u8 d4, .int .u8 d5, .int .u8 d6, .int .u8 d7] (5 * 1)).run Try.prog w = .ok (.int .u8 d5) w := by kernel_rfl
  have h6 : (part 5 #[.int .u8 d0, .int .u8 d1, .int .u8 d2, .int .u8 d3, .int .u8 d4, .int .u8 d5, .int .u8 d6, .int .u8 d7] (6 * 1)).run Try.prog w = .ok (.int .u8 d6) w := by kernel_rfl
  have h7 : (part 5 #[.int .u8 d0, .int .u8 d1, .int .u8 d2, .int .u8 d3, .int .u8 d4, .int .u8 d5, .int .u8 d6, .int .u8 d7] (7 * 1)).run Try.prog w = .ok (.int .u8 d7) w := by kernel_rfl
  have : i = 0 ∨ i = 1 ∨ i = 2 ∨ i = 3 ∨ i = 4 ∨ i = 5 ∨ i = 6 ∨ i = 7 := by omega
  rcases this with rfl | rfl | rfl | rfl | rfl | rfl | rfl | rfl
  · exact h0
  · exact h1
  · exact h2
  · exact h3
  · exact h4
  · exact h5
  · exact h6
  · exact h7
theorem eqlIn_dig (d0 d1 d2 d3 d4 d5 d6 d7 e0 e1 e2 e3 e4 e5 e6 e7 : Int) (w : World) : (Op.equalIn 10000 28 (.agg #[.int .u8 d0, .int .u8 d1, .int .u8 d2, .int .u8 d3, .int .u8 d4, .int .u8 d5, .int .u8 d6, .int .u8 d7]) (.agg #[.int .u8 e0, .int .u8 e1, .int .u8 e2, .int .u8 e3, .int .u8 e4, .int .u8 e5, .int .u8 e6, .int .u8 e7])).run Try.prog w = .ok (sameD [d0, d1, d2, d3, d4, d5, d6, d7] [e0, e1, e2, e3, e4, e5, e6, e7]) w := by
  rw [show (10000 : Nat) = 9999 + 1 from rfl, equalIn_array (P := Try.prog) w 9999 Try.underlying28 (run_sizeOf' Try.infoU8s) #[.int .u8 d0, .int .u8 d1, .int .u8 d2, .int .u8 d3, .int .u8 d4, .int .u8 d5, .int .u8 d6, .int .u8 d7] #[.int .u8 e0, .int .u8 e1, .int .u8 e2, .int .u8 e3, .int .u8 e4, .int .u8 e5, .int .u8 e6, .int .u8 e7] (fun i => [d0, d1, d2, d3, d4, d5, d6, d7][i]?.getD 0 == [e0, e1, e2, e3, e4, e5, e6, e7][i]?.getD 0) _ _ (fun i hi => part_dig d0 d1 d2 d3 d4 d5 d6 d7 i hi w) (fun i hi => part_dig e0 e1 e2 e3 e4 e5 e6 e7 i hi w) (fun i hi => by rw [show (9999 : Nat) = 9998 + 1 from rfl, run_equalIn_int _ 9998 5 .u8 .u8 _ _ Try.underlying5])]
  rfl
theorem eql_dig (d0 d1 d2 d3 d4 d5 d6 d7 e0 e1 e2 e3 e4 e5 e6 e7 : Int) (w : World) : (binOp .eql 28 (.agg #[.int .u8 d0, .int .u8 d1, .int .u8 d2, .int .u8 d3, .int .u8 d4, .int .u8 d5, .int .u8 d6, .int .u8 d7]) (.agg #[.int .u8 e0, .int .u8 e1, .int .u8 e2, .int .u8 e3, .int .u8 e4, .int .u8 e5, .int .u8 e6, .int .u8 e7])).run Try.prog w = .ok (.bool (sameD [d0, d1, d2, d3, d4, d5, d6, d7] [e0, e1, e2, e3, e4, e5, e6, e7])) w := by
  rw [run_eql_struct, show (10000 : Nat) = 9999 + 1 from rfl, equalIn_array (P := Try.prog) w 9999 Try.underlying28 (run_sizeOf' Try.infoU8s) #[.int .u8 d0, .int .u8 d1, .int .u8 d2, .int .u8 d3, .int .u8 d4, .int .u8 d5, .int .u8 d6, .int .u8 d7] #[.int .u8 e0, .int .u8 e1, .int .u8 e2, .int .u8 e3, .int .u8 e4, .int .u8 e5, .int .u8 e6, .int .u8 e7] (fun i => [d0, d1, d2, d3, d4, d5, d6, d7][i]?.getD 0 == [e0, e1, e2, e3, e4, e5, e6, e7][i]?.getD 0) _ _ (fun i hi => part_dig d0 d1 d2 d3 d4 d5 d6 d7 i hi w) (fun i hi => part_dig e0 e1 e2 e3 e4 e5 e6 e7 i hi w) (fun i hi => by rw [show (9999 : Nat) = 9998 + 1 from rfl, run_equalIn_int _ 9998 5 .u8 .u8 _ _ Try.underlying5])]
  rfl
/-- what the map reads as -/
def twoM (l1 l2 : Lit) (a b : Int) : DataW Unit := ((DataW.map []).put l1 (.lit (.int .i64 a))).put l2 (.lit (.int .i64 b))
theorem key_isKey {v : Value} {l : Lit} (h : keyOf Try.prog 28 v = some l) : WideAt.IsKeyLit l := digKeyed.one.key ⟨v, h⟩
theorem twoM_second {l1 l2 : Lit} {v : Value} (h : keyOf Try.prog 28 v = some l2) (a b : Int) (z : DataW Unit) : (twoM l1 l2 a b).atKey l2 z = .lit (.int .i64 b) :=
  atKey_put_same (isMap_empty.put _ _) (key_isKey h) _ _
theorem twoM_first {l1 l2 : Lit} {v : Value} (h : keyOf Try.prog 28 v = some l1) (hne : l1 ≠ l2) (a b : Int) (z : DataW Unit) : (twoM l1 l2 a b).atKey l1 z = .lit (.int .i64 a) := by
  unfold twoM
  rw [atKey_put_other hne]
  exact atKey_put_same isMap_empty (key_isKey h) _ _
end Go.Proofs.Ytigiegdkfgjmcaa
