/- How an array of eight numbers that came in is opened. -/
import Derived.Test.YtkgldcjbaghapaaOpen
namespace Go.Proofs.Ytkgldcjbaghapaa
open Go.ChangeShapes Go.WideShapes Go.ChangeAt Go.RowKit
section
variable {H : Type} {enc : TypeId × Value → H} {P : Program} {W : World}
theorem open_i8 {r : Reach} {b0 : Nat} {t e : TypeId} {v : Value} {d : DataW H} {p : List MemPlace} (ht : P.underlying t = some (.array 8 e)) (he : P.underlying e = some (.int .i64)) (hc : P.cellsOf e = 1) (hC : P.cellsOf t = 8)
    (hval : Value.okWide P W r b0 t v) (h : DataW.Trod enc P W 0 (fun _ => true) true t v d p) :
    ∃ d0 d1 d2 d3 d4 d5 d6 d7 : Int, v = .agg #[.int .i64 d0, .int .i64 d1, .int .i64 d2, .int .i64 d3, .int .i64 d4, .int .i64 d5, .int .i64 d6, .int .i64 d7] := by
  obtain ⟨cs, rfl, hsz⟩ := okWide_array ht hval
  obtain ⟨c0, c1, c2, c3, c4, c5, c6, c7, rfl⟩ := array8 (hsz.trans hC)
  obtain ⟨fuel, hf⟩ := h
  obtain ⟨xs, m, _, _, _, hl, hall⟩ := DataW.trod_array ht hf
  have key : ∀ (i : Nat) (c : Value), i < 8 → ([c0, c1, c2, c3, c4, c5, c6, c7] : List Value)[i]? = some c → ∃ n, c = .int .i64 n := by
    intro i c hi hcc
    have hi' := hall i hi
    rw [hc] at hi'
    have hx : (((Value.agg #[c0, c1, c2, c3, c4, c5, c6, c7]).cells.toList.drop (i * 1)).take 1) = [c] := by
      have : (Value.agg #[c0, c1, c2, c3, c4, c5, c6, c7]).cells.toList = [c0, c1, c2, c3, c4, c5, c6, c7] := rfl
      rw [this, Nat.mul_one]
      match i, hi, hcc with
      | 0, _, h | 1, _, h | 2, _, h | 3, _, h | 4, _, h | 5, _, h | 6, _, h | 7, _, h => simp at h; subst h; rfl
    rw [hx] at hi'
    obtain ⟨y, hy⟩ : ∃ y, xs[i]? = some y := ⟨_, List.getElem?_eq_getElem (by omega)⟩
    rw [hy] at hi'
    obtain ⟨n, e0, _, _⟩ := DataW.trod_int he hi'
    simp only [List.cons.injEq, and_true] at e0
    exact ⟨n, e0⟩
  obtain ⟨d0, rfl⟩ := key 0 c0 (by omega) rfl
  obtain ⟨d1, rfl⟩ := key 1 c1 (by omega) rfl
  obtain ⟨d2, rfl⟩ := key 2 c2 (by omega) rfl
  obtain ⟨d3, rfl⟩ := key 3 c3 (by omega) rfl
  obtain ⟨d4, rfl⟩ := key 4 c4 (by omega) rfl
  obtain ⟨d5, rfl⟩ := key 5 c5 (by omega) rfl
  obtain ⟨d6, rfl⟩ := key 6 c6 (by omega) rfl
  obtain ⟨d7, rfl⟩ := key 7 c7 (by omega) rfl
  exact ⟨d0, d1, d2, d3, d4, d5, d6, d7, rfl⟩
end
end Go.Proofs.Ytkgldcjbaghapaa
