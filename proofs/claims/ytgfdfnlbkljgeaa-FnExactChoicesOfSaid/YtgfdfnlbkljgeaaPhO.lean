/- How a photo that came in is opened. -/
import Derived.Test.YtgfdfnlbkljgeaaPhA
namespace Go.Proofs.Ytgfdfnlbkljgeaa
open Go.ChangeShapes Go.WideShapes Go.ChangeAt Go.RowKit
section
variable {H : Type} {enc : TypeId × Value → H} {P : Program} {W : World}

theorem phL_of (cs : List Value) (hl : cs.length = 16) (f : Nat → Int) (hf : ∀ i, i < 16 → cs[i]? = some (.int .u64 (f i))) (hb : ∀ i, i < 16 → 0 ≤ f i ∧ f i ≤ 18446744073709551615) :
    ∃ ps, cs = phL ps ∧ Ph ps := by
  refine ⟨(List.range 8).map fun j => (f (j * 2), f (j * 2 + 1)), ?_, ?_⟩
  · apply List.ext_getElem?
    intro i
    by_cases hi : i < 16
    · rw [hf i hi]
      simp only [phL, List.getElem?_map, List.getElem?_range hi, Option.map_some, phc, pa, pb]
      have h8 : i / 2 < 8 := by omega
      simp only [List.getElem?_map, List.getElem?_range h8, Option.map_some, Option.getD_some]
      by_cases h2 : i % 2 = 0
      · rw [if_pos h2, show i / 2 * 2 = i from by omega]
      · rw [if_neg h2, show i / 2 * 2 + 1 = i from by omega]
    · rw [List.getElem?_eq_none (by omega), List.getElem?_eq_none (by simp [phL]; omega)]
  · intro j
    by_cases h8 : j < 8
    · simp only [pa, pb, List.getElem?_map, List.getElem?_range h8, Option.map_some, Option.getD_some]
      exact ⟨hb _ (by omega), hb _ (by omega)⟩
    · have : ((List.range 8).map fun j => (f (j * 2), f (j * 2 + 1)))[j]? = none := List.getElem?_eq_none (by simp; omega)
      simp only [pa, pb, this, Option.getD_none]
      omega

theorem open_photo {r : Reach} {b0 : Nat} {t e u : TypeId} {v : Value} {d : DataW H} {p : List MemPlace} (ht : P.underlying t = some (.array 8 e)) (he : P.underlying e = some (.array 2 u)) (hu : P.underlying u = some (.int .u64)) (hcu : P.cellsOf u = 1) (hce : P.cellsOf e = 2) (hC : P.cellsOf t = 16)
    (hval : Value.okWide P W r b0 t v) (h : DataW.Trod enc P W 0 (fun _ => true) true t v d p) :
    ∃ ps, v = .agg (phL ps).toArray ∧ Ph ps := by
  obtain ⟨cs, rfl, hsz⟩ := okWide_array ht hval
  rw [hC] at hsz
  obtain ⟨fuel, hf⟩ := h
  obtain ⟨xs, m, _, _, _, hl, hall⟩ := DataW.trod_array ht hf
  have key : ∀ i, i < 16 → ∃ n : Int, cs.toList[i]? = some (.int .u64 n) ∧ 0 ≤ n ∧ n ≤ 18446744073709551615 := by
    intro i hi
    have hi' := hall (i / 2) (by omega)
    rw [hce] at hi'
    obtain ⟨y, hy⟩ : ∃ y, xs[i / 2]? = some y := ⟨_, List.getElem?_eq_getElem (by omega)⟩
    rw [hy] at hi'
    obtain ⟨xs2, m2, _, _, _, hl2, hall2⟩ := DataW.trod_array he hi'
    have hj' := hall2 (i % 2) (by omega)
    rw [hcu] at hj'
    obtain ⟨y2, hy2⟩ : ∃ y, xs2[i % 2]? = some y := ⟨_, List.getElem?_eq_getElem (by omega)⟩
    rw [hy2] at hj'
    obtain ⟨n, e0, _, wn⟩ := DataW.trod_int hu hj'
    refine ⟨n, ?_, bounds_u64 wn⟩
    have e1 : ((((Value.agg cs).cells.toList.drop (i / 2 * 2)).take 2).drop (i % 2 * 1)).take 1 = [.int .u64 n] := e0
    have e2 : ((((Value.agg cs).cells.toList.drop (i / 2 * 2)).take 2).drop (i % 2 * 1))[0]? = some (.int .u64 n) := by
      have := congrArg (·[0]?) e1
      simpa [List.getElem?_take] using this
    simp only [List.getElem?_drop, List.getElem?_take] at e2
    rw [if_pos (by omega)] at e2
    have e3 : i / 2 * 2 + (i % 2 * 1 + 0) = i := by omega
    rw [e3] at e2
    exact e2
  have hn : ∀ i, ∃ n : Int, (i < 16 → cs.toList[i]? = some (.int .u64 n)) ∧ (i < 16 → 0 ≤ n ∧ n ≤ 18446744073709551615) := fun i => by
    by_cases hi : i < 16
    · obtain ⟨n, h1, h2⟩ := key i hi; exact ⟨n, fun _ => h1, fun _ => h2⟩
    · exact ⟨0, fun h => absurd h hi, fun h => absurd h hi⟩
  obtain ⟨f, hf'⟩ := Classical.axiomOfChoice hn
  obtain ⟨ps, h1, h2⟩ := phL_of cs.toList (by simpa using hsz) f (fun i hi => (hf' i).1 hi) (fun i hi => (hf' i).2 hi)
  exact ⟨ps, by rw [← h1], h2⟩
end
end Go.Proofs.Ytgfdfnlbkljgeaa
