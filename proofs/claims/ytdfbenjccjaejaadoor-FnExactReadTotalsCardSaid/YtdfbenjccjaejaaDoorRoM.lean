/- Totals and their texts: what is read of what is written. -/
import Derived.Test.YtdfbenjccjaejaaDoorToA
import Derived.Test.YtdfbenjccjaejaaDoorLnK
import Derived.Test.YtdfbenjccjaejaaDoorPiM
namespace Go.Proofs.YtdfbenjccjaejaaDoor
open Go.RowKit
set_option linter.unusedVariables false
set_option linter.unusedSimpArgs false
def toTx (a : Int × Int) : List UInt8 := twoT a.1 a.2
def toOkA (a : Int × Int) : Prop := (0 ≤ a.1 ∧ a.1 < 10000000000000) ∧ 0 ≤ a.2 ∧ a.2 < 10000000000000
theorem toOkA_nat {a : Int × Int} (h : toOkA a) : ∃ m n : Nat, a = ((m : Int), (n : Int)) ∧ m < 10000000000000 ∧ n < 10000000000000 := by
  obtain ⟨x, y⟩ := a
  obtain ⟨⟨h1, h2⟩, h3, h4⟩ := h
  simp only at h1 h2 h3 h4
  exact ⟨x.toNat, y.toNat, by rw [Int.toNat_of_nonneg h1, Int.toNat_of_nonneg h3], by omega, by omega⟩
theorem rd_mem {js : List (Int × Int)} {k : Nat} (hk : k < js.length) : js[k] = (rd js k, rv js k) := by
  unfold rd rv
  rw [List.getElem?_eq_getElem hk]
  rfl
theorem toA_lnT (js : List (Int × Int)) : toA js js.length = lnT (js.map toTx) := by
  unfold toA lnT
  congr 1
  apply List.ext_getElem?
  intro k
  by_cases hk : k < js.length
  · rw [List.getElem?_map, List.getElem?_range hk, List.map_map, List.getElem?_map, List.getElem?_eq_getElem hk]
    simp only [Option.map_some, Function.comp]
    rw [rd_mem hk]
    rfl
  · rw [List.getElem?_eq_none (by simp; omega), List.getElem?_eq_none (by simp; omega)]
theorem lined_to : Lined twoW twoR toTx toOkA okTs toR 61 where
  k1 := by omega
  out := fun p a h => by
    obtain ⟨x, y⟩ := a
    exact (twoW_out h).2.2.symm
  back := fun a h => by
    obtain ⟨m, n, rfl, hm, hn⟩ := toOkA_nat h
    exact twoW_of m n hm hn
  read := fun a h p hp => by
    obtain ⟨m, n, rfl, hm, hn⟩ := toOkA_nat h
    exact twoR_of m n hm hn p hp
  line := fun a h => by
    obtain ⟨m, n, rfl, hm, hn⟩ := toOkA_nat h
    exact twoT_line m n hm hn
  all := fun xs h => by
    obtain ⟨h1, h2⟩ := okTs_bd h
    refine ⟨fun a ha => ?_, by omega⟩
    obtain ⟨k, hk, rfl⟩ := List.getElem_of_mem ha
    have := h2 k hk
    rw [rd_mem hk]
    exact ⟨⟨by omega, by show rd xs k < _; omega⟩, by show 0 ≤ rv xs k; omega, by show rv xs k < _; omega⟩
  nil := by decide
  yes := fun xs h => by rw [toR_yes h, toA_lnT]
  no := fun xs h => toR_no h
end Go.Proofs.YtdfbenjccjaejaaDoor
