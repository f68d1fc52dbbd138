/- Acts and their texts: what is read of what is written. -/
import Derived.Test.YtoenefhobjpfdaaGreatDoorAcT
import Derived.Test.YtoenefhobjpfdaaGreatDoorLnK
import Derived.Test.YtoenefhobjpfdaaGreatDoorPiM
namespace Go.Proofs.YtoenefhobjpfdaaGreatDoor
open Go.RowKit
set_option linter.unusedVariables false
set_option linter.unusedSimpArgs false
/-- the text of an act, without its newline -/
def aTx (a : Int × Int) : List UInt8 := if a.1 ≤ 3 then wordA a.1 ++ [32] ++ Lib.itoa a.2 else wordA a.1
theorem acW_aTx (k n : Int) : acW k n = aTx (k, n) ++ [10] := by
  unfold acW aTx
  simp only
  split <;> rfl
theorem acA_lnT (js : List (Int × Int)) : acA js js.length = lnT (js.map aTx) := by
  unfold acA lnT
  congr 1
  apply List.ext_getElem?
  intro k
  by_cases hk : k < js.length
  · rw [List.getElem?_map, List.getElem?_range hk, List.map_map, List.getElem?_map, List.getElem?_eq_getElem hk]
    simp only [Option.map_some, Function.comp]
    unfold acP
    rw [acW_aTx, show js[k] = (ak js k, an js k) from by unfold ak an; rw [List.getElem?_eq_getElem hk]; rfl]
  · rw [List.getElem?_eq_none (by simp; omega), List.getElem?_eq_none (by simp; omega)]
/-- a number that may have a sign, as the model reads it -/
def numSg (y : List UInt8) : Option Int := match y with
  | [] => none
  | c :: r => if c = 45 then (if canD r ∧ 0 < numV r then some (-(numV r : Int)) else none) else if canD (c :: r) then some (numV (c :: r) : Int) else none
/-- the kind of a word, or 0 -/
def kindW (x : List UInt8) : Int := if x = wordA 1 then 1 else if x = wordA 2 then 2 else if x = wordA 3 then 3 else if x = wordA 4 then 4 else if x = wordA 5 then 5 else 0
def isK (k : Int) : Prop := k = 1 ∨ k = 2 ∨ k = 3 ∨ k = 4 ∨ k = 5
theorem wordA_inj {k j : Int} (hk : isK k) (hj : isK j) (h : wordA k = wordA j) : k = j := by
  unfold isK at hk hj
  rcases hk with rfl | rfl | rfl | rfl | rfl <;> rcases hj with rfl | rfl | rfl | rfl | rfl <;> first | rfl | (exact absurd h (by decide))
theorem kindW_word {k : Int} (hk : isK k) : kindW (wordA k) = k := by
  unfold isK at hk
  rcases hk with rfl | rfl | rfl | rfl | rfl <;> decide
theorem kindW_out {x : List UInt8} {k : Int} (h : kindW x = k) (hk : isK k) : x = wordA k := by
  unfold kindW at h
  unfold isK at hk
  split at h
  · subst h; assumption
  split at h
  · subst h; assumption
  split at h
  · subst h; assumption
  split at h
  · subst h; assumption
  split at h
  · subst h; assumption
  · omega
theorem kindW_cases (x : List UInt8) : isK (kindW x) ∨ (kindW x = 0 ∧ ∀ k, isK k → x ≠ wordA k) := by
  by_cases h : isK (kindW x)
  · exact .inl h
  · have hn : ∀ k, isK k → x ≠ wordA k := fun k hk e => h (by rw [e, kindW_word hk]; exact hk)
    refine .inr ⟨?_, hn⟩
    unfold kindW
    rw [if_neg (hn 1 (by unfold isK; omega)), if_neg (hn 2 (by unfold isK; omega)), if_neg (hn 3 (by unfold isK; omega)), if_neg (hn 4 (by unfold isK; omega)), if_neg (hn 5 (by unfold isK; omega))]
/-- an act's line, as the model reads it -/
def acWd (p : List UInt8) : Option (Int × Int) := match spl 32 p with
  | x :: r => if kindW x = 0 then none else if 3 < kindW x then (if r = [] then some (kindW x, 0) else none) else (match r with
    | [y] => (match numSg y with | some n => if okAct (kindW x) n then some (kindW x, n) else none | none => none)
    | _ => none)
  | [] => none
/-- the place of a word in the program's list, or -1 -/
def idxW (x : List UInt8) : Int := if x = [] then 0 else if kindW x = 0 then -1 else kindW x
/-- an act's line, as the program reads it -/
def acF (p : ByteArray) : Option (Int × Int) := if (Lib.cut p.data.toList [32]).2.1 = [] then some (idxW (Lib.cut p.data.toList [32]).1, 0) else (match pi64 (Lib.cut p.data.toList [32]).2.1 with | some n => some (idxW (Lib.cut p.data.toList [32]).1, n) | none => none)
def acOk (js : List (Int × Int)) : Bool := okAs js && decide (js.length ≤ 60)
def acOkA (a : Int × Int) : Prop := okAct a.1 a.2 = true
theorem wordA_no (k : Int) {c : UInt8} (h : c = 32 ∨ c = 10) : c ∉ wordA k := by
  unfold wordA
  rcases h with rfl | rfl
  all_goals
    split
    · decide
    split
    · decide
    split
    · decide
    split
    · decide
    · decide
theorem wordA_ne (k : Int) : wordA k ≠ [] := by
  unfold wordA
  split
  · decide
  split
  · decide
  split
  · decide
  split
  · decide
  · decide
theorem numSg_itoa {n : Int} (h : -1 ≤ n ∧ n ≤ 1000000000000) : numSg (Lib.itoa n) = some n ∧ pi64 (Lib.itoa n) = some n ∧ Lib.itoa n ≠ [] ∧ (32 : UInt8) ∉ Lib.itoa n ∧ (10 : UInt8) ∉ Lib.itoa n := by
  by_cases h1 : n = -1
  · subst h1
    rw [itoa_neg]
    exact ⟨by decide, by decide, by decide, by decide, by decide⟩
  · obtain ⟨m, rfl⟩ : ∃ m : Nat, n = m := ⟨n.toNat, by omega⟩
    have c := canD_of m (by omega)
    rw [itoa_nat]
    have hd := canD_digs c.1
    refine ⟨?_, by rw [pi64_D c.1, c.2], canD_ne c.1, digs_no (by decide) hd, digs_no (by decide) hd⟩
    unfold numSg
    cases he : Lib.decDigits m with
    | nil => exact absurd he (canD_ne c.1)
    | cons a r =>
      rw [he] at c hd
      simp only
      have ha : a ≠ 45 := fun e => by
        subst e
        simp only [List.all_cons, Bool.and_eq_true] at hd
        exact absurd hd.1 (by decide)
      rw [if_neg ha, if_pos c.1, c.2]
theorem numSg_out {y : List UInt8} {n : Int} (h : numSg y = some n) (hb : -1 ≤ n ∧ n ≤ 1000000000000) : Lib.itoa n = y := by
  unfold numSg at h
  split at h
  · cases h
  · rename_i c r
    split at h
    · rename_i hc
      split at h
      · rename_i hcan
        injection h with h
        have h1 : numV r = 1 := by omega
        have e : n = -1 := by omega
        rw [e, itoa_neg, hc]
        have := canD_dec hcan.1
        rw [h1, show Lib.decDigits 1 = [49] from by rw [Lib.decDigits]; rfl] at this
        rw [← this]
      · cases h
    · split at h
      · rename_i hcan
        injection h with h
        subst h
        rw [itoa_nat, canD_dec hcan]
      · cases h
theorem isK_act {k n : Int} (h : okAct k n = true) : isK k := okAct_kind h
theorem aTx_spl {k n : Int} (h : okAct k n = true) : spl 32 (aTx (k, n)) = if k ≤ 3 then [wordA k, Lib.itoa n] else [wordA k] := by
  have hb := okAct_bd h
  have hn := numSg_itoa (n := n) ⟨hb.1, hb.2.1⟩
  unfold aTx
  simp only
  split
  · rw [List.append_assoc, List.singleton_append, spl_app 32 _ _ (wordA_no k (.inl rfl)), spl_one 32 _ hn.2.2.2.1]
  · rw [spl_one 32 _ (wordA_no k (.inl rfl))]
theorem cut_none (c : UInt8) (p : List UInt8) (h : c ∉ p) : Lib.cut p [c] = (p, [], false) := by
  unfold Lib.cut
  rw [Lib.index_one, indexByte_no c p h, if_neg (by omega)]
theorem lined_ac : Lined acWd acF aTx acOkA acOk acR 61 where
  k1 := by omega
  out := fun p a h => by
    unfold acWd at h
    split at h
    · rename_i x r hs
      have hp : Lib.join (x :: r) [32] = p := by rw [← hs]; exact join_spl 32 p
      rcases kindW_cases x with hk | ⟨h0, _⟩
      · have hx := kindW_out rfl hk
        have hne : ¬ kindW x = 0 := by unfold isK at hk; omega
        rw [if_neg hne] at h
        split at h
        · rename_i h3
          split at h
          · rename_i hr
            injection h with h
            subst h
            subst hr
            rw [Lib.join_one] at hp
            unfold aTx
            simp only
            rw [if_neg (by omega), ← hx, hp]
          · cases h
        · rename_i h3
          split at h
          · rename_i y
            cases hy : numSg y with
            | none => rw [hy] at h; cases h
            | some n =>
              rw [hy] at h
              simp only at h
              split at h
              · rename_i ho
                injection h with h
                subst h
                have hb := okAct_bd ho
                unfold aTx
                simp only
                rw [if_pos (by omega), ← hx, numSg_out hy ⟨hb.1, hb.2.1⟩, ← hp, join_two, Lib.join_one]
                simp
              · cases h
          · cases h
      · rw [if_pos h0] at h; cases h
    · cases h
  back := fun a h => by
    obtain ⟨k, n⟩ := a
    have h : okAct k n = true := h
    have hb := okAct_bd h
    have hn := numSg_itoa (n := n) ⟨hb.1, hb.2.1⟩
    have hk := isK_act h
    have hw := kindW_word hk
    have hne : ¬ k = 0 := by unfold isK at hk; omega
    unfold acWd
    rw [aTx_spl h]
    by_cases h3 : k ≤ 3
    · rw [if_pos h3]
      simp only
      rw [hw, if_neg hne, if_neg (by omega), hn.1]
      simp only
      rw [if_pos h]
    · rw [if_neg h3]
      simp only
      rw [hw, if_neg hne, if_pos (by omega), hb.2.2.2 (by omega)]
      rfl
  read := fun a h p hp => by
    obtain ⟨k, n⟩ := a
    have h : okAct k n = true := h
    have hb := okAct_bd h
    have hn := numSg_itoa (n := n) ⟨hb.1, hb.2.1⟩
    have hk := isK_act h
    have hw := kindW_word hk
    have hne : ¬ k = 0 := by unfold isK at hk; omega
    have hi : idxW (wordA k) = k := by unfold idxW; rw [if_neg (wordA_ne k), hw, if_neg hne]
    unfold acF
    rw [hp]
    unfold aTx
    simp only
    by_cases h3 : k ≤ 3
    · rw [if_pos h3, List.append_assoc, List.singleton_append, cut_oneK 32 _ _ (wordA_no k (.inl rfl))]
      simp only
      rw [if_neg hn.2.2.1, hn.2.1]
      simp only
      rw [hi]
    · rw [if_neg h3, cut_none 32 _ (wordA_no k (.inl rfl))]
      simp only
      rw [if_pos trivial, hi, hb.2.2.2 (by omega)]
  line := fun a h => by
    obtain ⟨k, n⟩ := a
    have h : okAct k n = true := h
    have hb := okAct_bd h
    have hn := numSg_itoa (n := n) ⟨hb.1, hb.2.1⟩
    unfold aTx
    simp only
    split
    · simp only [List.mem_append, List.mem_singleton, not_or]
      exact ⟨⟨wordA_no k (.inr rfl), by decide⟩, hn.2.2.2.2⟩
    · exact wordA_no k (.inr rfl)
  all := fun xs h => by
    unfold acOk at h
    simp only [Bool.and_eq_true, decide_eq_true_eq] at h
    refine ⟨fun a ha => ?_, by omega⟩
    obtain ⟨k, hk, rfl⟩ := List.getElem_of_mem ha
    have := okAs_out h.1 k hk
    rw [show xs[k] = (ak xs k, an xs k) from by unfold ak an; rw [List.getElem?_eq_getElem hk]; rfl]
    exact this
  nil := by decide
  yes := fun xs h => by
    unfold acOk at h
    simp only [Bool.and_eq_true, decide_eq_true_eq] at h
    rw [acR_yes h.1 h.2, acA_lnT]
  no := fun xs h => by
    unfold acOk at h
    cases ho : okAs xs with
    | false => exact acR_bad ho
    | true =>
      rw [ho] at h
      simp at h
      exact acR_long (by omega)
end Go.Proofs.YtoenefhobjpfdaaGreatDoor
