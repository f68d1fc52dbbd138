/- Digits and their texts: what is read of what is written. -/
import Derived.Test.YtfifnngdmhdkiaaGreatDoorRstM
import Derived.Test.YtfifnngdmhdkiaaGreatDoorTxE
namespace Go.Proofs.YtfifnngdmhdkiaaGreatDoor
open Go.RowKit
set_option linter.unusedVariables false
set_option linter.unusedSimpArgs false
/-- the text of one digit -/
def dgT (z v : Int) : List UInt8 := padZ (padZ 1 (Lib.itoa (z - 1))).length (Lib.itoa v)
theorem numV_zero (l : List UInt8) : numV (48 :: l) = numV l := by simp [numV]
theorem dgT_facts (z v : Int) (hz : 2 ≤ z ∧ z ≤ 100) (hv : 0 ≤ v ∧ v < z) : (dgT z v).length ≤ 2 ∧ 1 ≤ (dgT z v).length ∧ (dgT z v).all digB = true ∧ (numV (dgT z v) : Int) = v := by
  obtain ⟨n, rfl⟩ : ∃ n : Nat, v = n := ⟨v.toNat, by omega⟩
  have hn : n < 1000000000 := by omega
  have hl := itoa_len (n : Int) (by omega)
  have hc := can_of n hn
  have hd := dec_digs n hn
  have e := itoa_nat n
  by_cases h : 10 < z ∧ (n : Int) < 10
  · have := pad_pos z n hz hv h.1 h.2
    unfold dgT
    rw [this, numV_zero]
    rw [e] at hl ⊢
    rw [if_pos h.2] at hl
    refine ⟨by simp; omega, by simp, by rw [List.all_cons, hd]; decide, by rw [hc.2]⟩
  · have := pad_neg z n hz hv h
    unfold dgT
    rw [this]
    rw [e] at hl ⊢
    refine ⟨by rw [hl]; split <;> omega, by rw [hl]; split <;> omega, hd, by rw [hc.2]⟩
/-- these digits have this text -/
def Dg (zs : List Int) (l : List UInt8) (ds : List Int) : Prop :=
  ds.length = 8 ∧ (spl 58 l).length = zs.length ∧ (∀ j, j < zs.length → (0 ≤ ug ds j ∧ ug ds j < ug zs j) ∧ (spl 58 l)[zs.length - 1 - j]? = some (dgT (ug zs j) (ug ds j))) ∧ (∀ j, zs.length ≤ j → j < 8 → ug ds j = 0)
theorem Dg.valid {zs : List Int} {l : List UInt8} {ds : List Int} (ho : okL zs = true) (h : Dg zs l ds) : okV zs ds = true := by
  rw [okV_yes ho]
  exact okD_of fun j hj => ⟨fun hz => (h.2.2.1 j hz).1.2, fun hz => h.2.2.2 j hz hj⟩
theorem txT_parts (zs ds : List Int) (h8 : zs.length ≤ 8) (hd : ds.length = 8) : txT (ds.take zs.length) (wdD zs) = Lib.join ((List.range zs.length).map fun j => dgT (ug zs (zs.length - 1 - j)) (ug ds (zs.length - 1 - j))) [58] := by
  rw [txT_eq]
  have hl : (ds.take zs.length).length = zs.length := by simp; omega
  rw [hl]
  congr 1
  apply List.map_congr_left
  intro j hj
  have hj' : j < zs.length := by simpa using hj
  unfold txP dgT
  rw [ug_take _ _ _ (by omega)]
  rfl
theorem Dg.text {zs : List Int} {l : List UInt8} {ds : List Int} (ho : okL zs = true) (h : Dg zs l ds) : txD zs ds = l := by
  have h8 := (okL_mem ho).2.1
  rw [txD_yes (h.valid ho), txT_parts zs ds h8 h.1]
  have e : ((List.range zs.length).map fun j => dgT (ug zs (zs.length - 1 - j)) (ug ds (zs.length - 1 - j))) = spl 58 l := by
    apply List.ext_getElem?
    intro i
    by_cases hi : i < zs.length
    · have := (h.2.2.1 (zs.length - 1 - i) (by omega)).2
      rw [show zs.length - 1 - (zs.length - 1 - i) = i by omega] at this
      rw [this, List.getElem?_map]
      simp [hi]
    · rw [List.getElem?_eq_none (by simp; omega), List.getElem?_eq_none (by rw [h.2.1]; omega)]
  rw [e, join_spl]
theorem Dg.of {zs ds : List Int} (hd : ds.length = 8) (hp : ∀ j, j < 8 → 0 ≤ ug ds j) (ho : okV zs ds = true) : Dg zs (txD zs ds) ds := by
  obtain ⟨hL, hD⟩ := okV_out ho
  obtain ⟨h1, h8, hz⟩ := okL_mem hL
  have hto := okD_out hD
  have hzb : ∀ j, j < zs.length → 2 ≤ ug zs j ∧ ug zs j ≤ 100 := fun j hj => by
    unfold ug
    rw [List.getElem?_eq_getElem hj]
    exact hz _ (List.getElem_mem _)
  have hvb : ∀ j, j < zs.length → 0 ≤ ug ds j ∧ ug ds j < ug zs j := fun j hj => ⟨hp j (by omega), (hto j (by omega)).1 hj⟩
  have hsp : spl 58 (txD zs ds) = (List.range zs.length).map fun j => dgT (ug zs (zs.length - 1 - j)) (ug ds (zs.length - 1 - j)) := by
    rw [txD_yes ho, txT_parts zs ds h8 hd]
    refine spl_join 58 _ (fun e => ?_) (fun p hp2 => ?_)
    · have := congrArg List.length e
      simp at this
      rw [this] at h1; simp at h1
    · simp only [List.mem_map, List.mem_range] at hp2
      obtain ⟨j, hj, rfl⟩ := hp2
      exact no_colon (dgT_facts _ _ (hzb _ (by omega)) (hvb _ (by omega))).2.2.1
  refine ⟨hd, by rw [hsp]; simp, fun j hj => ⟨hvb j hj, ?_⟩, fun j hj hj8 => (hto j hj8).2 hj⟩
  rw [hsp, List.getElem?_map, List.getElem?_range (by omega)]
  simp only [Option.map_some]
  rw [show zs.length - 1 - (zs.length - 1 - j) = j by omega]
theorem Dg.uniq {zs : List Int} {l : List UInt8} {ds es : List Int} (ho : okL zs = true) (h : Dg zs l ds) (k : Dg zs l es) : ds = es := by
  obtain ⟨h1, h8, hz⟩ := okL_mem ho
  apply List.ext_getElem?
  intro j
  by_cases hj8 : j < 8
  · have e : ug ds j = ug es j := by
      by_cases hj : j < zs.length
      · have a := h.2.2.1 j hj; have b := k.2.2.1 j hj
        have hzb : 2 ≤ ug zs j ∧ ug zs j ≤ 100 := by unfold ug; rw [List.getElem?_eq_getElem hj]; exact hz _ (List.getElem_mem _)
        have c := a.2.symm.trans b.2
        injection c with c
        have p := (dgT_facts _ _ hzb a.1).2.2.2
        have q := (dgT_facts _ _ hzb b.1).2.2.2
        rw [c, q] at p
        exact p.symm
      · rw [h.2.2.2 j (by omega) hj8, k.2.2.2 j (by omega) hj8]
    unfold ug at e
    rw [List.getElem?_eq_getElem (by rw [h.1]; exact hj8), List.getElem?_eq_getElem (by rw [k.1]; exact hj8)] at e ⊢
    simpa using e
  · rw [List.getElem?_eq_none (by rw [h.1]; omega), List.getElem?_eq_none (by rw [k.1]; omega)]
/-- digits of numbers that were read: eight of them, zeros behind -/
def padD (xs : List Int) : List Int := xs.take 8 ++ List.replicate (8 - min 8 xs.length) 0
theorem padD_len (xs : List Int) : (padD xs).length = 8 := by simp [padD]; omega
theorem padD_bd {xs : List Int} (h : ∀ z ∈ xs, 0 ≤ z ∧ z ≤ 255) : ∀ z ∈ padD xs, 0 ≤ z ∧ z ≤ 255 := fun z hz => by
  unfold padD at hz
  rcases List.mem_append.1 hz with hz | hz
  · exact h z (List.mem_of_mem_take hz)
  · have := (List.mem_replicate.1 hz).2; omega
/-- the program's words of a text that is of digits -/
theorem w9_dg {t : ByteArray} {zs ds : List Int} (ho : okL zs = true) (h : Dg zs t.data.toList ds) : ((w9 t).all fun p => (pw p).isSome) = true ∧ padD ((w9 t).reverse.map pwI) = ds := by
  obtain ⟨h1, h8, hz⟩ := okL_mem ho
  obtain ⟨l, hl⟩ : ∃ l, t.data.toList = l := ⟨_, rfl⟩
  rw [hl] at h
  have hsum := spl_sum 58 l
  have hsz : t.size = l.length := by rw [← hl, Array.length_toList]; rfl
  have hzb : ∀ j, j < zs.length → 2 ≤ ug zs j ∧ ug zs j ≤ 100 := fun j hj => by unfold ug; rw [List.getElem?_eq_getElem hj]; exact hz _ (List.getElem_mem _)
  have hwd : ∀ i, i < zs.length → (spl 58 l)[i]? = some (dgT (ug zs (zs.length - 1 - i)) (ug ds (zs.length - 1 - i))) := fun i hi => by
    have := (h.2.2.1 (zs.length - 1 - i) (by omega)).2
    rw [show zs.length - 1 - (zs.length - 1 - i) = i by omega] at this
    exact this
  have hne : ∀ p ∈ spl 58 l, p ≠ [] ∧ p.all digB = true ∧ numV p ≤ 255 := fun p hp => by
    obtain ⟨i, hi, rfl⟩ := List.getElem_of_mem hp
    have hi2 : i < zs.length := by rw [← h.2.1]; exact hi
    have e := hwd i hi2
    rw [List.getElem?_eq_getElem hi] at e
    injection e with e
    have f := dgT_facts _ _ (hzb (zs.length - 1 - i) (by omega)) (h.2.2.1 (zs.length - 1 - i) (by omega)).1
    have g := (h.2.2.1 (zs.length - 1 - i) (by omega)).1
    have gz := hzb (zs.length - 1 - i) (by omega)
    rw [e]
    exact ⟨fun e => by rw [e] at f; simp at f, f.2.2.1, by omega⟩
  have hw : (w9 t).map (·.data.toList) = spl 58 l := by
    unfold w9
    rw [Lib.splitB_data, hl]
    have e := splitK_join 58 (min 9 (t.size + 1) - 1) (spl 58 l) (spl_ne 58 l) (fun p hp => no_colon (hne p hp).2.1) (by have := h.2.1; omega)
    rw [join_spl] at e
    exact e
  have hpw : ∀ p ∈ w9 t, pw p = some (numV p.data.toList) := fun p hp => by
    have hm : p.data.toList ∈ spl 58 l := by rw [← hw]; exact List.mem_map.2 ⟨p, hp, rfl⟩
    obtain ⟨a, b, c⟩ := hne _ hm
    unfold pw
    rw [parse8_num a b c]
  have hxs : (w9 t).reverse.map pwI = ds.take zs.length := by
    have e1 : (w9 t).reverse.map pwI = (spl 58 l).reverse.map fun p => (numV p : Int) := by
      rw [← hw, ← List.map_reverse, List.map_map]
      apply List.map_congr_left
      intro p hp
      unfold pwI
      rw [hpw p (by simpa using hp)]
      rfl
    rw [e1]
    apply List.ext_getElem?
    intro j
    by_cases hj : j < zs.length
    · have a := h.2.2.1 j hj
      rw [List.getElem?_map, List.getElem?_reverse (by rw [h.2.1]; exact hj), h.2.1, a.2, List.getElem?_take, if_pos hj]
      simp only [Option.map_some]
      rw [(dgT_facts _ _ (hzb j hj) a.1).2.2.2]
      unfold ug
      rw [List.getElem?_eq_getElem (by rw [h.1]; omega)]
      rfl
    · rw [List.getElem?_eq_none (by simp [h.2.1]; omega), List.getElem?_eq_none (by simp; omega)]
  refine ⟨?_, ?_⟩
  · rw [List.all_eq_true]
    intro p hp
    rw [hpw p hp]; rfl
  · rw [hxs]
    unfold padD
    apply List.ext_getElem?
    intro j
    have hdl := h.1
    have htl : (List.take 8 (List.take zs.length ds)).length = zs.length := by simp; omega
    have ht2 : (List.take zs.length ds).length = zs.length := by simp; omega
    by_cases hj : j < zs.length
    · rw [List.getElem?_append_left (by rw [htl]; exact hj)]
      rw [List.getElem?_take, if_pos (by omega), List.getElem?_take, if_pos hj]
    · rw [List.getElem?_append_right (by rw [htl]; omega), htl, ht2, List.getElem?_replicate]
      by_cases hj8 : j < 8
      · have := h.2.2.2 j (by omega) hj8
        unfold ug at this
        rw [List.getElem?_eq_getElem (by omega)] at this ⊢
        simp only [Option.getD_some] at this
        rw [if_pos (by omega), this]
      · rw [if_neg (by omega), List.getElem?_eq_none (by omega)]
end Go.Proofs.YtfifnngdmhdkiaaGreatDoor
