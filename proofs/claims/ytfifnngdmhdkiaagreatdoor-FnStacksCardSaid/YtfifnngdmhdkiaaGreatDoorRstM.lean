/- Stacks and their texts: what is read of what is written. -/
import Derived.Test.YtfifnngdmhdkiaaGreatDoorRlf
namespace Go.Proofs.YtfifnngdmhdkiaaGreatDoor
open Go.RowKit
set_option linter.unusedVariables false
set_option linter.unusedSimpArgs false
theorem padZ_one (l : List UInt8) (h : 1 ≤ l.length) : padZ 1 l = l := by
  unfold padZ
  rw [show 1 - l.length = 0 by omega]; rfl
theorem dec_pos (n : Nat) : 1 ≤ (Lib.decDigits n).length := by
  rw [Lib.decDigits]; split <;> simp
theorem txP_one (zs : List Int) (j : Nat) (h : 0 ≤ ug zs j) : txP zs (fun _ => 1) j = Lib.decDigits (ug zs j).toNat := by
  unfold txP
  obtain ⟨n, hn⟩ : ∃ n : Nat, ug zs j = n := ⟨(ug zs j).toNat, by omega⟩
  rw [hn, itoa_nat, padZ_one _ (dec_pos n), Int.toNat_natCast]
def wdsS (zs : List Int) : List (List UInt8) := (zs.map fun z => Lib.decDigits z.toNat).reverse
theorem parts_eq (zs : List Int) (h : ∀ z ∈ zs, 0 ≤ z) : (List.range zs.length).map (fun j => txP zs (fun _ => 1) (zs.length - 1 - j)) = wdsS zs := by
  apply List.ext_getElem
  · simp [wdsS]
  · intro i h1 h2
    have hi : i < zs.length := by simpa using h1
    have hk : zs.length - 1 - i < zs.length := by omega
    have hz : ug zs (zs.length - 1 - i) = zs[zs.length - 1 - i] := by unfold ug; rw [List.getElem?_eq_getElem hk]; rfl
    rw [List.getElem_map, List.getElem_range, txP_one _ _ (by rw [hz]; exact h _ (List.getElem_mem _)), hz]
    simp [wdsS, List.getElem_reverse]
theorem txT_wds (zs : List Int) (h : ∀ z ∈ zs, 0 ≤ z) : txT zs (fun _ => 1) = Lib.join (wdsS zs) [58] := by rw [txT_eq, parts_eq zs h]
theorem nm_wds (zs : List Int) (h : ∀ z ∈ zs, 0 ≤ z ∧ z ≤ 100) : nmL (wdsS zs) = zs := by
  unfold nmL wdsS
  rw [List.reverse_reverse, List.map_map]
  conv => rhs; rw [← List.map_id zs]
  apply List.map_congr_left
  intro z hz
  obtain ⟨n, rfl⟩ : ∃ n : Nat, z = n := ⟨z.toNat, by have := h z hz; omega⟩
  have hn : n < 1000000000 := by have := h _ hz; omega
  simp only [Function.comp, Int.toNat_natCast, id]
  rw [(can_of n hn).2]
theorem wds_nm (ps : List (List UInt8)) (h : ps.all okW = true) : wdsS (nmL ps) = ps := by
  unfold nmL wdsS
  rw [List.map_map, ← List.map_reverse, List.reverse_reverse]
  conv => rhs; rw [← List.map_id ps]
  apply List.map_congr_left
  intro p hp
  have := List.all_eq_true.1 h p hp
  unfold okW at this
  simp only [Bool.and_eq_true] at this
  simp only [Function.comp, Int.toNat_natCast, id]
  exact of_can this.1
theorem dec_digs (n : Nat) (h : n < 1000000000) : (Lib.decDigits n).all digB = true := by
  have := (can_of n h).1
  unfold canB at this
  simp only [Bool.and_eq_true] at this
  exact this.2
theorem no_colon {p : List UInt8} (h : p.all digB = true) : (58 : UInt8) ∉ p := fun hm => by
  have := List.all_eq_true.1 h 58 hm
  revert this; decide
theorem okL_mem {zs : List Int} (h : okL zs = true) : 1 ≤ zs.length ∧ zs.length ≤ 8 ∧ ∀ z ∈ zs, 2 ≤ z ∧ z ≤ 100 := by
  obtain ⟨h1, h8, hin, _, _⟩ := okL_out h
  refine ⟨h1, h8, fun z hz => ?_⟩
  obtain ⟨j, hj, rfl⟩ := List.getElem_of_mem hz
  have := hin j hj
  rw [List.getElem?_eq_getElem hj] at this
  exact this
/-- a valid stack is read of its text -/
theorem stkR_of {zs : List Int} (h : okL zs = true) : stkR (txS zs) = some zs := by
  obtain ⟨h1, h8, hz⟩ := okL_mem h
  have hsp : spl 58 (txS zs) = wdsS zs := by
    rw [txS_yes h, txT_wds zs (fun z k => by have := hz z k; omega)]
    refine spl_join 58 _ (fun e => ?_) (fun p hp => ?_)
    · have := congrArg List.length e
      simp [wdsS] at this
      rw [this] at h1; simp at h1
    · simp only [wdsS, List.mem_reverse, List.mem_map] at hp
      obtain ⟨z, hzm, rfl⟩ := hp
      have := hz z hzm
      exact no_colon (dec_digs _ (by omega))
  have hok : (wdsS zs).all okW = true := by
    rw [List.all_eq_true]
    intro p hp
    simp only [wdsS, List.mem_reverse, List.mem_map] at hp
    obtain ⟨z, hzm, rfl⟩ := hp
    have hb := hz z hzm
    obtain ⟨c1, c2⟩ := can_of z.toNat (by omega)
    unfold okW
    rw [c1, c2]
    simp; omega
  have hnm := nm_wds zs (fun z k => by have := hz z k; omega)
  rw [stkR_all (by rw [hsp]; exact hok), hsp, hnm, if_pos h]
/-- what is read has the text -/
theorem stkR_text {l : List UInt8} {zs : List Int} (h : stkR l = some zs) : okL zs = true ∧ txS zs = l ∧ (spl 58 l).all okW = true ∧ zs = nmL (spl 58 l) := by
  by_cases ha : (spl 58 l).all okW = true
  · rw [stkR_all ha] at h
    by_cases ho : okL (nmL (spl 58 l)) = true
    · rw [if_pos ho] at h
      injection h with h
      subst h
      refine ⟨ho, ?_, ha, rfl⟩
      rw [txS_yes ho, txT_wds _ (fun z hz => by
        simp only [nmL, List.mem_map] at hz
        obtain ⟨p, _, rfl⟩ := hz
        omega), wds_nm _ ha, join_spl]
    · rw [if_neg ho] at h; cases h
  · rw [stkR, if_neg (by simp [ha])] at h; cases h
/-- the program's words of a text that is a stack's -/
theorem w9_of {t : ByteArray} {zs : List Int} (h : stkR t.data.toList = some zs) : ((w9 t).all fun p => (pw p).isSome) = true ∧ (w9 t).reverse.map pwI = zs := by
  obtain ⟨ho, _, ha, rfl⟩ := stkR_text h
  obtain ⟨l, hl⟩ : ∃ l, t.data.toList = l := ⟨_, rfl⟩
  rw [hl] at ha ho ⊢
  have h8 := (okL_mem ho).2.1
  rw [nmL_len] at h8
  have hsum := spl_sum 58 l
  have hsz : t.size = l.length := by rw [← hl, Array.length_toList]; rfl
  have hne : ∀ p ∈ spl 58 l, p ≠ [] ∧ p.all digB = true ∧ numV p ≤ 100 := fun p hp => by
    have h1 := List.all_eq_true.1 ha p hp
    unfold okW canB at h1
    simp only [Bool.and_eq_true, decide_eq_true_eq] at h1
    exact ⟨fun e => by subst e; simp at h1, h1.1.2, h1.2⟩
  have hw : (w9 t).map (·.data.toList) = spl 58 l := by
    unfold w9
    rw [Lib.splitB_data, hl]
    have e := splitK_join 58 (min 9 (t.size + 1) - 1) (spl 58 l) (spl_ne 58 l) (fun p hp => no_colon (hne p hp).2.1) (by omega)
    rw [join_spl] at e
    exact e
  have hpw : ∀ p ∈ w9 t, pw p = some (numV p.data.toList) := fun p hp => by
    have hm : p.data.toList ∈ spl 58 l := by rw [← hw]; exact List.mem_map.2 ⟨p, hp, rfl⟩
    obtain ⟨a, b, c⟩ := hne _ hm
    unfold pw
    rw [parse8_num a b (by omega)]
  refine ⟨?_, ?_⟩
  · rw [List.all_eq_true]
    intro p hp
    rw [hpw p hp]; rfl
  · unfold nmL
    rw [← hw, ← List.map_reverse, List.map_map]
    apply List.map_congr_left
    intro p hp
    unfold pwI
    rw [hpw p (by simpa using hp)]
    rfl
end Go.Proofs.YtfifnngdmhdkiaaGreatDoor
