/- The law over ShortActs. -/
import Derived.Test.YtbbdaamhajecfaaDoorShD
namespace Go.Proofs.YtbbdaamhajecfaaDoor
open Go.RowKit
set_option linter.unusedVariables false
set_option linter.unusedSimpArgs false
theorem OwnA.only {g base : Nat} {w w' : World} {v : Value} {zs : List (Int × Int)} (h : OwnA w base v zs) (o : OnlyB g w w') (hg : g < base) : OwnA w' base v zs := by
  obtain ⟨a, cap, h1, h2, h3⟩ := h
  refine ⟨a, cap, h1, h2, ?_⟩
  rcases h3 with h0 | ⟨q, rest, e, hq, hr⟩
  · exact .inl h0
  · exact .inr ⟨q, rest, e, hq, o.row hr (by omega)⟩
set_option maxRecDepth 100000 in
set_option maxHeartbeats 16000000 in
theorem law_FnExactShortActs (a' : Option Addr) (len' cap' : Nat) (js : List (Int × Int)) (w : World) (hl' : len' ≤ 9223372036854775807) (h' : InAc w a' len' js) (a0 a1 a2 a3 : Addr) (hSN : SN w a0 a1 a2 a3) :
    Calls Tryd.prog 3 #[.slice a' len' cap'] w fun e w' => e = .returned (.bool true) ∧ Below w.heap.size w w' := by
  by_cases hs : 1048576 < len'
  · have HY := hid (fun w => szActs_no a' len' cap' w hs hl')
    clear h' hs hl' hSN
    go_enter Tryd.func3, Tryd.ntmps3
    go_wp2_with fail
    refine (HY.out _).mono ?_
    rintro e w' ⟨rfl, rfl⟩
    go_wp2_with fail
    go_ret
    exact ⟨rfl, Below.refl _ _⟩
  have hle : len' ≤ 1048576 := by omega
  have HJ := hid h'; have HSN := hid hSN; have HNJ := hid (show len' = js.length from h'.1.symm)
  have HSP := hid (fun (Y : Nat) (w1 : World) (hA : Ast w1 Y js) => specShortActs_any Y len' len' js w1 hA HNJ.out)
  have HIM := hid (fun (Y : Nat) (w1 : World) (hA : Ast w1 Y js) (hN : SN w1 a0 a1 a2 a3) => implShortActs_any Y len' len' js w1 hA HNJ.out a0 a1 a2 a3 hN)
  obtain ⟨E, hE⟩ : ∃ y, shL js = y := ⟨_, rfl⟩
  obtain ⟨c, hc⟩ : ∃ y, shC js = y := ⟨_, rfl⟩
  rw [hE, hc] at HSP HIM
  have fc : (c != c) = false := by simp
  have fE : ((1 + 2 * (E.length : Int)) != (1 + 2 * (E.length : Int))) = false := by simp
  have f3 : (0 : Int) ≤ 1 + 2 * (E.length : Int) := by omega
  have f4 : (0 : Int) ≤ 1 + 2 * (len' : Int) := by omega
  have hz : (0 : Int) ≤ 1048576 - (len' : Int) := by omega
  have q : Below w.heap.size w w := Below.refl _ _
  clear hs h' hSN hE hc
  go_enter Tryd.func3, Tryd.ntmps3
  go_wp2_with fail
  with_reducible refine (szActs_ok a' len' cap' w hle).mono ?_
  rintro e w2 ⟨rfl, hw2⟩
  subst hw2
  go_wp2_with fail
  with_reducible refine (toActsR_any a' len' cap' js _ (HJ.out.below q (Nat.le_refl _)) hle).mono ?_
  rintro e w4 ⟨rfl, hB, hY, _⟩
  replace q := q.trans (hB.mono q.size)
  clear hB
  go_wp2_with fail
  with_reducible refine (HSP.out _ w4 hY).mono ?_
  rintro e V3 ⟨v3, rfl, O3, hB⟩
  replace q := q.trans (hB.mono q.size)
  clear hB hY
  have c3b : Below V3.heap.size V3 V3 := Below.refl _ _
  have HQ0 := hid q.size
  go_wp2_with fail
  with_reducible refine (toActsR_any a' len' cap' js V3 (HJ.out.below q (Nat.le_refl _)) hle).mono ?_
  rintro e V9 ⟨rfl, hB, hY, ⟨ya, hya, hYr⟩⟩
  replace q := q.trans (hB.mono q.size)
  replace c3b := c3b.trans (hB.mono c3b.size)
  clear hB
  have hYlt := hid hY.1
  obtain ⟨Y, hYY⟩ : ∃ y, y = V3.heap.size := ⟨_, rfl⟩
  rw [← hYY] at hY hYr hYlt ⊢
  have HY3 := hid (show V3.heap.size ≤ Y by rw [hYY]; exact Nat.le_refl _)
  have HQ3 := hid (show w.heap.size ≤ V9.heap.size from q.size)
  have HWY := hid (show w.heap.size ≤ V3.heap.size from HQ0.out)
  clear hYY
  have d : Below V9.heap.size V9 V9 := Below.refl _ _
  go_wp2_with fail
  with_reducible refine (HIM.out Y V9 hY (HSN.out.below q trivial)).mono ?_
  rintro e V6 ⟨v6, rfl, G6, hB⟩
  replace q := q.trans (hB.mono q.size)
  replace c3b := c3b.trans (hB.mono c3b.size)
  replace d := d.trans (hB.mono d.size)
  clear hB
  have e : Below V6.heap.size V6 V6 := Below.refl _ _
  go_wp2_with fail
  with_reducible refine (eqA_own _ _ v6 v3 E _ (G6.keep e) (O3.keep c3b)).mono ?_
  rintro e w11 ⟨rfl, hB⟩
  replace q := q.trans (hB.mono q.size)
  replace c3b := c3b.trans (hB.mono c3b.size)
  replace d := d.trans (hB.mono d.size)
  replace e := e.trans (hB.mono e.size)
  clear hB
  go_wp2_with fail
  with_reducible refine (toActsR_any a' len' cap' js _ (HJ.out.below q (Nat.le_refl _)) hle).mono ?_
  rintro e1 wa ⟨rfl, hB, hY2, _⟩
  replace q := q.trans (hB.mono q.size)
  replace c3b := c3b.trans (hB.mono c3b.size)
  replace d := d.trans (hB.mono d.size)
  replace e := e.trans (hB.mono e.size)
  clear hB
  go_wp2_with fail
  with_reducible refine (eqActs_same Y _ len' len' len' js wa (hY.below d hYlt.out) hY2 HNJ.out).mono ?_
  rintro e1 wb ⟨rfl, hB⟩
  replace q := q.trans (hB.mono q.size)
  replace c3b := c3b.trans (hB.mono c3b.size)
  replace d := d.trans (hB.mono d.size)
  replace e := e.trans (hB.mono e.size)
  clear hB hY2
  replace hYr := hYr.below d hYr.lt
  go_wp2_with fail
  with_reducible refine (markActS_any Y len' len' 1 ya hya (by omega) (by omega) _ hYr).mono ?_
  rintro e1 w14 ⟨rfl, ho⟩
  have hYb := hYlt.out
  have hY3 := HY3.out
  have hw3 := HWY.out
  replace G6 := (G6.keep e).only ho (by omega)
  have hHS := ho.1
  replace q := q.trans (ho.2.2.mono (by omega))
  replace c3b := c3b.trans (ho.2.2.mono (by omega))
  have hb5 : V9.heap.size ≤ w14.heap.size := by rw [hHS]; exact d.size
  clear ho hHS e d
  have e : Below w14.heap.size w14 w14 := Below.refl _ _
  go_wp2_with fail
  with_reducible refine (eqA_own _ _ v6 v3 E _ (G6.keep e) (O3.keep c3b)).mono ?_
  rintro e w15 ⟨rfl, hB⟩
  replace q := q.trans (hB.mono q.size)
  replace c3b := c3b.trans (hB.mono c3b.size)
  replace e := e.trans (hB.mono e.size)
  clear hB
  go_wp2_with fail
  with_reducible refine (markA_own V9.heap.size v6 E _ (G6.keep e)).mono ?_
  rintro e1 w16 ⟨rfl, M16, hB, hS16⟩
  have h93 : V3.heap.size ≤ V9.heap.size := by omega
  replace q := q.trans (hB.mono (by omega))
  replace c3b := c3b.trans (hB.mono (by omega))
  clear hB e G6 hS16
  have e : Below w16.heap.size w16 w16 := Below.refl _ _
  go_wp2_with fail
  with_reducible refine (heldA_own V9.heap.size v6 E.length _ (M16.keep e)).mono ?_
  rintro e1 w17 ⟨rfl, dd, hdd⟩
  have hB : Below w16.heap.size w16 w17 := by rw [hdd]; exact below_drewN (Below.refl _ _) _
  clear hdd
  replace q := q.trans (hB.mono q.size)
  replace c3b := c3b.trans (hB.mono c3b.size)
  replace e := e.trans (hB.mono e.size)
  clear hB
  go_wp2_with fail
  with_reducible refine (toActsR_any a' len' cap' js _ (HJ.out.below q (Nat.le_refl _)) hle).mono ?_
  rintro e1 w19 ⟨rfl, hB, hY3', _⟩
  replace q := q.trans (hB.mono q.size)
  replace c3b := c3b.trans (hB.mono c3b.size)
  replace e := e.trans (hB.mono e.size)
  clear hB
  go_wp2_with fail
  with_reducible refine (HIM.out _ w19 hY3' (HSN.out.below q trivial)).mono ?_
  rintro e1 w20 ⟨v9, rfl, H9, hB⟩
  replace q := q.trans (hB.mono q.size)
  replace c3b := c3b.trans (hB.mono c3b.size)
  replace e := e.trans (hB.mono e.size)
  clear hB
  have s9 : Below w20.heap.size w20 w20 := Below.refl _ _
  go_wp2_with fail
  with_reducible refine (eqA_own _ _ v9 v3 E _ (H9.keep s9) (O3.keep c3b)).mono ?_
  rintro e w21 ⟨rfl, hB⟩
  replace q := q.trans (hB.mono q.size)
  replace c3b := c3b.trans (hB.mono c3b.size)
  replace e := e.trans (hB.mono e.size)
  replace s9 := s9.trans (hB.mono s9.size)
  clear hB
  go_wp2_with fail
  with_reducible refine (heldA_own V9.heap.size v6 E.length _ (M16.keep e)).mono ?_
  rintro e1 w22 ⟨rfl, dd, hdd⟩
  have hB : Below w21.heap.size w21 w22 := by rw [hdd]; exact below_drewN (Below.refl _ _) _
  clear hdd
  replace q := q.trans (hB.mono q.size)
  replace c3b := c3b.trans (hB.mono c3b.size)
  replace e := e.trans (hB.mono e.size)
  replace s9 := s9.trans (hB.mono s9.size)
  clear hB
  go_wp2_with fail
  go_ret
  exact ⟨rfl, q⟩
end Go.Proofs.YtbbdaamhajecfaaDoor
