/- SimplestPortion: the program's answer. -/
import Derived.Test.YtihadhbgkjbkeaaDoorSimSD
import Derived.Deep.DeepCutAuto
namespace Go.Proofs.YtihadhbgkjbkeaaDoor
open Go.RowKit
set_option linter.unusedVariables false
theorem CoreP.put {w : World} {T : TypeId} {p q u v : Int} {w' : World} (h : CoreP w T p q u v w') {g : Nat} (hg : w.heap.size + 1 + 1 < g) (x y : Value) : CoreP w T p q u v ((w'.setCell ⟨g, 0, none⟩ x).setCell ⟨g, 1, none⟩ y) := by
  obtain ⟨h1, h2, h3, h4⟩ := h
  have l : w.heap.size ≤ g := by omega
  have n1 : g ≠ w.heap.size := by omega
  have n2 : g ≠ w.heap.size + 1 := by omega
  have n3 : g ≠ w.heap.size + 1 + 1 := by omega
  exact ⟨(h1.setCell (p := ⟨g, 0, none⟩) l _).setCell (p := ⟨g, 1, none⟩) l _, (h2.other n1 _).other n1 _, (h3.other n2 _).other n2 _, (h4.other n3 _).other n3 _⟩
def cellNat (w : World) (g : Nat) : Nat := match w.cell? ⟨g, 1, none⟩ with | some (.int _ k) => k.toNat | _ => 0
theorem cellNat_row {w : World} {g : Nat} {T : TypeId} {a : Value} {k : Int} (h : Row w g T [a, .int .i64 k]) : cellNat w g = k.toNat := by
  have := h.cell 1
  simp only [List.getElem?_cons_zero, List.getElem?_cons_succ] at this
  rw [cellNat, this]
set_option maxRecDepth 100000 in
set_option maxHeartbeats 4000000 in
theorem implSimplest_any (p q u v : Int) (hp : I64 p) (hq : I64 q) (hu : I64 u) (hv : I64 v) (w : World) :
    Calls Tryd.prog 10 #[.agg #[.int .i64 p, .int .i64 q], .agg #[.int .i64 u, .int .i64 v]] w (GivesB w (pairW (simR p q u v))) := by
  obtain ⟨W, hW⟩ : ∃ W, W = (((w.alloc (.cells #[.int .i64 p, .int .i64 q] 28)).alloc (.cells #[.int .i64 u, .int .i64 v] 28)).alloc (.cells #[.int .i64 0, .int .i64 0] 28)) := ⟨_, rfl⟩
  obtain ⟨q0, q1, q2, bW, sW⟩ := three_boxes2 w 28 28 28 (.int .i64 p) (.int .i64 q) (.int .i64 u) (.int .i64 v) (.int .i64 0) (.int .i64 0) W hW
  have C0 := hid (show CoreP w 28 p q u v W from ⟨bW, q0, q1, q2⟩)
  have HW := hid hW
  clear q0 q1 q2 bW hW sW hp hq hu hv
  cases k1 : okPo p q with
  | false =>
    rw [simR_no1 k1]
    unfold pairW
    obtain ⟨c00, c01, c02, c03, c04, c05, c06, c07⟩ := C0.out.cells
    go_enter Tryd.func10, Tryd.ntmps10
    go_wp2_with fail
    rw [← HW.out]
    refine (validP_any p q _).mono ?_
    rw [k1]
    rintro e w1 ⟨rfl, hB1⟩
    have C1 := hid (C0.out.below hB1)
    clear c00 c01 c02 c03 c04 c05 c06 c07
    obtain ⟨c10, c11, c12, c13, c14, c15, c16, c17⟩ := C1.out.cells
    go_wp2_with fail
    obtain ⟨Y, hY⟩ : ∃ Y, Y = (w1.setCell ⟨w.heap.size + 1 + 1, 0, none⟩ (.int .i64 0)).setCell ⟨w.heap.size + 1 + 1, 1, none⟩ (.int .i64 0) := ⟨_, rfl⟩
    obtain ⟨g0, g1, bY⟩ := C1.out.done (.int .i64 0) (.int .i64 0) Y hY
    try rw [← hY]
    clear c10 c11 c12 c13 c14 c15 c16 c17
    clear hY
    exact bodyPost_ret (v := .tuple #[.agg #[.int .i64 0, .int .i64 0], .int .i64 1]) (by simp [results, Tryd.results10, go_sem, g0, g1]) rfl ⟨rfl, bY⟩
  | true =>
    cases k2 : okPo u v with
    | false =>
      rw [simR_no2 k2]
      unfold pairW
      obtain ⟨c00, c01, c02, c03, c04, c05, c06, c07⟩ := C0.out.cells
      go_enter Tryd.func10, Tryd.ntmps10
      go_wp2_with fail
      rw [← HW.out]
      refine (validP_any p q _).mono ?_
      rw [k1]
      rintro e w1 ⟨rfl, hB1⟩
      have C1 := hid (C0.out.below hB1)
      clear c00 c01 c02 c03 c04 c05 c06 c07
      obtain ⟨c10, c11, c12, c13, c14, c15, c16, c17⟩ := C1.out.cells
      go_wp2_with fail
      refine (validP_any u v _).mono ?_
      rw [k2]
      rintro e w2 ⟨rfl, hB2⟩
      have C2 := hid (C1.out.below hB2)
      clear c10 c11 c12 c13 c14 c15 c16 c17
      obtain ⟨c20, c21, c22, c23, c24, c25, c26, c27⟩ := C2.out.cells
      go_wp2_with fail
      obtain ⟨Y, hY⟩ : ∃ Y, Y = (w2.setCell ⟨w.heap.size + 1 + 1, 0, none⟩ (.int .i64 0)).setCell ⟨w.heap.size + 1 + 1, 1, none⟩ (.int .i64 0) := ⟨_, rfl⟩
      obtain ⟨g0, g1, bY⟩ := C2.out.done (.int .i64 0) (.int .i64 0) Y hY
      try rw [← hY]
      clear c20 c21 c22 c23 c24 c25 c26 c27
      clear hY
      exact bodyPost_ret (v := .tuple #[.agg #[.int .i64 0, .int .i64 0], .int .i64 1]) (by simp [results, Tryd.results10, go_sem, g0, g1]) rfl ⟨rfl, bY⟩
    | true =>
      obtain ⟨p1, p2, p3, p4⟩ := okPo_out k1
      obtain ⟨u1, u2, u3, u4⟩ := okPo_out k2
      by_cases r : 100000 < q ∨ 100000 < v
      · rw [simR_range k1 k2 r]
        unfold pairW
        obtain ⟨M, hM⟩ : ∃ m, max q v = m := ⟨_, rfl⟩
        have MX : ∀ w, Sem.run Tryd.prog (Builtin.max_ #[2, 2] 2 #[.int .i64 q, .int .i64 v]) w = .ok (.int .i64 M) w := fun w => by
          have : (if v > q then v else q) = max q v := by split <;> omega
          rw [← hM, ← this]; rfl
        have r1 : 100000 < M := by omega
        clear hM r
        obtain ⟨c00, c01, c02, c03, c04, c05, c06, c07⟩ := C0.out.cells
        go_enter Tryd.func10, Tryd.ntmps10
        go_wp2_with fail
        rw [← HW.out]
        refine (validP_any p q _).mono ?_
        rw [k1]
        rintro e w1 ⟨rfl, hB1⟩
        have C1 := hid (C0.out.below hB1)
        clear c00 c01 c02 c03 c04 c05 c06 c07
        obtain ⟨c10, c11, c12, c13, c14, c15, c16, c17⟩ := C1.out.cells
        go_wp2_with fail
        refine (validP_any u v _).mono ?_
        rw [k2]
        rintro e w2 ⟨rfl, hB2⟩
        have C2 := hid (C1.out.below hB2)
        clear c10 c11 c12 c13 c14 c15 c16 c17
        obtain ⟨c20, c21, c22, c23, c24, c25, c26, c27⟩ := C2.out.cells
        go_wp2_with fail
        obtain ⟨Y, hY⟩ : ∃ Y, Y = (w2.setCell ⟨w.heap.size + 1 + 1, 0, none⟩ (.int .i64 0)).setCell ⟨w.heap.size + 1 + 1, 1, none⟩ (.int .i64 0) := ⟨_, rfl⟩
        obtain ⟨g0, g1, bY⟩ := C2.out.done (.int .i64 0) (.int .i64 0) Y hY
        try rw [← hY]
        clear c20 c21 c22 c23 c24 c25 c26 c27
        clear hY
        exact bodyPost_ret (v := .tuple #[.agg #[.int .i64 0, .int .i64 0], .int .i64 2]) (by simp [results, Tryd.results10, go_sem, g0, g1]) rfl ⟨rfl, bY⟩
      · obtain ⟨b1, b2⟩ := mul_le2 p1 p2 (show 0 ≤ v by omega) u4
        obtain ⟨b3, b4⟩ := mul_le2 u1 u2 (show 0 ≤ q by omega) p4
        have HL := hid (fun w => compareP_any p q u v b1 (by omega) b3 (by omega) w)
        by_cases c : p * v < u * q
        · rw [simR_yes k1 k2 r c]
          obtain ⟨M, hM⟩ : ∃ m, max q v = m := ⟨_, rfl⟩
          have MX : ∀ w, Sem.run Tryd.prog (Builtin.max_ #[2, 2] 2 #[.int .i64 q, .int .i64 v]) w = .ok (.int .i64 M) w := fun w => by
            have : (if v > q then v else q) = max q v := by split <;> omega
            rw [← hM, ← this]; rfl
          have r1 : ¬ 100000 < M := by omega
          clear hM
          have hlt := cmp3_lt c
          rw [hlt] at HL
          have q5 : q ≤ 100000 := by omega
          have v5 : v ≤ 100000 := by omega
          have PF := hid (And.intro p1 (And.intro p2 (And.intro p3 (And.intro q5 (And.intro u1 (And.intro u2 (And.intro u3 (And.intro v5 c))))))))
          have HA1 := hid (fun w => atLeast_any p q 1 (by omega) (by omega) ⟨p3, p4⟩ w)
          obtain ⟨⟨a, b⟩, hab⟩ : ∃ x, simGo p q u v q.toNat 1 = x := ⟨_, rfl⟩
          rw [hab]
          have HAB := hid hab
          unfold pairW
          clear hab r hlt c
          obtain ⟨c00, c01, c02, c03, c04, c05, c06, c07⟩ := C0.out.cells
          go_enter Tryd.func10, Tryd.ntmps10
          go_wp2_with fail
          rw [← HW.out]
          refine (validP_any p q _).mono ?_
          rw [k1]
          rintro e w1 ⟨rfl, hB1⟩
          have C1 := hid (C0.out.below hB1)
          clear c00 c01 c02 c03 c04 c05 c06 c07
          obtain ⟨c10, c11, c12, c13, c14, c15, c16, c17⟩ := C1.out.cells
          go_wp2_with fail
          refine (validP_any u v _).mono ?_
          rw [k2]
          rintro e w2 ⟨rfl, hB2⟩
          have C2 := hid (C1.out.below hB2)
          clear c10 c11 c12 c13 c14 c15 c16 c17
          obtain ⟨c20, c21, c22, c23, c24, c25, c26, c27⟩ := C2.out.cells
          go_wp2_with fail
          refine (HL.out _).mono ?_
          rintro e w3 ⟨rfl, hB3⟩
          have C3 := hid (C2.out.below hB3)
          clear c20 c21 c22 c23 c24 c25 c26 c27
          obtain ⟨c30, c31, c32, c33, c34, c35, c36, c37⟩ := C3.out.cells
          go_wp2_with fail
          refine (HA1.out _).mono ?_
          rintro e w4 ⟨rfl, hB4⟩
          have C4 := hid (C3.out.below hB4)
          clear c30 c31 c32 c33 c34 c35 c36 c37
          obtain ⟨V, hV⟩ : ∃ V, V = w4.alloc (.cells #[.int .i64 (sp p q 1), .int .i64 1] 28) := ⟨_, rfl⟩
          have rV : Row V w4.heap.size 28 [.int .i64 (sp p q 1), .int .i64 1] := by rw [hV]; exact Row.new _ _ _
          have bV : Below w4.heap.size w4 V := by rw [hV]; exact (Below.refl _ _).alloc (Nat.le_refl _) _
          have CV := hid (C4.out.below bV)
          have HV := hid hV
          have RV := hid rV
          have far : w.heap.size + 1 + 1 < w4.heap.size := C4.out.2.2.2.lt
          have FAR := hid far
          have s1bd := sp_bd (k := 1) p1 p3 (by omega) (by omega)
          clear hV rV bV
          go_upto_region 8 with fail
          rw [← HV.out]
          go_loopw [] (fun wr => CoreP w 28 p q u v wr ∧ ∃ k : Nat, 1 ≤ k ∧ (k : Int) ≤ q ∧ simGo p q u v q.toNat 1 = simGo p q u v (q.toNat + 1 - k) k ∧ Row wr w4.heap.size 28 [.int .i64 (sp p q k), .int .i64 k]) (fun wr => q.toNat + 1 - cellNat wr w4.heap.size)
          case atStart => exact ⟨CV.out, 1, by omega, by omega, by rw [show q.toNat + 1 - 1 = q.toNat by omega]; rfl, RV.out⟩
          case round =>
            obtain ⟨hC, k, hk1, hkq, hg, hR⟩ := hrel
            obtain ⟨P1, P2, P3, P4, U1, U2, U3, U4, CC⟩ := PF.out
            obtain ⟨b1, b2, b3, b4⟩ := sp_bd (k := (k : Int)) P1 P3 (by omega) hkq
            obtain ⟨b6, b7⟩ := mul_le2 b1 (show sp p q k ≤ 1000000000 by omega) (show 0 ≤ v by omega) U4
            obtain ⟨b8, b9⟩ := mul_le2 U1 U2 (show 0 ≤ (k : Int) by omega) (show (k : Int) ≤ 100000 by omega)
            have HL := hid (fun w => compareP_any (sp p q k) k u v b6 (by omega) b8 (by omega) w)
            have HAT := hid (fun h : (k : Int) = q => show sp p q k * v < u * k by rw [h, sp_at P3]; exact CC)
            have C5 := hid hC
            have R5 := hid hR
            have HG := hid hg
            have x0 := hR.cell 0; have x1 := hR.cell 1; have xf0 := hR.frozen 0; have xf1 := hR.frozen 1
            simp only [List.getElem?_cons_zero, List.getElem?_cons_succ] at x0 x1
            obtain ⟨c50, c51, c52, c53, c54, c55, c56, c57⟩ := C5.out.cells
            by_cases hc : sp p q k * v < u * (k : Int)
            · have HF := hid (hg.trans (simGo_yes hc))
              rw [cmp3_lt hc] at HL
              have e1 : sp p q k = a ∧ (k : Int) = b := by
                have := HF.out.symm.trans HAB.out
                exact ⟨congrArg Prod.fst this, congrArg Prod.snd this⟩
              have E1 := hid e1
              obtain ⟨s, hs⟩ : ∃ s, sp p q k = s := ⟨_, rfl⟩
              rw [hs] at HL x0 R5 E1
              clear hC hR hg hc hs e1 b1 b2 b3 b4 b6 b7 b8 b9 HF HG
              go_wp2_with fail
              refine (HL.out _).mono ?_
              rintro e w6 ⟨rfl, hB6⟩
              have C6 := hid (C5.out.below hB6)
              have r6 := R5.out.below hB6 R5.out.lt
              clear c50 c51 c52 c53 c54 c55 c56 c57
              clear x0 x1 xf0 xf1
              obtain ⟨c60, c61, c62, c63, c64, c65, c66, c67⟩ := C6.out.cells
              have x0 := r6.cell 0; have x1 := r6.cell 1
              simp only [List.getElem?_cons_zero, List.getElem?_cons_succ] at x0 x1
              clear r6
              go_wp2_with fail
              obtain ⟨Y, hY⟩ : ∃ Y, Y = (w6.setCell ⟨w.heap.size + 1 + 1, 0, none⟩ (.int .i64 s)).setCell ⟨w.heap.size + 1 + 1, 1, none⟩ (.int .i64 k) := ⟨_, rfl⟩
              obtain ⟨g0, g1, bY⟩ := C6.out.done (.int .i64 s) (.int .i64 k) Y hY
              try rw [← hY]
              clear c60 c61 c62 c63 c64 c65 c66 c67
              clear hY x0 x1
              exact bodyPost_ret (v := .tuple #[.agg #[.int .i64 s, .int .i64 k], .int .i64 0]) (by simp [results, Tryd.results10, go_sem, g0, g1]) rfl ⟨by rw [E1.out.1, E1.out.2], bY⟩
            · have hne : (k : Int) ≠ q := fun h => hc (HAT.out h)
              have hge := cmp3_ge hc
              have HF := hid (show simGo p q u v q.toNat 1 = simGo p q u v (q.toNat + 1 - (k + 1)) ((k + 1 : Nat) : Int) by
                rw [hg, show q.toNat + 1 - k = (q.toNat + 1 - (k + 1)) + 1 by omega, simGo_no hc]; rfl)
              obtain ⟨c1', c2'⟩ := mul_le2 P1 P2 (show 0 ≤ (k : Int) + 1 by omega) (show (k : Int) + 1 ≤ 100000 by omega)
              have HA := hid (fun w => atLeast_any p q ((k : Int) + 1) c1' (by omega) ⟨P3, by omega⟩ w)
              obtain ⟨z, hz⟩ : ∃ x, cmp3 (sp p q k * v) (u * k) = x := ⟨_, rfl⟩
              rw [hz] at HL hge
              have tk : IntKind.i64.wrap ((k : Int) + 1) = (k : Int) + 1 := IntWalk.i64_in _ (by omega)
              obtain ⟨s, hs⟩ : ∃ s, sp p q k = s := ⟨_, rfl⟩
              rw [hs] at HL x0 R5
              obtain ⟨t, ht⟩ : ∃ s, sp p q ((k : Int) + 1) = s := ⟨_, rfl⟩
              rw [ht] at HA
              have HT := hid ht
              have HKQ := hid (show ((k + 1 : Nat) : Int) ≤ q by omega)
              have HM := hid (show k < q.toNat by omega)
              clear hC hR hg hc hs ht hz hne b1 b2 b3 b4 b6 b7 b8 b9 HG c1' c2' CC
              go_wp2_with fail
              refine (HL.out _).mono ?_
              rintro e w6 ⟨rfl, hB6⟩
              have C6 := hid (C5.out.below hB6)
              have r6 := R5.out.below hB6 R5.out.lt
              have R6 := hid r6
              clear c50 c51 c52 c53 c54 c55 c56 c57
              clear x0 x1 xf0 xf1
              obtain ⟨c60, c61, c62, c63, c64, c65, c66, c67⟩ := C6.out.cells
              have x0 := r6.cell 0; have x1 := r6.cell 1
              simp only [List.getElem?_cons_zero, List.getElem?_cons_succ] at x0 x1
              clear r6
              go_wp2_with fail
              refine (HA.out _).mono ?_
              rintro e w7 ⟨rfl, hB7⟩
              have C7 := hid (C6.out.below hB7)
              have r7 := R6.out.below hB7 R6.out.lt
              clear c60 c61 c62 c63 c64 c65 c66 c67
              clear x0 x1
              have x0 := r7.cell 0; have x1 := r7.cell 1; have xf0 := r7.frozen 0; have xf1 := r7.frozen 1
              simp only [List.getElem?_cons_zero, List.getElem?_cons_succ] at x0 x1
              obtain ⟨r8, _, _⟩ := pair_again2 (.int .i64 t) (.int .i64 ((k : Int) + 1)) r7 _ rfl
              have C8 := C7.out.put FAR.out (.int .i64 t) (.int .i64 ((k : Int) + 1))
              have M8 := cellNat_row r8
              have M5 := cellNat_row R5.out
              have R8 := hid r8
              have C8' := hid C8
              have M8' := hid M8
              have M5' := hid M5
              clear r7 r8 C8 M8 M5
              go_wp2_with fail
              go_roundw
              case rel => exact ⟨C8'.out, k + 1, by omega, HKQ.out, HF.out, by rw [show ((k + 1 : Nat) : Int) = (k : Int) + 1 by omega, HT.out]; exact R8.out⟩
              case measure => rw [M8'.out, M5'.out]; have := HM.out; omega
        · rw [simR_state k1 k2 r c]
          unfold pairW
          obtain ⟨M, hM⟩ : ∃ m, max q v = m := ⟨_, rfl⟩
          have MX : ∀ w, Sem.run Tryd.prog (Builtin.max_ #[2, 2] 2 #[.int .i64 q, .int .i64 v]) w = .ok (.int .i64 M) w := fun w => by
            have : (if v > q then v else q) = max q v := by split <;> omega
            rw [← hM, ← this]; rfl
          have r1 : ¬ 100000 < M := by omega
          clear hM
          have hge := cmp3_ge c
          obtain ⟨x, hx⟩ : ∃ x, cmp3 (p * v) (u * q) = x := ⟨_, rfl⟩
          rw [hx] at HL hge
          clear hx c r
          obtain ⟨c00, c01, c02, c03, c04, c05, c06, c07⟩ := C0.out.cells
          go_enter Tryd.func10, Tryd.ntmps10
          go_wp2_with fail
          rw [← HW.out]
          refine (validP_any p q _).mono ?_
          rw [k1]
          rintro e w1 ⟨rfl, hB1⟩
          have C1 := hid (C0.out.below hB1)
          clear c00 c01 c02 c03 c04 c05 c06 c07
          obtain ⟨c10, c11, c12, c13, c14, c15, c16, c17⟩ := C1.out.cells
          go_wp2_with fail
          refine (validP_any u v _).mono ?_
          rw [k2]
          rintro e w2 ⟨rfl, hB2⟩
          have C2 := hid (C1.out.below hB2)
          clear c10 c11 c12 c13 c14 c15 c16 c17
          obtain ⟨c20, c21, c22, c23, c24, c25, c26, c27⟩ := C2.out.cells
          go_wp2_with fail
          refine (HL.out _).mono ?_
          rintro e w3 ⟨rfl, hB3⟩
          have C3 := hid (C2.out.below hB3)
          clear c20 c21 c22 c23 c24 c25 c26 c27
          obtain ⟨c30, c31, c32, c33, c34, c35, c36, c37⟩ := C3.out.cells
          go_wp2_with fail
          obtain ⟨Y, hY⟩ : ∃ Y, Y = (w3.setCell ⟨w.heap.size + 1 + 1, 0, none⟩ (.int .i64 0)).setCell ⟨w.heap.size + 1 + 1, 1, none⟩ (.int .i64 0) := ⟨_, rfl⟩
          obtain ⟨g0, g1, bY⟩ := C3.out.done (.int .i64 0) (.int .i64 0) Y hY
          try rw [← hY]
          clear c30 c31 c32 c33 c34 c35 c36 c37
          clear hY
          exact bodyPost_ret (v := .tuple #[.agg #[.int .i64 0, .int .i64 0], .int .i64 4]) (by simp [results, Tryd.results10, go_sem, g0, g1]) rfl ⟨rfl, bY⟩
end Go.Proofs.YtihadhbgkjbkeaaDoor
