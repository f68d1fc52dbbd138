/- The walk of the law over WrongWheels. -/
import Derived.Test.YtomhmkdfhhmenaaWwS
namespace Go.Proofs.Ytomhmkdfhhmenaa
open Go.RowKit
set_option linter.unusedVariables false
set_option linter.unusedSimpArgs false
theorem Row.jst {w : World} {g n : Nat} {js : List (Int × Int)} (h : Row w g 75 (jcp js n n)) (hn : n = js.length) (hl : n ≤ 1048576) : Jst w g js :=
  ⟨h.lt, fun j hj => ⟨(h.cell _).trans (jcp_get js n j (by omega)).1, (h.cell _).trans (jcp_get js n j (by omega)).2⟩, by omega⟩
set_option maxRecDepth 100000 in
set_option maxHeartbeats 8000000 in
theorem law_FnExactWrongWheels (a : Option Addr) (len cap : Nat) (zs : List Int) (a' : Option Addr) (len' cap' : Nat) (js : List (Int × Int)) (x1 x2 : Int) (w : World) (hl : len ≤ 9223372036854775807) (hl' : len' ≤ 9223372036854775807) (h : InB w a len zs) (h' : InJ w a' len' js) (_ : (Lit.int .i64 x1).wf = true) (_ : (Lit.int .i64 x2).wf = true) :
    Calls Try.prog 3 #[.agg #[.slice a len cap, .slice a' len' cap'], .int .i64 x1, .int .i64 x2] w fun e w' => e = .returned (.bool true) ∧ Below w.heap.size w w' := by
  have bel0 : Below w.heap.size w (w.alloc (.cells #[.slice a len cap, .slice a' len' cap'] 25)) := (Below.refl _ w).alloc (Nat.le_refl _) _
  have bel : Below w.heap.size w ((w.alloc (.cells #[.slice a len cap, .slice a' len' cap'] 25)).alloc (.cells #[.slice a len cap, .slice a' len' cap'] 25)) := bel0.alloc (by simp) _
  have rA := hid ((Row.new w 25 [.slice a len cap, .slice a' len' cap']).alloc (.cells #[.slice a len cap, .slice a' len' cap'] 25))
  by_cases hs : 1048576 < len + len'
  · have HZ := hid (fun w => szMotion_no a len cap a' len' cap' w hs hl hl')
    clear h h' hs hl hl'
    go_enter Try.func3, Try.ntmps3
    go_wp2_with fail
    refine (HZ.out _).mono ?_
    rintro e w' ⟨rfl, rfl⟩
    go_wp2_with fail
    go_ret
    exact ⟨rfl, bel⟩
  have hle : len ≤ 1048576 := by omega
  have hle' : len' ≤ 1048576 := by omega
  have HZ := hid (fun w => szMotion_ok a len cap a' len' cap' w (by omega))
  have hz : (0 : Int) ≤ 1048576 - (len : Int) - (len' : Int) := by omega
  have hI := hid h
  have hJ := hid h'
  have hn : Hid (len = zs.length) := hid h.1.symm
  have hm : Hid (len' = js.length) := hid h'.1.symm
  have hjb := hid (fun j (hj : j < js.length) => h'.2.1 j (by rw [← h'.1]; exact hj))
  clear h h' hs hl hl'
  have HS := hid (fun B G w1 (k : Stk w1 B zs) (k' : Jst w1 G js) => specWrong_any B len len G len' len' zs js x1 x2 w1 k k' hn.out hm.out (Nat.le_refl _) hjb.out)
  have HM := hid (fun B G w1 (k : Stk w1 B zs) (k' : Jst w1 G js) => implWrong_any B len len G len' len' zs js x1 x2 w1 k k' hn.out hm.out)
  obtain ⟨⟨E, c⟩, hR⟩ : ∃ r, wwR zs js x1 x2 = r := ⟨_, rfl⟩
  rw [hR] at HS HM
  have d1 : (c != c) = false := by simp
  have d2 : ((1 + (E.length : Int)) != (1 + (E.length : Int))) = false := by simp
  have d3 : (0 : Int) ≤ 1 + (E.length : Int) := by omega
  have d4 : (0 : Int) ≤ 1 + (len : Int) + 2 * (len' : Int) := by omega
  have HSR := hid (fun (b : Nat) (w1 : World) (r : Row w1 b 5 (zs.map (Value.int .u8))) => r.stk hI.out.2.1 (by rw [← hn.out]; exact hle))
  have HRR := hid (fun (b : Nat) (w1 : World) (r : Row w1 b 75 (jcp js len' len')) => Row.jst r hm.out hle')
  clear hR
  go_enter Try.func3, Try.ntmps3
  go_wp2_with fail
  refine (HZ.out _).mono ?_
  rintro e w' ⟨rfl, rfl⟩
  go_wp2_with fail
  refine (toMotion_any a len cap zs a' len' cap' js _ (hI.out.below bel (Nat.le_refl _)) (hJ.out.below bel (Nat.le_refl _)) hle hle').mono ?_
  rintro e w1 ⟨B, G, rfl, hB1, hS1, hJ1, hBl, hGl⟩
  have hz1 := hB1.size
  simp only [World.size_alloc] at hB1 hz1 hBl hGl
  go_wp2_with fail
  refine (HS.out B G w1 hS1 hJ1).mono ?_
  rintro e w2 ⟨v2, rfl, hO2, hB2⟩
  have hz2 := hB2.size
  have O2 := hid hO2
  clear hS1 hJ1 hO2
  have b2 : Below w.heap.size w w2 := bel.trans ((hB1.mono (by omega)).trans (hB2.mono (by omega)))
  have qa := ((rA.out.below hB1 (by omega)).below hB2 (by omega))
  have p0 := qa.cell 0; have p1 := qa.cell 1
  simp only [List.getElem?_cons_zero, List.getElem?_cons_succ] at p0 p1
  go_wp2_with fail
  refine (toMotionR_any a len cap zs a' len' cap' js _ (hI.out.below b2 (Nat.le_refl _)) (hJ.out.below b2 (Nat.le_refl _)) hle hle').mono ?_
  rintro e w3 ⟨X, Y, rfl, hB3, hS3, hJ3, hXl, hYl⟩
  have hz3 := hB3.size
  clear p0 p1
  have bA : Below w3.heap.size w3 (w3.alloc (.cells #[.slice (some ⟨X, 0, none⟩) len len, .slice (some ⟨Y, 0, none⟩) len' len'] 33)) := (Below.refl _ _).alloc (Nat.le_refl _) _
  have hS4 := hid (hS3.below bA hS3.lt)
  have hJ4 := hid (hJ3.below bA hJ3.lt)
  have hXb := hS3.lt
  have hYb := hJ3.lt
  have rX := hid (Row.new w3 33 [.slice (some ⟨X, 0, none⟩) len len, .slice (some ⟨Y, 0, none⟩) len' len'])
  have qa3 := hid ((qa.below hB3 (by omega)).below bA (by omega))
  clear hS3 hJ3 qa
  go_wp2_with fail
  refine (HM.out X Y _ (HSR.out _ _ hS4.out) (HRR.out _ _ hJ4.out)).mono ?_
  rintro e w4 ⟨v4, rfl, hO4, hB4⟩
  have hz4 := hB4.size
  simp only [World.size_alloc] at hB4 hz4 hO4
  have b4 := hid (show Below w.heap.size w w4 from b2.trans ((hB3.mono (by omega)).trans ((bA.mono (by omega)).trans (hB4.mono (by omega)))))
  have c4 := hid (show Below w2.heap.size w2 w4 from hB3.trans ((bA.mono (by omega)).trans (hB4.mono (by omega))))
  have S4 := hid (hS4.out.below hB4 (by omega))
  have J4 := hid (hJ4.out.below hB4 (by omega))
  have QX4 := hid (rX.out.below hB4 (by omega))
  have QA4 := hid (qa3.out.below hB4 (by omega))
  have G4 := hid hO4
  clear hO4 hB4 bA
  go_wp2_with fail
  refine (eqI_own _ _ v4 v2 E _ G4.out (O2.out.later c4.out)).mono ?_
  rintro e w5' ⟨rfl, d5, rfl⟩
  obtain ⟨w5, hw5⟩ : ∃ z, z = w4.drewN d5 := ⟨_, rfl⟩
  have ew5 : Below w4.heap.size w4 w5 := by rw [hw5]; exact below_drewN (Below.refl _ _) _
  rw [← hw5]
  clear hw5
  have hz5 := ew5.size
  have b5 := hid (b4.out.trans (ew5.mono b4.out.size))
  have c5 := hid (c4.out.trans (ew5.mono c4.out.size))
  have S5 := hid (S4.out.below ew5 (by omega))
  have J5 := hid (J4.out.below ew5 (by omega))
  have QX5 := hid (QX4.out.below ew5 (by omega))
  have QA5 := hid (QA4.out.below ew5 (by omega))
  have G5 := hid (G4.out.keep ew5)
  clear ew5
  have x0 := QX5.out.cell 0; have y0 := QX5.out.cell 1; have p0 := QA5.out.cell 0; have p1 := QA5.out.cell 1
  simp only [List.getElem?_cons_zero, List.getElem?_cons_succ] at x0 y0 p0 p1
  have hq0 := And.intro x0 (And.intro y0 (And.intro p0 p1))
  go_wp2_with fail
  go_region_held3 (fun w' => w'.cell? ⟨w3.heap.size, 0, none⟩ = some (.slice (some ⟨X, 0, none⟩) len len) ∧ w'.cell? ⟨w3.heap.size, 1, none⟩ = some (.slice (some ⟨Y, 0, none⟩) len' len') ∧ w'.cell? ⟨w.heap.size, 0, none⟩ = some (.slice a len cap) ∧ w'.cell? ⟨w.heap.size, 1, none⟩ = some (.slice a' len' cap')) (first | exact hq2 | exact hq | exact hq0)
    ((first | (go_at_call 9; have hX := eqMotion_same X U len len len Y V len' len' len' zs js w6 hS7 hS6 hn.out hJ7 hJ6 hm.out; refine hX.mono ?_; clear hX; rintro e w7 ⟨rfl, hB7⟩; have hz7 := hB7.size; have hq2 := And.intro ((hB7.cell (p := ⟨w3.heap.size, 0, none⟩) (by show w3.heap.size < _; omega)).trans hq.1) (And.intro ((hB7.cell (p := ⟨w3.heap.size, 1, none⟩) (by show w3.heap.size < _; omega)).trans hq.2.1) (And.intro ((hB7.cell (p := ⟨w.heap.size, 0, none⟩) (by show w.heap.size < _; omega)).trans hq.2.2.1) ((hB7.cell (p := ⟨w.heap.size, 1, none⟩) (by show w.heap.size < _; omega)).trans hq.2.2.2)))) | (go_at_call 6; have hX := toMotion_any a len cap zs a' len' cap' js w5.drew (hI.out.below b5.out.drew (Nat.le_refl _)) (hJ.out.below b5.out.drew (Nat.le_refl _)) hle hle'; refine hX.mono ?_; clear hX; rintro e w6 ⟨U, V, rfl, hB6, hS6, hJ6, hUl, hVl⟩; simp only [World.size_drew] at hB6 hUl hVl; have hz6 := hB6.size; simp only [World.size_drew] at hz6; have hBd := (Below.refl w5.heap.size w5).drew.trans hB6; have hS7 := HSR.out _ _ (S5.out.below hBd (by omega)); have hJ7 := HRR.out _ _ (J5.out.below hBd (by omega)); have hq := And.intro ((hB6.cell (p := ⟨w3.heap.size, 0, none⟩) (by show w3.heap.size < _; omega)).trans hq0.1) (And.intro ((hB6.cell (p := ⟨w3.heap.size, 1, none⟩) (by show w3.heap.size < _; omega)).trans hq0.2.1) (And.intro ((hB6.cell (p := ⟨w.heap.size, 0, none⟩) (by show w.heap.size < _; omega)).trans hq0.2.2.1) ((hB6.cell (p := ⟨w.heap.size, 1, none⟩) (by show w.heap.size < _; omega)).trans hq0.2.2.2))))))
  have e7 := (Below.refl w5.heap.size w5).drew.trans (hB6.trans (hB7.mono (by omega)))
  have b7 := hid (b5.out.trans (e7.mono b5.out.size))
  have c7 := hid (c5.out.trans (e7.mono c5.out.size))
  have S7 := hid (S5.out.below e7 (by omega))
  have J7 := hid (J5.out.below e7 (by omega))
  have QA7 := hid (QA5.out.below e7 (by omega))
  have QX7 := hid (QX5.out.below e7 (by omega))
  have G7 := hid (G5.out.keep e7)
  clear hS6 hJ6 hS7 hJ7 hq hq0 hq2 hBd hB6 hB7 e7 x0 y0 p0 p1
  have x0 := QX7.out.cell 0; have y0 := QX7.out.cell 1
  simp only [List.getElem?_cons_zero, List.getElem?_cons_succ] at x0 y0
  go_wp2_with fail
  refine (markMotion_any X len len Y len' len' _ _ (by rw [List.length_map]; exact hn.out.symm) hle (jcp_len js len' len') hle' hYl _ S7.out J7.out).mono ?_
  rintro e w8 ⟨rfl, h8⟩
  have hz8 := h8.1
  have b8 := hid (b7.out.trans (h8.2.2 w.heap.size (by omega) (by omega) (by omega)))
  have c8 := hid (c7.out.trans (h8.2.2 w2.heap.size (by omega) (by omega) (by omega)))
  have QA8 : Hid (Row w8 w.heap.size 25 [.slice a len cap, .slice a' len' cap']) := hid ((h8.2.1 w.heap.size (by omega) (by omega) (by omega)).trans QA7.out)
  have G8 := hid (G7.out.only2 h8 (by omega) (by omega))
  clear h8 x0 y0
  go_wp2_with fail
  refine (eqI_own _ _ v4 v2 E _ G8.out (O2.out.later c8.out)).mono ?_
  rintro e w9' ⟨rfl, d9, rfl⟩
  obtain ⟨w9, hw9⟩ : ∃ z, z = w8.drewN d9 := ⟨_, rfl⟩
  have ew9 : Below w8.heap.size w8 w9 := by rw [hw9]; exact below_drewN (Below.refl _ _) _
  rw [← hw9]
  clear hw9
  have hz9 := ew9.size
  have b9 := hid (b8.out.trans (ew9.mono b8.out.size))
  have c9 := hid (c8.out.trans (ew9.mono c8.out.size))
  have QA9 := hid (QA8.out.below ew9 (by omega))
  have G9 := hid (G8.out.keep ew9)
  clear ew9
  go_wp2_with fail
  refine (markI_own (w3.heap.size + 1) v4 E _ G9.out (by omega)).mono ?_
  rintro e w10 ⟨rfl, hM10, hB10, hs10⟩
  have b10 := hid (b9.out.trans (hB10.mono (by omega)))
  have c10 := hid (c9.out.trans (hB10.mono (by omega)))
  have QA10 := hid (QA9.out.below hB10 (by omega))
  have M10 := hid hM10
  clear hM10 hB10
  go_wp2_with fail
  refine (heldI_own (w3.heap.size + 1) v4 E.length _ M10.out).mono ?_
  rintro e w11' ⟨rfl, d11, rfl⟩
  obtain ⟨w11, hw11⟩ : ∃ z, z = w10.drewN d11 := ⟨_, rfl⟩
  have ew11 : Below w10.heap.size w10 w11 := by rw [hw11]; exact below_drewN (Below.refl _ _) _
  rw [← hw11]
  clear hw11
  have hz11 := ew11.size
  have b11 := hid (b10.out.trans (ew11.mono (by omega)))
  have c11 := hid (c10.out.trans (ew11.mono (by omega)))
  have QA11 := hid (QA10.out.below ew11 (by omega))
  have M11 := hid (M10.out.keep ew11)
  clear ew11
  have p0 := QA11.out.cell 0; have p1 := QA11.out.cell 1
  simp only [List.getElem?_cons_zero, List.getElem?_cons_succ] at p0 p1
  go_wp2_with fail
  refine (toMotion_any a len cap zs a' len' cap' js _ (hI.out.below b11.out (Nat.le_refl _)) (hJ.out.below b11.out (Nat.le_refl _)) hle hle').mono ?_
  rintro e w12 ⟨B', G', rfl, hB12, hS12, hJ12, hBl', hGl'⟩
  have hz12 := hB12.size
  have b12 := hid (b11.out.trans (hB12.mono (by omega)))
  have c12 := hid (c11.out.trans (hB12.mono (by omega)))
  have M12 := hid (M11.out.keep hB12)
  clear p0 p1 hB12
  go_wp2_with fail
  refine (HM.out B' G' w12 hS12 hJ12).mono ?_
  rintro e w13 ⟨v13, rfl, hO13, hB13⟩
  have hz13 := hB13.size
  have b13 := hid (b12.out.trans (hB13.mono (by omega)))
  have c13 := hid (c12.out.trans (hB13.mono (by omega)))
  have M13 := hid (M12.out.keep hB13)
  have H13 := hid hO13
  clear hB13 hO13 hS12 hJ12
  go_wp2_with fail
  refine (eqI_own _ _ v13 v2 E _ H13.out (O2.out.later c13.out)).mono ?_
  rintro e w14' ⟨rfl, d14, rfl⟩
  obtain ⟨w14, hw14⟩ : ∃ z, z = w13.drewN d14 := ⟨_, rfl⟩
  have ew14 : Below w13.heap.size w13 w14 := by rw [hw14]; exact below_drewN (Below.refl _ _) _
  rw [← hw14]
  clear hw14
  have hz14 := ew14.size
  have b14 := hid (b13.out.trans (ew14.mono (by omega)))
  have M14 := hid (M13.out.keep ew14)
  clear ew14
  go_wp2_with fail
  refine (heldI_own (w3.heap.size + 1) v4 E.length _ M14.out).mono ?_
  rintro e w15' ⟨rfl, d15, rfl⟩
  go_wp2_with fail
  go_ret
  exact ⟨rfl, below_drewN b14.out _⟩
end Go.Proofs.Ytomhmkdfhhmenaa
