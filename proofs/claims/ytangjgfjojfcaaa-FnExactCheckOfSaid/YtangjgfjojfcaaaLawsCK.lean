/- The walk of the law over CheckOf. -/
import Derived.Test.YtangjgfjojfcaaaChk
import Derived.Test.YtangjgfjojfcaaaLawsD
namespace Go.Proofs.Ytangjgfjojfcaaa
open Go.RowKit
set_option linter.unusedVariables false
set_option maxRecDepth 100000 in
set_option maxHeartbeats 4000000 in
theorem law_FnExactCheckOf (a : Option Addr) (len cap : Nat) (zs : List Int) (x1 : Int) (d20 d21 d22 d23 d24 d25 d26 d27 : Int) (w : World) (h : InB w a len zs) (h1 : (Lit.int .i64 x1).wf = true) (h2 : Oct d20 d21 d22 d23 d24 d25 d26 d27) :
    Calls Try.prog 7 #[.slice a len cap, .int .i64 x1, .agg #[.int .u8 d20, .int .u8 d21, .int .u8 d22, .int .u8 d23, .int .u8 d24, .int .u8 d25, .int .u8 d26, .int .u8 d27]] w fun e w' => e = .returned (.bool true) ∧ Below w.heap.size w w' := by
  by_cases hl : 1048576 < len
  · go_enter Try.func7, Try.ntmps7
    go_wp2
    go_ret
    exact ⟨rfl, ((Below.refl w.heap.size w).alloc (Nat.le_refl _) _)⟩
  have hI := hid h
  have hL := hid h.1
  have H1 := hid h1
  have H2 := hid h2
  clear h h1 h2
  have hb0 : ((chkR zs [d20, d21, d22, d23, d24, d25, d26, d27] x1).1 != (chkR zs [d20, d21, d22, d23, d24, d25, d26, d27] x1).1) = false := by simp
  have hb1 : ((chkR zs [d20, d21, d22, d23, d24, d25, d26, d27] x1).2 != (chkR zs [d20, d21, d22, d23, d24, d25, d26, d27] x1).2) = false := by simp
  have cb : Below w.heap.size w (w.alloc (.cells #[.int .u8 d20, .int .u8 d21, .int .u8 d22, .int .u8 d23, .int .u8 d24, .int .u8 d25, .int .u8 d26, .int .u8 d27] 23)) := ((Below.refl w.heap.size w).alloc (Nat.le_refl _) _)
  have oc2_0 : Oc (w.alloc (.cells #[.int .u8 d20, .int .u8 d21, .int .u8 d22, .int .u8 d23, .int .u8 d24, .int .u8 d25, .int .u8 d26, .int .u8 d27] 23)).drew (w.heap.size) d20 d21 d22 d23 d24 d25 d26 d27 := by
    have := Oc.new w 23 d20 d21 d22 d23 d24 d25 d26 d27
    exact this
  go_enter Try.func7, Try.ntmps7
  go_wp2_with fail
  go_region_held3 (fun w' => w'.cell? ⟨w.heap.size, 0, none⟩ = some (.int .u8 d20) ∧ w'.cell? ⟨w.heap.size, 1, none⟩ = some (.int .u8 d21) ∧ w'.cell? ⟨w.heap.size, 2, none⟩ = some (.int .u8 d22) ∧ w'.cell? ⟨w.heap.size, 3, none⟩ = some (.int .u8 d23) ∧ w'.cell? ⟨w.heap.size, 4, none⟩ = some (.int .u8 d24) ∧ w'.cell? ⟨w.heap.size, 5, none⟩ = some (.int .u8 d25) ∧ w'.cell? ⟨w.heap.size, 6, none⟩ = some (.int .u8 d26) ∧ w'.cell? ⟨w.heap.size, 7, none⟩ = some (.int .u8 d27)) (first | exact ⟨oc2_3.1, oc2_3.2.1, oc2_3.2.2.1, oc2_3.2.2.2.1, oc2_3.2.2.2.2.1, oc2_3.2.2.2.2.2.1, oc2_3.2.2.2.2.2.2.1, oc2_3.2.2.2.2.2.2.2⟩ | exact ⟨oc2_2.1, oc2_2.2.1, oc2_2.2.2.1, oc2_2.2.2.2.1, oc2_2.2.2.2.2.1, oc2_2.2.2.2.2.2.1, oc2_2.2.2.2.2.2.2.1, oc2_2.2.2.2.2.2.2.2⟩ | exact ⟨oc2_1.1, oc2_1.2.1, oc2_1.2.2.1, oc2_1.2.2.2.1, oc2_1.2.2.2.2.1, oc2_1.2.2.2.2.2.1, oc2_1.2.2.2.2.2.2.1, oc2_1.2.2.2.2.2.2.2⟩ | exact ⟨oc2_0.1, oc2_0.2.1, oc2_0.2.2.1, oc2_0.2.2.2.1, oc2_0.2.2.2.2.1, oc2_0.2.2.2.2.2.1, oc2_0.2.2.2.2.2.2.1, oc2_0.2.2.2.2.2.2.2⟩)
    ((first | (go_at_call 22; have hX := toStack_any a len cap zs _ (hI.out.below cb.drew (Nat.le_refl _)) (by omega); refine hX.mono ?_; clear hX; rintro e w1 ⟨rfl, hB1, hS1, hz1⟩; simp only [World.size_drew, World.size_alloc] at hB1 hS1 hz1; have oc2_1 := oc2_0.below hB1 (by omega)) | (go_at_call 29; have hX := toDigits_any d20 d21 d22 d23 d24 d25 d26 d27 w1; refine hX.mono ?_; clear hX; rintro e w2 ⟨rfl, hB2⟩; have hz2 := hB2.size; have oc2_2 := oc2_1.below hB2 (by omega)) | (go_at_call 28; have hX := specCheckOf_any _ len len zs x1 d20 d21 d22 d23 d24 d25 d26 d27 w2 (hS1.below hB2 (by omega)) hL.out.symm (Nat.le_refl _) H1.out H2.out; refine hX.mono ?_; clear hX; rintro e w3 ⟨rfl, hB3⟩; have hz3 := hB3.size; have oc2_3 := oc2_2.below hB3 (by omega))))
  have hz1' := hB1.size; have oc2_1 := oc2_0.below hB1 (by omega)
  have hz2' := hB2.size; have oc2_2 := oc2_1.below hB2 (by omega)
  have hz3' := hB3.size; have oc2_3 := oc2_2.below hB3 (by omega)
  have hBs : Below w.heap.size w w3 := (cb.drew).trans ((hB1.mono (by omega)).trans ((hB2.mono (by omega)).trans (hB3.mono (by omega))))
  have hIs := hid (hI.out.below hBs (Nat.le_refl _))
  have hzs := hBs.size
  clear hS1
  go_wp2_with fail
  have hX := toStack_any a len cap zs _ hIs.out (by omega)
  refine hX.mono ?_
  clear hX
  rintro e u1 ⟨rfl, hC1, hSu, hzu⟩
  have hz_u1 := hC1.size
  have oc2_3_u1 := oc2_3.below hC1 (by first | omega | (simp; omega) | (simp at *; omega))
  have ocx := oc2_3_u1
  obtain ⟨f2_0, f2_1, f2_2, f2_3, f2_4, f2_5, f2_6, f2_7⟩ := ocx
  go_wp2_with fail
  have hX := toDigits_any d20 d21 d22 d23 d24 d25 d26 d27 u1
  refine hX.mono ?_
  clear hX
  rintro e t2 ⟨rfl, hD2⟩
  clear f2_0 f2_1 f2_2 f2_3 f2_4 f2_5 f2_6 f2_7
  have hz_t2 := hD2.size
  have oc2_3_u1_t2 := oc2_3_u1.below hD2 (by first | omega | (simp; omega) | (simp at *; omega))
  have hSv := hid (hSu.below hD2 (by omega))
  go_wp2_with fail
  have hX := implCheckOf_any _ len len zs x1 d20 d21 d22 d23 d24 d25 d26 d27 t2 hSv.out hL.out.symm (Nat.le_refl _) H1.out H2.out
  refine hX.mono ?_
  clear hX
  rintro e u2 ⟨rfl, hC2⟩
  have hz_u2 := hC2.size
  have oc2_3_u1_t2_u2 := oc2_3_u1_t2.below hC2 (by first | omega | (simp; omega) | (simp at *; omega))
  have hSv2 := hid (hSv.out.below hC2 (by omega))
  have hSv3 := hSv2
  have hBz : Below w.heap.size w u2 := hBs.trans ((hC1.mono (by first | omega | (simp; omega))).trans ((hD2.mono (by first | omega | (simp; omega))).trans (hC2.mono (by first | omega | (simp; omega)))))
  have hzz := hBz.size
  have hIz := hid (hI.out.below hBz (Nat.le_refl _))
  go_wp2_with fail
  have hX := toStack_any a len cap zs u2 hIz.out (by omega)
  refine hX.mono ?_
  clear hX
  rintro e y1 ⟨rfl, hE1, hSy, hzy⟩
  go_wp2_with fail
  have hX := eqStack_same _ _ len len len zs y1 (hSv3.out.below hE1 (by first | omega | (simp; omega))) hSy hL.out.symm
  refine hX.mono ?_
  clear hX
  rintro e y2 ⟨rfl, hE2⟩
  go_wp2_with fail
  go_ret
  exact ⟨rfl, hBz.trans ((hE1.mono (by omega)).trans (hE2.mono (by omega)))⟩


end Go.Proofs.Ytangjgfjojfcaaa
