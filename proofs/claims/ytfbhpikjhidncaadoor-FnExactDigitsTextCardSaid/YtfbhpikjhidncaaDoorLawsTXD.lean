/- The walk of the law DigitsText. -/
import Derived.Test.YtfbhpikjhidncaaDoorTxF
import Derived.Test.YtfbhpikjhidncaaDoorLawsD
namespace Go.Proofs.YtfbhpikjhidncaaDoor
open Go.RowKit
set_option linter.unusedVariables false
set_option linter.unusedSimpArgs false
set_option maxRecDepth 100000 in
set_option maxHeartbeats 4000000 in
theorem law_FnExactDigitsText (a : Option Addr) (len cap : Nat) (zs : List Int) (d10 d11 d12 d13 d14 d15 d16 d17 : Int) (w : World) (h : InB w a len zs) (h1 : Oct d10 d11 d12 d13 d14 d15 d16 d17) :
    Calls Tryd.prog 3 #[.slice a len cap, .agg #[.int .u8 d10, .int .u8 d11, .int .u8 d12, .int .u8 d13, .int .u8 d14, .int .u8 d15, .int .u8 d16, .int .u8 d17]] w fun e w' => e = .returned (.bool true) ∧ Below w.heap.size w w' := by
  by_cases hl : 1048576 < len
  · go_enter Tryd.func3, Tryd.ntmps3
    go_wp2
    go_ret
    exact ⟨rfl, ((Below.refl w.heap.size w).alloc (Nat.le_refl _) _)⟩
  have hI := hid h
  have hL := hid h.1
  have H1 := hid h1
  clear h h1
  have HT := hid (fun w b h o => specDT_any b len len zs d10 d11 d12 d13 d14 d15 d16 d17 w h hL.out.symm o)
  have HU := hid (fun w b h o => implDT_any b len len zs d10 d11 d12 d13 d14 d15 d16 d17 w h hL.out.symm o)
  obtain ⟨T, hT⟩ : ∃ T : ByteArray, ⟨(txD zs [d10, d11, d12, d13, d14, d15, d16, d17]).toArray⟩ = T := ⟨_, rfl⟩
  rw [hT] at HT HU
  have cb : Below w.heap.size w (w.alloc (.cells #[.int .u8 d10, .int .u8 d11, .int .u8 d12, .int .u8 d13, .int .u8 d14, .int .u8 d15, .int .u8 d16, .int .u8 d17] 23)) := ((Below.refl w.heap.size w).alloc (Nat.le_refl _) _)
  have oc1_0 : Oc (w.alloc (.cells #[.int .u8 d10, .int .u8 d11, .int .u8 d12, .int .u8 d13, .int .u8 d14, .int .u8 d15, .int .u8 d16, .int .u8 d17] 23)).drew (w.heap.size) d10 d11 d12 d13 d14 d15 d16 d17 := by
    have := Oc.new w 23 d10 d11 d12 d13 d14 d15 d16 d17
    exact this
  go_enter Tryd.func3, Tryd.ntmps3
  go_wp2_with fail
  go_region_held3 (fun w' => w'.cell? ⟨w.heap.size, 0, none⟩ = some (.int .u8 d10) ∧ w'.cell? ⟨w.heap.size, 1, none⟩ = some (.int .u8 d11) ∧ w'.cell? ⟨w.heap.size, 2, none⟩ = some (.int .u8 d12) ∧ w'.cell? ⟨w.heap.size, 3, none⟩ = some (.int .u8 d13) ∧ w'.cell? ⟨w.heap.size, 4, none⟩ = some (.int .u8 d14) ∧ w'.cell? ⟨w.heap.size, 5, none⟩ = some (.int .u8 d15) ∧ w'.cell? ⟨w.heap.size, 6, none⟩ = some (.int .u8 d16) ∧ w'.cell? ⟨w.heap.size, 7, none⟩ = some (.int .u8 d17)) (first | exact ⟨oc1_3.1, oc1_3.2.1, oc1_3.2.2.1, oc1_3.2.2.2.1, oc1_3.2.2.2.2.1, oc1_3.2.2.2.2.2.1, oc1_3.2.2.2.2.2.2.1, oc1_3.2.2.2.2.2.2.2⟩ | exact ⟨oc1_2.1, oc1_2.2.1, oc1_2.2.2.1, oc1_2.2.2.2.1, oc1_2.2.2.2.2.1, oc1_2.2.2.2.2.2.1, oc1_2.2.2.2.2.2.2.1, oc1_2.2.2.2.2.2.2.2⟩ | exact ⟨oc1_1.1, oc1_1.2.1, oc1_1.2.2.1, oc1_1.2.2.2.1, oc1_1.2.2.2.2.1, oc1_1.2.2.2.2.2.1, oc1_1.2.2.2.2.2.2.1, oc1_1.2.2.2.2.2.2.2⟩ | exact ⟨oc1_0.1, oc1_0.2.1, oc1_0.2.2.1, oc1_0.2.2.2.1, oc1_0.2.2.2.2.1, oc1_0.2.2.2.2.2.1, oc1_0.2.2.2.2.2.2.1, oc1_0.2.2.2.2.2.2.2⟩)
    ((first | (go_at_call 8; have hX := toStack_any a len cap zs _ (hI.out.below cb.drew (Nat.le_refl _)) (by omega); refine hX.mono ?_; clear hX; rintro e w1 ⟨rfl, hB1, hS1, hz1⟩; simp only [World.size_drew, World.size_alloc] at hB1 hS1 hz1; have oc1_1 := oc1_0.below hB1 (by omega)) | (go_at_call 9; have hX := toDigits_any d10 d11 d12 d13 d14 d15 d16 d17 w1; refine hX.mono ?_; clear hX; rintro e w2 ⟨rfl, hB2⟩; have hz2 := hB2.size; have oc1_2 := oc1_1.below hB2 (by omega)) | (go_at_call 7; have hX := HT.out w2 _ (hS1.below hB2 (by omega)) H1.out; refine hX.mono ?_; clear hX; rintro e w3 ⟨rfl, hB3⟩; have hz3 := hB3.size; have oc1_3 := oc1_2.below hB3 (by omega))))
  have hz1' := hB1.size; have oc1_1 := oc1_0.below hB1 (by omega)
  have hz2' := hB2.size; have oc1_2 := oc1_1.below hB2 (by omega)
  have hz3' := hB3.size; have oc1_3 := oc1_2.below hB3 (by omega)
  have hBs : Below w.heap.size w w3 := (cb.drew).trans ((hB1.mono (by omega)).trans ((hB2.mono (by omega)).trans (hB3.mono (by omega))))
  have hIs := hid (hI.out.below hBs (Nat.le_refl _))
  have hzs := hBs.size
  clear hS1
  go_wp2_with fail
  have hX := toStack_any a len cap zs _ hIs.out (by omega)
  refine hX.mono ?_
  clear hX
  rintro e u1 ⟨rfl, hC1, hSu, hzu⟩
  have hz_u1 := hC1.size
  have oc1_3_u1 := oc1_3.below hC1 (by first | omega | (simp; omega) | (simp at *; omega))
  have ocx := oc1_3_u1
  obtain ⟨f1_0, f1_1, f1_2, f1_3, f1_4, f1_5, f1_6, f1_7⟩ := ocx
  go_wp2_with fail
  have hX := toDigits_any d10 d11 d12 d13 d14 d15 d16 d17 u1
  refine hX.mono ?_
  clear hX
  rintro e t1 ⟨rfl, hD1⟩
  clear f1_0 f1_1 f1_2 f1_3 f1_4 f1_5 f1_6 f1_7
  have hz_t1 := hD1.size
  have oc1_3_u1_t1 := oc1_3_u1.below hD1 (by first | omega | (simp; omega) | (simp at *; omega))
  have hSv := hid (hSu.below hD1 (by omega))
  go_wp2_with fail
  have hX := HU.out t1 _ hSv.out H1.out
  refine hX.mono ?_
  clear hX
  rintro e u2 ⟨rfl, hC2⟩
  have hz_u2 := hC2.size
  have oc1_3_u1_t1_u2 := oc1_3_u1_t1.below hC2 (by first | omega | (simp; omega) | (simp at *; omega))
  have hSv2 := hid (hSv.out.below hC2 (by omega))
  have hSv3 := hSv2
  have hBz : Below w.heap.size w u2 := hBs.trans ((hC1.mono (by first | omega | (simp; omega))).trans ((hD1.mono (by first | omega | (simp; omega))).trans (hC2.mono (by first | omega | (simp; omega)))))
  have hzz := hBz.size
  have hIz := hid (hI.out.below hBz (Nat.le_refl _))
  go_wp2_with fail
  have hX := toStack_any a len cap zs u2 hIz.out (by omega)
  refine hX.mono ?_
  clear hX
  rintro e y1 ⟨rfl, hE1, hSy, hzy⟩
  go_wp2_with fail
  have hX := eqStack_same _ _ len len len zs y1 (hSv3.out.below hE1 (by first | omega | (simp; omega))) hSy hL.out.symm
  refine hX.mono ?_
  clear hX
  rintro e y2 ⟨rfl, hE2⟩
  go_wp2_with fail
  go_ret
  exact ⟨rfl, hBz.trans ((hE1.mono (by omega)).trans (hE2.mono (by omega)))⟩
end Go.Proofs.YtfbhpikjhidncaaDoor
