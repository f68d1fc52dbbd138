/- The walk of the law CompareDigits. -/
import Derived.Test.YtihjidconjfcfaaWayQ
namespace Go.Proofs.Ytihjidconjfcfaa
open Go.RowKit
set_option maxRecDepth 100000 in
set_option maxHeartbeats 4000000 in
theorem law_FnExactCompareDigits (a : Option Addr) (len cap : Nat) (zs : List Int) (d10 d11 d12 d13 d14 d15 d16 d17 : Int) (d20 d21 d22 d23 d24 d25 d26 d27 : Int) (w : World) (h : InB w a len zs) (h1 : Oct d10 d11 d12 d13 d14 d15 d16 d17) (h2 : Oct d20 d21 d22 d23 d24 d25 d26 d27) :
    Calls Try.prog 4 #[.slice a len cap, .agg #[.int .u8 d10, .int .u8 d11, .int .u8 d12, .int .u8 d13, .int .u8 d14, .int .u8 d15, .int .u8 d16, .int .u8 d17], .agg #[.int .u8 d20, .int .u8 d21, .int .u8 d22, .int .u8 d23, .int .u8 d24, .int .u8 d25, .int .u8 d26, .int .u8 d27]] w fun e w' => e = .returned (.bool true) ∧ Below w.heap.size w w' := by
  by_cases hl : 1048576 < len
  · go_enter Try.func4, Try.ntmps4
    go_wp2
    go_ret
    exact ⟨rfl, (Below.alloc ((Below.refl w.heap.size w).alloc (Nat.le_refl _) _) (by simp) _)⟩
  have hI := hid h
  have hL := hid h.1
  have H1 := hid h1
  have H2 := hid h2
  clear h h1 h2
  have hb0 : ((cmpD zs [d10, d11, d12, d13, d14, d15, d16, d17] [d20, d21, d22, d23, d24, d25, d26, d27] len).1 != (cmpD zs [d10, d11, d12, d13, d14, d15, d16, d17] [d20, d21, d22, d23, d24, d25, d26, d27] len).1) = false := by simp
  have hb1 : ((cmpD zs [d10, d11, d12, d13, d14, d15, d16, d17] [d20, d21, d22, d23, d24, d25, d26, d27] len).2 != (cmpD zs [d10, d11, d12, d13, d14, d15, d16, d17] [d20, d21, d22, d23, d24, d25, d26, d27] len).2) = false := by simp
  have cb : Below w.heap.size w ((w.alloc (.cells #[.int .u8 d10, .int .u8 d11, .int .u8 d12, .int .u8 d13, .int .u8 d14, .int .u8 d15, .int .u8 d16, .int .u8 d17] 23)).alloc (.cells #[.int .u8 d20, .int .u8 d21, .int .u8 d22, .int .u8 d23, .int .u8 d24, .int .u8 d25, .int .u8 d26, .int .u8 d27] 23)) := (Below.alloc ((Below.refl w.heap.size w).alloc (Nat.le_refl _) _) (by simp) _)
  have oc1_0 : Oc ((w.alloc (.cells #[.int .u8 d10, .int .u8 d11, .int .u8 d12, .int .u8 d13, .int .u8 d14, .int .u8 d15, .int .u8 d16, .int .u8 d17] 23)).alloc (.cells #[.int .u8 d20, .int .u8 d21, .int .u8 d22, .int .u8 d23, .int .u8 d24, .int .u8 d25, .int .u8 d26, .int .u8 d27] 23)).drew (w.heap.size) d10 d11 d12 d13 d14 d15 d16 d17 := by
    have := Oc.new w 23 d10 d11 d12 d13 d14 d15 d16 d17
    exact this.below (n := w.heap.size + 1) (Below.drew (Below.alloc (Below.refl (w.heap.size + 1) (w.alloc (.cells #[.int .u8 d10, .int .u8 d11, .int .u8 d12, .int .u8 d13, .int .u8 d14, .int .u8 d15, .int .u8 d16, .int .u8 d17] 23))) (by simp) (.cells #[.int .u8 d20, .int .u8 d21, .int .u8 d22, .int .u8 d23, .int .u8 d24, .int .u8 d25, .int .u8 d26, .int .u8 d27] 23))) (by omega)
  have oc2_0 : Oc ((w.alloc (.cells #[.int .u8 d10, .int .u8 d11, .int .u8 d12, .int .u8 d13, .int .u8 d14, .int .u8 d15, .int .u8 d16, .int .u8 d17] 23)).alloc (.cells #[.int .u8 d20, .int .u8 d21, .int .u8 d22, .int .u8 d23, .int .u8 d24, .int .u8 d25, .int .u8 d26, .int .u8 d27] 23)).drew (w.heap.size + 1) d20 d21 d22 d23 d24 d25 d26 d27 := by
    have := Oc.new (w.alloc (.cells #[.int .u8 d10, .int .u8 d11, .int .u8 d12, .int .u8 d13, .int .u8 d14, .int .u8 d15, .int .u8 d16, .int .u8 d17] 23)) 23 d20 d21 d22 d23 d24 d25 d26 d27
    simp only [World.size_alloc] at this
    exact this
  go_enter Try.func4, Try.ntmps4
  go_wp2_with fail
  go_region_held3 (fun w' => w'.cell? ⟨w.heap.size, 0, none⟩ = some (.int .u8 d10) ∧ w'.cell? ⟨w.heap.size, 1, none⟩ = some (.int .u8 d11) ∧ w'.cell? ⟨w.heap.size, 2, none⟩ = some (.int .u8 d12) ∧ w'.cell? ⟨w.heap.size, 3, none⟩ = some (.int .u8 d13) ∧ w'.cell? ⟨w.heap.size, 4, none⟩ = some (.int .u8 d14) ∧ w'.cell? ⟨w.heap.size, 5, none⟩ = some (.int .u8 d15) ∧ w'.cell? ⟨w.heap.size, 6, none⟩ = some (.int .u8 d16) ∧ w'.cell? ⟨w.heap.size, 7, none⟩ = some (.int .u8 d17) ∧ w'.cell? ⟨w.heap.size + 1, 0, none⟩ = some (.int .u8 d20) ∧ w'.cell? ⟨w.heap.size + 1, 1, none⟩ = some (.int .u8 d21) ∧ w'.cell? ⟨w.heap.size + 1, 2, none⟩ = some (.int .u8 d22) ∧ w'.cell? ⟨w.heap.size + 1, 3, none⟩ = some (.int .u8 d23) ∧ w'.cell? ⟨w.heap.size + 1, 4, none⟩ = some (.int .u8 d24) ∧ w'.cell? ⟨w.heap.size + 1, 5, none⟩ = some (.int .u8 d25) ∧ w'.cell? ⟨w.heap.size + 1, 6, none⟩ = some (.int .u8 d26) ∧ w'.cell? ⟨w.heap.size + 1, 7, none⟩ = some (.int .u8 d27)) (first | exact ⟨oc1_4.1, oc1_4.2.1, oc1_4.2.2.1, oc1_4.2.2.2.1, oc1_4.2.2.2.2.1, oc1_4.2.2.2.2.2.1, oc1_4.2.2.2.2.2.2.1, oc1_4.2.2.2.2.2.2.2, oc2_4.1, oc2_4.2.1, oc2_4.2.2.1, oc2_4.2.2.2.1, oc2_4.2.2.2.2.1, oc2_4.2.2.2.2.2.1, oc2_4.2.2.2.2.2.2.1, oc2_4.2.2.2.2.2.2.2⟩ | exact ⟨oc1_3.1, oc1_3.2.1, oc1_3.2.2.1, oc1_3.2.2.2.1, oc1_3.2.2.2.2.1, oc1_3.2.2.2.2.2.1, oc1_3.2.2.2.2.2.2.1, oc1_3.2.2.2.2.2.2.2, oc2_3.1, oc2_3.2.1, oc2_3.2.2.1, oc2_3.2.2.2.1, oc2_3.2.2.2.2.1, oc2_3.2.2.2.2.2.1, oc2_3.2.2.2.2.2.2.1, oc2_3.2.2.2.2.2.2.2⟩ | exact ⟨oc1_2.1, oc1_2.2.1, oc1_2.2.2.1, oc1_2.2.2.2.1, oc1_2.2.2.2.2.1, oc1_2.2.2.2.2.2.1, oc1_2.2.2.2.2.2.2.1, oc1_2.2.2.2.2.2.2.2, oc2_2.1, oc2_2.2.1, oc2_2.2.2.1, oc2_2.2.2.2.1, oc2_2.2.2.2.2.1, oc2_2.2.2.2.2.2.1, oc2_2.2.2.2.2.2.2.1, oc2_2.2.2.2.2.2.2.2⟩ | exact ⟨oc1_1.1, oc1_1.2.1, oc1_1.2.2.1, oc1_1.2.2.2.1, oc1_1.2.2.2.2.1, oc1_1.2.2.2.2.2.1, oc1_1.2.2.2.2.2.2.1, oc1_1.2.2.2.2.2.2.2, oc2_1.1, oc2_1.2.1, oc2_1.2.2.1, oc2_1.2.2.2.1, oc2_1.2.2.2.2.1, oc2_1.2.2.2.2.2.1, oc2_1.2.2.2.2.2.2.1, oc2_1.2.2.2.2.2.2.2⟩ | exact ⟨oc1_0.1, oc1_0.2.1, oc1_0.2.2.1, oc1_0.2.2.2.1, oc1_0.2.2.2.2.1, oc1_0.2.2.2.2.2.1, oc1_0.2.2.2.2.2.2.1, oc1_0.2.2.2.2.2.2.2, oc2_0.1, oc2_0.2.1, oc2_0.2.2.1, oc2_0.2.2.2.1, oc2_0.2.2.2.2.1, oc2_0.2.2.2.2.2.1, oc2_0.2.2.2.2.2.2.1, oc2_0.2.2.2.2.2.2.2⟩)
    ((first | (go_at_call 6; have hX := toStack_any a len cap zs _ (hI.out.below cb.drew (Nat.le_refl _)) (by omega); refine hX.mono ?_; clear hX; rintro e w1 ⟨rfl, hB1, hS1, hz1⟩; simp only [World.size_drew, World.size_alloc] at hB1 hS1 hz1; have oc1_1 := oc1_0.below hB1 (by omega); have oc2_1 := oc2_0.below hB1 (by omega)) | (go_at_call 7; have _t := tok1; have hX := toDigits_any d20 d21 d22 d23 d24 d25 d26 d27 w2; refine hX.mono ?_; clear hX; rintro e w3 ⟨rfl, hB3⟩; have hz3 := hB3.size; have oc1_3 := oc1_2.below hB3 (by omega); have oc2_3 := oc2_2.below hB3 (by omega)) | (go_at_call 7; have hX := toDigits_any d10 d11 d12 d13 d14 d15 d16 d17 w1; refine hX.mono ?_; clear hX; rintro e w2 ⟨rfl, hB2⟩; have hz2 := hB2.size; have oc1_2 := oc1_1.below hB2 (by omega); have oc2_2 := oc2_1.below hB2 (by omega); have tok1 : True := trivial) | (go_at_call 10; have hX := specCompareDigits_any _ len len zs d10 d11 d12 d13 d14 d15 d16 d17 d20 d21 d22 d23 d24 d25 d26 d27 w3 ((hS1.below hB2 (by omega)).below hB3 (by omega)) hL.out.symm (Nat.le_refl _) H1.out H2.out; refine hX.mono ?_; clear hX; rintro e w4 ⟨rfl, hB4⟩; have hz4 := hB4.size; have oc1_4 := oc1_3.below hB4 (by omega); have oc2_4 := oc2_3.below hB4 (by omega))))
  have hz1' := hB1.size; have oc1_1 := oc1_0.below hB1 (by omega); have oc2_1 := oc2_0.below hB1 (by omega)
  have hz2' := hB2.size; have oc1_2 := oc1_1.below hB2 (by omega); have oc2_2 := oc2_1.below hB2 (by omega)
  have hz3' := hB3.size; have oc1_3 := oc1_2.below hB3 (by omega); have oc2_3 := oc2_2.below hB3 (by omega)
  have hz4' := hB4.size; have oc1_4 := oc1_3.below hB4 (by omega); have oc2_4 := oc2_3.below hB4 (by omega)
  have hBs : Below w.heap.size w w4 := (cb.drew).trans ((hB1.mono (by omega)).trans ((hB2.mono (by omega)).trans ((hB3.mono (by omega)).trans (hB4.mono (by omega)))))
  have hIs := hid (hI.out.below hBs (Nat.le_refl _))
  have hzs := hBs.size
  clear hS1
  go_wp2_with fail
  have hX := toStack_any a len cap zs _ hIs.out (by omega)
  refine hX.mono ?_
  clear hX
  rintro e u1 ⟨rfl, hC1, hSu, hzu⟩
  have hz_u1 := hC1.size
  have oc1_4_u1 := oc1_4.below hC1 (by first | omega | (simp; omega) | (simp at *; omega))
  have oc2_4_u1 := oc2_4.below hC1 (by first | omega | (simp; omega) | (simp at *; omega))
  have o1_0 : Oc u1.drew (w.heap.size) d10 d11 d12 d13 d14 d15 d16 d17 := oc1_4_u1
  have o2_0 : Oc u1.drew (w.heap.size + 1) d20 d21 d22 d23 d24 d25 d26 d27 := oc2_4_u1
  have HSu := hid hSu
  clear hSu
  have zz0 : w.heap.size + 1 < u1.heap.size := by omega
  go_wp2_with fail
  go_region_held3 (fun w' => w'.cell? ⟨w.heap.size, 0, none⟩ = some (.int .u8 d10) ∧ w'.cell? ⟨w.heap.size, 1, none⟩ = some (.int .u8 d11) ∧ w'.cell? ⟨w.heap.size, 2, none⟩ = some (.int .u8 d12) ∧ w'.cell? ⟨w.heap.size, 3, none⟩ = some (.int .u8 d13) ∧ w'.cell? ⟨w.heap.size, 4, none⟩ = some (.int .u8 d14) ∧ w'.cell? ⟨w.heap.size, 5, none⟩ = some (.int .u8 d15) ∧ w'.cell? ⟨w.heap.size, 6, none⟩ = some (.int .u8 d16) ∧ w'.cell? ⟨w.heap.size, 7, none⟩ = some (.int .u8 d17) ∧ w'.cell? ⟨w.heap.size + 1, 0, none⟩ = some (.int .u8 d20) ∧ w'.cell? ⟨w.heap.size + 1, 1, none⟩ = some (.int .u8 d21) ∧ w'.cell? ⟨w.heap.size + 1, 2, none⟩ = some (.int .u8 d22) ∧ w'.cell? ⟨w.heap.size + 1, 3, none⟩ = some (.int .u8 d23) ∧ w'.cell? ⟨w.heap.size + 1, 4, none⟩ = some (.int .u8 d24) ∧ w'.cell? ⟨w.heap.size + 1, 5, none⟩ = some (.int .u8 d25) ∧ w'.cell? ⟨w.heap.size + 1, 6, none⟩ = some (.int .u8 d26) ∧ w'.cell? ⟨w.heap.size + 1, 7, none⟩ = some (.int .u8 d27)) (first | exact ⟨o1_3.1, o1_3.2.1, o1_3.2.2.1, o1_3.2.2.2.1, o1_3.2.2.2.2.1, o1_3.2.2.2.2.2.1, o1_3.2.2.2.2.2.2.1, o1_3.2.2.2.2.2.2.2, o2_3.1, o2_3.2.1, o2_3.2.2.1, o2_3.2.2.2.1, o2_3.2.2.2.2.1, o2_3.2.2.2.2.2.1, o2_3.2.2.2.2.2.2.1, o2_3.2.2.2.2.2.2.2⟩ | exact ⟨o1_2.1, o1_2.2.1, o1_2.2.2.1, o1_2.2.2.2.1, o1_2.2.2.2.2.1, o1_2.2.2.2.2.2.1, o1_2.2.2.2.2.2.2.1, o1_2.2.2.2.2.2.2.2, o2_2.1, o2_2.2.1, o2_2.2.2.1, o2_2.2.2.2.1, o2_2.2.2.2.2.1, o2_2.2.2.2.2.2.1, o2_2.2.2.2.2.2.2.1, o2_2.2.2.2.2.2.2.2⟩ | exact ⟨o1_1.1, o1_1.2.1, o1_1.2.2.1, o1_1.2.2.2.1, o1_1.2.2.2.2.1, o1_1.2.2.2.2.2.1, o1_1.2.2.2.2.2.2.1, o1_1.2.2.2.2.2.2.2, o2_1.1, o2_1.2.1, o2_1.2.2.1, o2_1.2.2.2.1, o2_1.2.2.2.2.1, o2_1.2.2.2.2.2.1, o2_1.2.2.2.2.2.2.1, o2_1.2.2.2.2.2.2.2⟩ | exact ⟨o1_0.1, o1_0.2.1, o1_0.2.2.1, o1_0.2.2.2.1, o1_0.2.2.2.2.1, o1_0.2.2.2.2.2.1, o1_0.2.2.2.2.2.2.1, o1_0.2.2.2.2.2.2.2, o2_0.1, o2_0.2.1, o2_0.2.2.1, o2_0.2.2.2.1, o2_0.2.2.2.2.1, o2_0.2.2.2.2.2.1, o2_0.2.2.2.2.2.2.1, o2_0.2.2.2.2.2.2.2⟩)
    ((first | (go_at_call 7; have _t := tok1; have hX := toDigits_any d20 d21 d22 d23 d24 d25 d26 d27 t1; refine hX.mono ?_; clear hX; rintro e t2 ⟨rfl, hD2⟩; have hzD2 := hD2.size; have o1_2 := o1_1.below hD2 (by omega); have o2_2 := o2_1.below hD2 (by omega)) | (go_at_call 7; have hX := toDigits_any d10 d11 d12 d13 d14 d15 d16 d17 u1.drew; refine hX.mono ?_; clear hX; rintro e t1 ⟨rfl, hD1d⟩; simp only [World.size_drew] at hD1d; have hzD1 := hD1d.size; simp only [World.size_drew] at hzD1; have o1_1 := o1_0.below hD1d (by omega); have o2_1 := o2_0.below hD1d (by omega); have tok1 : True := trivial) | (go_at_call 11; have hX := implCompareDigits_any _ len len zs d10 d11 d12 d13 d14 d15 d16 d17 d20 d21 d22 d23 d24 d25 d26 d27 t2 ((HSu.out.below ((Below.refl u1.heap.size u1).drew.trans hD1d) hzu).below hD2 (by omega)) hL.out.symm (Nat.le_refl _) H1.out H2.out; refine hX.mono ?_; clear hX; rintro e u2 ⟨rfl, hC2⟩; have o1_3 := o1_2.below hC2 (by omega); have o2_3 := o2_2.below hC2 (by omega))))
  have hD1 : Below u1.heap.size u1 t1 := (Below.refl u1.heap.size u1).drew.trans hD1d
  have hz_t1 := hD1.size
  have hz_t2 := hD2.size
  have hSv := hid ((HSu.out.below hD1 hzu).below hD2 (by omega))
  have hz_u2 := hC2.size
  have hSv2 := hid (hSv.out.below hC2 (by omega))
  have hSv3 := hSv2
  have hBz : Below w.heap.size w u2 := hBs.trans ((hC1.mono (by first | omega | (simp; omega))).trans ((hD1.mono (by first | omega | (simp; omega))).trans ((hD2.mono (by first | omega | (simp; omega))).trans (hC2.mono (by first | omega | (simp; omega))))))
  have hzz := hBz.size
  have hIz := hid (hI.out.below hBz (Nat.le_refl _))
  go_wp2_with fail
  have hX := toStack_any a len cap zs u2 hIz.out (by omega)
  refine hX.mono ?_
  clear hX
  rintro e y1 ⟨rfl, hE1, hSy, hzy⟩
  go_wp2_with fail
  have hX := eqStack_same _ _ len len len zs y1 (hSv3.out.below hE1 (by first | omega | (simp; omega))) hSy hL.out.symm
  refine hX.mono ?_
  clear hX
  rintro e y2 ⟨rfl, hE2⟩
  go_wp2_with fail
  go_ret
  exact ⟨rfl, hBz.trans ((hE1.mono (by omega)).trans (hE2.mono (by omega)))⟩

end Go.Proofs.Ytihjidconjfcfaa
