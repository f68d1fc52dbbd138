/- The walks of laws over sizes and places. -/
import Derived.Test.YtmcpidofcfeimaaSizes
import Derived.Test.YtmcpidofcfeimaaLawsD
namespace Go.Proofs.Ytmcpidofcfeimaa
open Go.RowKit
set_option maxRecDepth 100000 in
set_option maxHeartbeats 4000000 in
theorem law_FnExactSizeOf (a : Option Addr) (len cap : Nat) (zs : List Int) (w : World) (h : InB w a len zs) :
    Calls Try.prog 8 #[.slice a len cap] w fun e w' => e = .returned (.bool true) ∧ Below w.heap.size w w' := by
  by_cases hl : 1048576 < len
  · go_enter Try.func8, Try.ntmps8
    go_wp2
    go_ret
    exact ⟨rfl, (Below.refl w.heap.size w)⟩
  have hI := hid h
  have hL := hid h.1
  clear h 
  have hb0 : ((sizeR zs).1 != (sizeR zs).1) = false := by simp
  have hb1 : ((sizeR zs).2 != (sizeR zs).2) = false := by simp
  have cb : Below w.heap.size w w := (Below.refl w.heap.size w)
  go_enter Try.func8, Try.ntmps8
  go_wp2_with fail
  have hX := toStack_any a len cap zs _ hI.out (by omega)
  refine hX.mono ?_
  clear hX
  rintro e w1 ⟨rfl, hB1, hS1, hz1⟩
  go_wp2_with fail
  have hX := specSizeOf_any _ len len zs  w1 hS1 hL.out.symm 
  refine hX.mono ?_
  clear hX
  rintro e w2 ⟨rfl, hB2⟩
  have hz2' := hB2.size
  have hBs : Below w.heap.size w w2 := (cb).trans ((hB1.mono (by omega)).trans (hB2.mono (by omega)))
  have hIs := hid (hI.out.below hBs (Nat.le_refl _))
  have hzs := hBs.size
  clear hS1
  go_wp2_with fail
  have hX := toStack_any a len cap zs _ hIs.out (by omega)
  refine hX.mono ?_
  clear hX
  rintro e u1 ⟨rfl, hC1, hSu, hzu⟩
  have hz_u1 := hC1.size
  have hSv := hid hSu
  go_wp2_with fail
  have hX := implSizeOf_any _ len len zs  u1 hSv.out hL.out.symm 
  refine hX.mono ?_
  clear hX
  rintro e u2 ⟨rfl, hC2⟩
  have hz_u2 := hC2.size
  have hSv2 := hid (hSv.out.below hC2 (by omega))
  have hSv3 := hSv2
  have hBz : Below w.heap.size w u2 := hBs.trans ((hC1.mono (by first | omega | (simp; omega))).trans (hC2.mono (by first | omega | (simp; omega))))
  have hzz := hBz.size
  have hIz := hid (hI.out.below hBz (Nat.le_refl _))
  go_wp2_with fail
  have hX := toStack_any a len cap zs u2 hIz.out (by omega)
  refine hX.mono ?_
  clear hX
  rintro e y1 ⟨rfl, hE1, hSy, hzy⟩
  go_wp2_with fail
  have hX := eqStack_same _ _ len len len zs y1 (hSv3.out.below hE1 (by first | omega | (simp; omega))) hSy hL.out.symm
  refine hX.mono ?_
  clear hX
  rintro e y2 ⟨rfl, hE2⟩
  go_wp2_with fail
  go_ret
  exact ⟨rfl, hBz.trans ((hE1.mono (by omega)).trans (hE2.mono (by omega)))⟩
set_option maxRecDepth 100000 in
set_option maxHeartbeats 4000000 in
theorem law_FnExactPlaceOf (a : Option Addr) (len cap : Nat) (zs : List Int) (x1 : Int) (w : World) (h : InB w a len zs) (h1 : (Lit.int .i64 x1).wf = true) :
    Calls Try.prog 9 #[.slice a len cap, .int .i64 x1] w fun e w' => e = .returned (.bool true) ∧ Below w.heap.size w w' := by
  by_cases hl : 1048576 < len
  · go_enter Try.func9, Try.ntmps9
    go_wp2
    go_ret
    exact ⟨rfl, (Below.refl w.heap.size w)⟩
  have hI := hid h
  have hL := hid h.1
  have H1 := hid h1
  clear h h1
  have hb0 : ((placeR zs x1).1 != (placeR zs x1).1) = false := by simp
  have hb1 : ((placeR zs x1).2 != (placeR zs x1).2) = false := by simp
  have cb : Below w.heap.size w w := (Below.refl w.heap.size w)
  go_enter Try.func9, Try.ntmps9
  go_wp2_with fail
  have hX := toStack_any a len cap zs _ hI.out (by omega)
  refine hX.mono ?_
  clear hX
  rintro e w1 ⟨rfl, hB1, hS1, hz1⟩
  go_wp2_with fail
  have hX := specPlaceOf_any _ len len zs x1 w1 hS1 hL.out.symm (Nat.le_refl _)
  refine hX.mono ?_
  clear hX
  rintro e w2 ⟨rfl, hB2⟩
  have hz2' := hB2.size
  have hBs : Below w.heap.size w w2 := (cb).trans ((hB1.mono (by omega)).trans (hB2.mono (by omega)))
  have hIs := hid (hI.out.below hBs (Nat.le_refl _))
  have hzs := hBs.size
  clear hS1
  go_wp2_with fail
  have hX := toStack_any a len cap zs _ hIs.out (by omega)
  refine hX.mono ?_
  clear hX
  rintro e u1 ⟨rfl, hC1, hSu, hzu⟩
  have hz_u1 := hC1.size
  have hSv := hid hSu
  go_wp2_with fail
  have hX := implPlaceOf_any _ len len zs x1 u1 hSv.out hL.out.symm (Nat.le_refl _)
  refine hX.mono ?_
  clear hX
  rintro e u2 ⟨rfl, hC2⟩
  have hz_u2 := hC2.size
  have hSv2 := hid (hSv.out.below hC2 (by omega))
  have hSv3 := hSv2
  have hBz : Below w.heap.size w u2 := hBs.trans ((hC1.mono (by first | omega | (simp; omega))).trans (hC2.mono (by first | omega | (simp; omega))))
  have hzz := hBz.size
  have hIz := hid (hI.out.below hBz (Nat.le_refl _))
  go_wp2_with fail
  have hX := toStack_any a len cap zs u2 hIz.out (by omega)
  refine hX.mono ?_
  clear hX
  rintro e y1 ⟨rfl, hE1, hSy, hzy⟩
  go_wp2_with fail
  have hX := eqStack_same _ _ len len len zs y1 (hSv3.out.below hE1 (by first | omega | (simp; omega))) hSy hL.out.symm
  refine hX.mono ?_
  clear hX
  rintro e y2 ⟨rfl, hE2⟩
  go_wp2_with fail
  go_ret
  exact ⟨rfl, hBz.trans ((hE1.mono (by omega)).trans (hE2.mono (by omega)))⟩
end Go.Proofs.Ytmcpidofcfeimaa
