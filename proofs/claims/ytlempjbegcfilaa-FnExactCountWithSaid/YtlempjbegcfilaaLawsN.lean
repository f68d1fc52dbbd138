/- The walk of the law CountWith. -/
import Derived.Test.YtlempjbegcfilaaCountC
import Derived.Test.YtlempjbegcfilaaLawsD
namespace Go.Proofs.Ytlempjbegcfilaa
open Go.RowKit
set_option maxRecDepth 100000 in
set_option maxHeartbeats 4000000 in
theorem law_FnExactCountWith (a : Option Addr) (len cap : Nat) (zs : List Int) (x1 : Int) (x2 : Int) (x3 : Int) (x4 : Int) (w : World) (h : InB w a len zs) (h1 : (Lit.int .i64 x1).wf = true) (h2 : (Lit.int .i64 x2).wf = true) (h3 : (Lit.int .i64 x3).wf = true) (h4 : (Lit.int .i64 x4).wf = true) :
    Calls Try.prog 8 #[.slice a len cap, .int .i64 x1, .int .i64 x2, .int .i64 x3, .int .i64 x4] w fun e w' => e = .returned (.bool true) ∧ Below w.heap.size w w' := by
  by_cases hl : 1048576 < len
  · go_enter Try.func8, Try.ntmps8
    go_wp2
    go_ret
    exact ⟨rfl, (Below.refl w.heap.size w)⟩
  have hI := hid h
  have hL := hid h.1
  have H1 := hid h1
  have H2 := hid h2
  have H3 := hid h3
  have H4 := hid h4
  clear h h1 h2 h3 h4
  have hb0 : ((cntR zs x1 x2 x3 x4).1 != (cntR zs x1 x2 x3 x4).1) = false := by simp
  have hb1 : ((cntR zs x1 x2 x3 x4).2 != (cntR zs x1 x2 x3 x4).2) = false := by simp
  have cb : Below w.heap.size w w := (Below.refl w.heap.size w)
  go_enter Try.func8, Try.ntmps8
  go_wp2_with fail
  have hX := toStack_any a len cap zs _ hI.out (by omega)
  refine hX.mono ?_
  clear hX
  rintro e w1 ⟨rfl, hB1, hS1, hz1⟩
  go_wp2_with fail
  have hX := specCountWith_any _ len len zs x1 x2 x3 x4 w1 hS1 hL.out.symm (Nat.le_refl _)
  refine hX.mono ?_
  clear hX
  rintro e w2 ⟨rfl, hB2⟩
  have hz2' := hB2.size
  have hBs : Below w.heap.size w w2 := (cb).trans ((hB1.mono (by omega)).trans (hB2.mono (by omega)))
  have hIs := hid (hI.out.below hBs (Nat.le_refl _))
  have hzs := hBs.size
  clear hS1
  go_wp2_with fail
  have hX := toStack_any a len cap zs _ hIs.out (by omega)
  refine hX.mono ?_
  clear hX
  rintro e u1 ⟨rfl, hC1, hSu, hzu⟩
  have hz_u1 := hC1.size
  have hSv := hid hSu
  go_wp2_with fail
  have hX := implCountWith_any _ len len zs x1 x2 x3 x4 u1 hSv.out hL.out.symm (Nat.le_refl _)
  refine hX.mono ?_
  clear hX
  rintro e u2 ⟨rfl, hC2⟩
  have hz_u2 := hC2.size
  have hSv2 := hid (hSv.out.below hC2 (by omega))
  have hSv3 := hSv2
  have hBz : Below w.heap.size w u2 := hBs.trans ((hC1.mono (by first | omega | (simp; omega))).trans (hC2.mono (by first | omega | (simp; omega))))
  have hzz := hBz.size
  have hIz := hid (hI.out.below hBz (Nat.le_refl _))
  go_wp2_with fail
  have hX := toStack_any a len cap zs u2 hIz.out (by omega)
  refine hX.mono ?_
  clear hX
  rintro e y1 ⟨rfl, hE1, hSy, hzy⟩
  go_wp2_with fail
  have hX := eqStack_same _ _ len len len zs y1 (hSv3.out.below hE1 (by first | omega | (simp; omega))) hSy hL.out.symm
  refine hX.mono ?_
  clear hX
  rintro e y2 ⟨rfl, hE2⟩
  go_wp2_with fail
  go_ret
  exact ⟨rfl, hBz.trans ((hE1.mono (by omega)).trans (hE2.mono (by omega)))⟩
end Go.Proofs.Ytlempjbegcfilaa
