/- The walk of the law DigitsOf. -/
import Derived.Test.YtmcpidofcfeimaaOfS
import Derived.Test.YtmcpidofcfeimaaLawsD
namespace Go.Proofs.Ytmcpidofcfeimaa
open Go.RowKit
set_option maxRecDepth 100000 in
set_option maxHeartbeats 4000000 in
theorem law_FnExactDigitsOf (a : Option Addr) (len cap : Nat) (zs : List Int) (x1 : Int) (w : World) (h : InB w a len zs) (h1 : (Lit.int .i64 x1).wf = true) :
    Calls Try.prog 10 #[.slice a len cap, .int .i64 x1] w fun e w' => e = .returned (.bool true) ∧ Below w.heap.size w w' := by
  by_cases hl : 1048576 < len
  · go_enter Try.func10, Try.ntmps10
    go_wp2
    go_ret
    exact ⟨rfl, (Below.refl w.heap.size w)⟩
  have hI := hid h
  have hL := hid h.1
  have H1 := hid h1
  clear h h1
  have hb1 : ((dofR zs x1).2 != (dofR zs x1).2) = false := by simp
  have cb : Below w.heap.size w w := (Below.refl w.heap.size w)
  go_enter Try.func10, Try.ntmps10
  go_wp2_with fail
  have hX := toStack_any a len cap zs _ hI.out (by omega)
  refine hX.mono ?_
  clear hX
  rintro e w1 ⟨rfl, hB1, hS1, hz1⟩
  go_wp2_with fail
  have hX := specDigitsOf_any _ len len zs x1 w1 hS1 hL.out.symm (Nat.le_refl _)
  refine hX.mono ?_
  clear hX
  rintro e w2 ⟨rfl, hB2⟩
  have hz2' := hB2.size
  have hBs : Below w.heap.size w w2 := (cb).trans ((hB1.mono (by omega)).trans (hB2.mono (by omega)))
  have hIs := hid (hI.out.below hBs (Nat.le_refl _))
  have hzs := hBs.size
  clear hS1
  have bxs0 := Oc.new w2 33 (dg ((dofR zs x1).1) 0) (dg ((dofR zs x1).1) 1) (dg ((dofR zs x1).1) 2) (dg ((dofR zs x1).1) 3) (dg ((dofR zs x1).1) 4) (dg ((dofR zs x1).1) 5) (dg ((dofR zs x1).1) 6) (dg ((dofR zs x1).1) 7)
  have hBas0 : Below w2.heap.size w2 (w2.alloc (.cells #[.int .u8 (dg ((dofR zs x1).1) 0), .int .u8 (dg ((dofR zs x1).1) 1), .int .u8 (dg ((dofR zs x1).1) 2), .int .u8 (dg ((dofR zs x1).1) 3), .int .u8 (dg ((dofR zs x1).1) 4), .int .u8 (dg ((dofR zs x1).1) 5), .int .u8 (dg ((dofR zs x1).1) 6), .int .u8 (dg ((dofR zs x1).1) 7)] 33)) := (Below.refl _ _).alloc (Nat.le_refl _) _
  have hzas0 := hBas0.size
  have hIa := hid (hIs.out.below hBas0 (Nat.le_refl _))
  go_wp2_with fail
  have hX := toStack_any a len cap zs _ hIa.out (by omega)
  refine hX.mono ?_
  clear hX
  rintro e u1 ⟨rfl, hC1, hSu, hzu⟩
  have hz_u1 := hC1.size
  have bxs0_u1 := bxs0.below hC1 (by first | omega | (simp; omega) | (simp at *; done) | (simp; done) | (simp at *; omega))
  simp only [World.size_alloc] at hC1 hSu hzu
  have hSv := hid hSu
  go_wp2_with fail
  have hX := implDigitsOf_any _ len len zs x1 u1 hSv.out hL.out.symm (Nat.le_refl _)
  refine hX.mono ?_
  clear hX
  rintro e u2 ⟨rfl, hC2⟩
  have hz_u2 := hC2.size
  have bxs0_u1_u2 := bxs0_u1.below hC2 (by first | omega | (simp; omega) | (simp at *; done) | (simp; done) | (simp at *; omega))
  have hSv2 := hid (hSv.out.below hC2 (by omega))
  have bxi0 := Oc.new u2 33 (dg ((dofR zs x1).1) 0) (dg ((dofR zs x1).1) 1) (dg ((dofR zs x1).1) 2) (dg ((dofR zs x1).1) 3) (dg ((dofR zs x1).1) 4) (dg ((dofR zs x1).1) 5) (dg ((dofR zs x1).1) 6) (dg ((dofR zs x1).1) 7)
  have hBai0 : Below u2.heap.size u2 (u2.alloc (.cells #[.int .u8 (dg ((dofR zs x1).1) 0), .int .u8 (dg ((dofR zs x1).1) 1), .int .u8 (dg ((dofR zs x1).1) 2), .int .u8 (dg ((dofR zs x1).1) 3), .int .u8 (dg ((dofR zs x1).1) 4), .int .u8 (dg ((dofR zs x1).1) 5), .int .u8 (dg ((dofR zs x1).1) 6), .int .u8 (dg ((dofR zs x1).1) 7)] 33)) := (Below.refl _ _).alloc (Nat.le_refl _) _
  have hzai0 := hBai0.size
  have bxs0_u1_u2i := bxs0_u1_u2.below hBai0 (by omega)
  have hSv2' := hid (hSv2.out.below hBai0 (by omega))
  obtain ⟨p0, p1, p2, p3, p4, p5, p6, p7⟩ := bxs0_u1_u2i
  obtain ⟨q0, q1, q2, q3, q4, q5, q6, q7⟩ := bxi0
  go_wp2_with fail
  refine (eqDigits_same (dg ((dofR zs x1).1) 0) (dg ((dofR zs x1).1) 1) (dg ((dofR zs x1).1) 2) (dg ((dofR zs x1).1) 3) (dg ((dofR zs x1).1) 4) (dg ((dofR zs x1).1) 5) (dg ((dofR zs x1).1) 6) (dg ((dofR zs x1).1) 7) _).mono ?_
  rintro e u3 ⟨rfl, hC3⟩
  clear p0 q0 p1 q1 p2 q2 p3 q3 p4 q4 p5 q5 p6 q6 p7 q7
  have hz_u3 := hC3.size
  have hSv3 := hid (hSv2'.out.below hC3 (by simp; omega))
  have hBz : Below w.heap.size w u3 := hBs.trans ((hBas0.mono (by first | omega | (simp; omega))).trans ((hC1.mono (by first | omega | (simp; omega))).trans ((hC2.mono (by first | omega | (simp; omega))).trans ((hBai0.mono (by first | omega | (simp; omega))).trans (hC3.mono (by first | omega | (simp; omega)))))))
  have hzz := hBz.size
  have hIz := hid (hI.out.below hBz (Nat.le_refl _))
  go_wp2_with fail
  have hX := toStack_any a len cap zs u3 hIz.out (by omega)
  refine hX.mono ?_
  clear hX
  rintro e y1 ⟨rfl, hE1, hSy, hzy⟩
  go_wp2_with fail
  have hX := eqStack_same _ _ len len len zs y1 (hSv3.out.below hE1 (by first | omega | (simp; omega))) hSy hL.out.symm
  refine hX.mono ?_
  clear hX
  rintro e y2 ⟨rfl, hE2⟩
  go_wp2_with fail
  go_ret
  exact ⟨rfl, hBz.trans ((hE1.mono (by omega)).trans (hE2.mono (by omega)))⟩
end Go.Proofs.Ytmcpidofcfeimaa
