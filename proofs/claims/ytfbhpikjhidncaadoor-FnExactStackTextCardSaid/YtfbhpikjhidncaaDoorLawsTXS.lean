/- The walk of the law StackText. -/
import Derived.Test.YtfbhpikjhidncaaDoorTxF
import Derived.Test.YtfbhpikjhidncaaDoorLawsD
namespace Go.Proofs.YtfbhpikjhidncaaDoor
open Go.RowKit
set_option linter.unusedVariables false
set_option linter.unusedSimpArgs false
set_option maxRecDepth 100000 in
set_option maxHeartbeats 4000000 in
theorem law_FnExactStackText (a : Option Addr) (len cap : Nat) (zs : List Int) (w : World) (h : InB w a len zs) (ht : Lib.TabIs Tryd.prog w "internal/strconv.uint64pow10" .u64 Lib.pow10Tab) (hg : 0 < w.heap.size) :
    Calls Tryd.prog 5 #[.slice a len cap] w fun e w' => e = .returned (.bool true) ∧ Below w.heap.size w w' := by
  by_cases hl : 1048576 < len
  · go_enter Tryd.func5, Tryd.ntmps5
    go_wp2
    go_ret
    exact ⟨rfl, (Below.refl w.heap.size w)⟩
  have hI := hid h
  have hL := hid h.1
  clear h 
  have HT := hid (fun w b h => specST_any b len len zs w h hL.out.symm)
  have HU := hid (fun w b h ht hg => implST_any b len len zs w h hL.out.symm ht hg)
  have HTB := hid ht
  have HG := hid hg
  obtain ⟨T, hT⟩ : ∃ T : ByteArray, ⟨(txS zs).toArray⟩ = T := ⟨_, rfl⟩
  rw [hT] at HT HU
  clear ht hg
  have cb : Below w.heap.size w w := (Below.refl w.heap.size w)
  go_enter Tryd.func5, Tryd.ntmps5
  go_wp2_with fail
  have hX := toStack_any a len cap zs _ hI.out (by omega)
  refine hX.mono ?_
  clear hX
  rintro e w1 ⟨rfl, hB1, hS1, hz1⟩
  go_wp2_with fail
  have hX := HT.out w1 _ hS1
  refine hX.mono ?_
  clear hX
  rintro e w2 ⟨rfl, hB2⟩
  have hz2' := hB2.size
  have hBs : Below w.heap.size w w2 := (cb).trans ((hB1.mono (by omega)).trans (hB2.mono (by omega)))
  have hIs := hid (hI.out.below hBs (Nat.le_refl _))
  have hzs := hBs.size
  clear hS1
  go_wp2_with fail
  have hX := toStack_any a len cap zs _ hIs.out (by omega)
  refine hX.mono ?_
  clear hX
  rintro e u1 ⟨rfl, hC1, hSu, hzu⟩
  have hz_u1 := hC1.size
  have hSv := hid hSu
  go_wp2_with fail
  have hX := HU.out u1 _ hSv.out (tab_below HTB.out (hBs.trans (hC1.mono (by omega))) HG.out) (by have := HG.out; omega)
  refine hX.mono ?_
  clear hX
  rintro e u2 ⟨rfl, hC2⟩
  have hz_u2 := hC2.size
  have hSv2 := hid (hSv.out.below hC2 (by omega))
  have hSv3 := hSv2
  have hBz : Below w.heap.size w u2 := hBs.trans ((hC1.mono (by first | omega | (simp; omega))).trans (hC2.mono (by first | omega | (simp; omega))))
  have hzz := hBz.size
  have hIz := hid (hI.out.below hBz (Nat.le_refl _))
  go_wp2_with fail
  have hX := toStack_any a len cap zs u2 hIz.out (by omega)
  refine hX.mono ?_
  clear hX
  rintro e y1 ⟨rfl, hE1, hSy, hzy⟩
  go_wp2_with fail
  have hX := eqStack_same _ _ len len len zs y1 (hSv3.out.below hE1 (by first | omega | (simp; omega))) hSy hL.out.symm
  refine hX.mono ?_
  clear hX
  rintro e y2 ⟨rfl, hE2⟩
  go_wp2_with fail
  go_ret
  exact ⟨rfl, hBz.trans ((hE1.mono (by omega)).trans (hE2.mono (by omega)))⟩
end Go.Proofs.YtfbhpikjhidncaaDoor
