/- The walk of the law BlankPhoto. -/
import Derived.Test.YtgfdfnlbkljgeaaPhG
import Derived.Test.YtgfdfnlbkljgeaaPhO
namespace Go.Proofs.Ytgfdfnlbkljgeaa
open Go.RowKit
set_option maxRecDepth 100000 in
set_option maxHeartbeats 1000000 in
theorem law_FnExactBlankPhoto (a : Option Addr) (len cap : Nat) (zs : List Int) (w : World) (h : InB w a len zs) :
    Calls Try.prog 5 #[.slice a len cap] w fun e w' => e = .returned (.bool true) ∧ Below w.heap.size w w' := by
  by_cases hl : 1048576 < len
  · go_enter Try.func5, Try.ntmps5
    go_wp2
    go_ret
    exact ⟨rfl, Below.refl _ _⟩
  have hI := hid h
  have hL := hid h.1
  have hi := Try.infoPhoto
  have hb1 : ((blankR zs).2 != (blankR zs).2) = false := by simp
  clear h
  go_enter Try.func5, Try.ntmps5
  go_wp2_with fail
  refine (toStack_any a len cap zs w hI.out (by omega)).mono ?_
  rintro e w1 ⟨rfl, hB1, hS1, hz1⟩
  go_wp2_with fail
  refine (specBlankPhoto_any _ len len zs w1 hS1 hL.out.symm).mono ?_
  rintro e w2 ⟨rfl, hB2⟩
  have hz2 := hB2.size
  have rz := (Row.new w2 31 [.int .u64 0, .int .u64 0, .int .u64 0, .int .u64 0, .int .u64 0, .int .u64 0, .int .u64 0, .int .u64 0, .int .u64 0, .int .u64 0, .int .u64 0, .int .u64 0, .int .u64 0, .int .u64 0, .int .u64 0, .int .u64 0]).zeros
  have T1 := rz.there 16 rfl
  have R1 := hid (rz.setCells (ys := (phL (blankR zs).1)) rfl)
  have b2 := hid (below_setCells (phL (blankR zs).1) 0 _ ((hB1.trans (hB2.mono (by omega))).alloc (by omega) (.cells #[.int .u64 0, .int .u64 0, .int .u64 0, .int .u64 0, .int .u64 0, .int .u64 0, .int .u64 0, .int .u64 0, .int .u64 0, .int .u64 0, .int .u64 0, .int .u64 0, .int .u64 0, .int .u64 0, .int .u64 0, .int .u64 0] 31)) (g := w2.heap.size) (by omega))
  have hzs : Hid (w2.heap.size < ((w2.alloc (.cells #[.int .u64 0, .int .u64 0, .int .u64 0, .int .u64 0, .int .u64 0, .int .u64 0, .int .u64 0, .int .u64 0, .int .u64 0, .int .u64 0, .int .u64 0, .int .u64 0, .int .u64 0, .int .u64 0, .int .u64 0, .int .u64 0] 31)).setCells w2.heap.size 0 (phL (blankR zs).1)).heap.size) := hid R1.out.lt
  clear rz hB1 hS1 hB2
  go_wp2_with ((with_reducible refine wpList_store_mid rfl 31 _ _ rfl w2.heap.size 0 (phL (blankR zs).1).toArray ?_ ?_ ?_ ?_ (all_oneCell_toArray (phL_one _)) ?_); rfl; rfl; (rw [sz16]; exact T1); (rw [sz16]; exact hi))
  have hzb := b2.out.size
  refine (toStack_any a len cap zs _ (hI.out.below b2.out (Nat.le_refl _)) (by omega)).mono ?_
  rintro e w4 ⟨rfl, hB4, hS4, hz4⟩
  have R2 := hid (R1.out.below hB4 hzs.out)
  have b4 := hid (b2.out.trans (hB4.mono hzb))
  have hS4' := hid hS4
  have hz4' : w.heap.size ≤ w4.heap.size := b4.out.size
  clear hB4 b2 R1 T1 hS4
  generalize ((w2.alloc (.cells #[.int .u64 0, .int .u64 0, .int .u64 0, .int .u64 0, .int .u64 0, .int .u64 0, .int .u64 0, .int .u64 0, .int .u64 0, .int .u64 0, .int .u64 0, .int .u64 0, .int .u64 0, .int .u64 0, .int .u64 0, .int .u64 0] 31)).setCells w2.heap.size 0 (phL (blankR zs).1)).heap.size = G at *
  go_wp2_with fail
  refine (implBlankPhoto_any G len len zs w4 hS4'.out hL.out.symm).mono ?_
  rintro e w5 ⟨rfl, hB5⟩
  have hz5 := hB5.size
  have rz := (Row.new w5 31 [.int .u64 0, .int .u64 0, .int .u64 0, .int .u64 0, .int .u64 0, .int .u64 0, .int .u64 0, .int .u64 0, .int .u64 0, .int .u64 0, .int .u64 0, .int .u64 0, .int .u64 0, .int .u64 0, .int .u64 0, .int .u64 0]).zeros
  have T1 := rz.there 16 rfl
  have R5 := hid (rz.setCells (ys := (phL (blankR zs).1)) rfl)
  have hg4 : w2.heap.size < w4.heap.size := R2.out.lt
  have R3 := hid (R2.out.below (below_setCells (phL (blankR zs).1) 0 _ (hB5.alloc (by omega) (.cells #[.int .u64 0, .int .u64 0, .int .u64 0, .int .u64 0, .int .u64 0, .int .u64 0, .int .u64 0, .int .u64 0, .int .u64 0, .int .u64 0, .int .u64 0, .int .u64 0, .int .u64 0, .int .u64 0, .int .u64 0, .int .u64 0] 31)) (g := w5.heap.size) (by omega)) hg4)
  have hS5 := hid (hS4'.out.below (below_setCells (phL (blankR zs).1) 0 _ (hB5.alloc (by omega) (.cells #[.int .u64 0, .int .u64 0, .int .u64 0, .int .u64 0, .int .u64 0, .int .u64 0, .int .u64 0, .int .u64 0, .int .u64 0, .int .u64 0, .int .u64 0, .int .u64 0, .int .u64 0, .int .u64 0, .int .u64 0, .int .u64 0] 31)) (g := w5.heap.size) (by omega)) hS4'.out.1)
  have b5 := hid (b4.out.trans (below_setCells (phL (blankR zs).1) 0 _ ((hB5.mono hz4').alloc (by omega) (.cells #[.int .u64 0, .int .u64 0, .int .u64 0, .int .u64 0, .int .u64 0, .int .u64 0, .int .u64 0, .int .u64 0, .int .u64 0, .int .u64 0, .int .u64 0, .int .u64 0, .int .u64 0, .int .u64 0, .int .u64 0, .int .u64 0] 31)) (g := w5.heap.size) (by omega)))
  have hz6 : Hid (w5.heap.size < ((w5.alloc (.cells #[.int .u64 0, .int .u64 0, .int .u64 0, .int .u64 0, .int .u64 0, .int .u64 0, .int .u64 0, .int .u64 0, .int .u64 0, .int .u64 0, .int .u64 0, .int .u64 0, .int .u64 0, .int .u64 0, .int .u64 0, .int .u64 0] 31)).setCells w5.heap.size 0 (phL (blankR zs).1)).heap.size) := hid R5.out.lt
  have R5' := R5.out
  have R3' := R3.out
  clear rz hB5 R2 hS4' b4
  go_wp2_with (first | ((with_reducible refine wpList_store_mid rfl 31 _ _ rfl w5.heap.size 0 (phL (blankR zs).1).toArray ?_ ?_ ?_ ?_ (all_oneCell_toArray (phL_one _)) ?_); rfl; rfl; (rw [sz16]; exact T1); (rw [sz16]; exact hi)) | ((with_reducible refine wpList_load_row rfl 31 _ rfl w5.heap.size ?_ 31 (phL (blankR zs).1).toArray (0, 0) _ ?_ Try.underlying31 ?_ ?_ ?_); rfl; exact R5'; rfl; (rw [sz16]; exact hi)) | ((with_reducible refine wpList_load_row rfl 31 _ rfl w2.heap.size ?_ 31 (phL (blankR zs).1).toArray (0, 0) _ ?_ Try.underlying31 ?_ ?_ ?_); rfl; exact R3'; rfl; (rw [sz16]; exact hi)))
  refine (eqPhoto_same (blankR zs).1 _).mono ?_
  rintro e w6 ⟨rfl, hB6⟩
  have hzb5 := b5.out.size
  have b6 := hid (b5.out.trans (hB6.mono hzb5))
  have hS6 := hid (hS5.out.below hB6 hS5.out.1)
  clear R5' R3' R5 R3 hB6 b5 hS5 T1
  go_wp2_with fail
  refine (toStack_any a len cap zs _ (hI.out.below b6.out (Nat.le_refl _)) (by omega)).mono ?_
  rintro e y1 ⟨rfl, hE1, hSy, hzy⟩
  have hz7 := b6.out.size
  go_wp2_with fail
  refine (eqStack_same _ _ len len len zs y1 (hS6.out.below hE1 hS6.out.1) hSy hL.out.symm).mono ?_
  rintro e y2 ⟨rfl, hE2⟩
  have hz8 := hE1.size
  go_wp2_with fail
  go_ret
  exact ⟨rfl, b6.out.trans ((hE1.mono (by omega)).trans (hE2.mono (by omega)))⟩
end Go.Proofs.Ytgfdfnlbkljgeaa
