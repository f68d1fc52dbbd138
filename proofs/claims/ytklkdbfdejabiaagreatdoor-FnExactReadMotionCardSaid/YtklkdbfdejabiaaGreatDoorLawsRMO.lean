/- The law over ReadMotion. -/
import Derived.Test.YtklkdbfdejabiaaGreatDoorRmP
namespace Go.Proofs.YtklkdbfdejabiaaGreatDoor
open Go.RowKit
set_option linter.unusedVariables false
set_option linter.unusedSimpArgs false
theorem mmR_len (l : List UInt8) : (mmR l).1.1.length ≤ 8 := by
  cases h : moR l with
  | none => rw [mmR_no h]; simp
  | some r =>
    obtain ⟨zs, js⟩ := r
    rw [mmR_yes h]
    exact (okL_mem (okM_out (moR_out h).1).1).2.1
theorem OwnB.sl {w : World} {b : Nat} {v : Value} {zs : List Int} (h : OwnB w b v zs) : ∃ a k, v = .slice a zs.length k := by
  obtain ⟨a, k, e, _⟩ := h
  exact ⟨a, k, e⟩
theorem OwnJ.sl {w : World} {b : Nat} {v : Value} {js : List (Int × Int)} (h : OwnJ w b v js) : ∃ a k, v = .slice a js.length k := by
  obtain ⟨a, k, e, _⟩ := h
  exact ⟨a, k, e⟩
set_option maxRecDepth 100000 in
set_option maxHeartbeats 4000000 in
theorem law_FnExactReadMotion (t : ByteArray) (w : World) (hT : t.size ≤ maxLen) (tS : TypeId) (pS : Value) (tR : TypeId) (pR : Value) (m : Int) (hL : LW w tS pS tR pR m) :
    Calls Tryz.prog 3 #[.string t] w fun e w' => e = .returned (.bool true) ∧ Below w.heap.size w w' := by
  by_cases hbig : 1048576 < t.size
  · have hb : (1048576 : Int) < (t.size : Int) := by omega
    clear hL hT
    go_enter Tryz.func3, Tryz.ntmps3
    go_wp2_with fail
    go_ret
    exact ⟨rfl, Below.refl _ _⟩
  have hle : t.size ≤ 1048576 := by omega
  have hb : ¬ (1048576 : Int) < (t.size : Int) := by omega
  have HS := hid (fun W => specReadMotion_any t hle W)
  have HM := hid (fun W (h : LW W tS pS tR pR m) => implReadMotion_any t hle W h)
  have HLW := hid hL
  have hz8 := mmR_len t.data.toList
  obtain ⟨⟨⟨zs, js⟩, c⟩, hR⟩ : ∃ r, mmR t.data.toList = r := ⟨_, rfl⟩
  rw [hR] at hz8
  have hz : zs.length ≤ 1048576 := by have : zs.length ≤ 8 := hz8; omega
  have HZ := hid hz
  rw [hR] at HS HM
  have fc : (c != c) = false := by simp
  have fE : ((1 + (zs.length : Int) + 2 * (js.length : Int)) != (1 + (zs.length : Int) + 2 * (js.length : Int))) = false := by simp
  have f3 : (0 : Int) ≤ 1 + (zs.length : Int) + 2 * (js.length : Int) := by omega
  have f4 : ¬ (1 + (zs.length : Int) + 2 * (js.length : Int) < 0) := by omega
  obtain ⟨n, hn⟩ : ∃ n, t.size = n := ⟨_, rfl⟩
  rw [hn] at hb
  clear hR hL hT hbig hle hz8 hz
  go_enter Tryz.func3, Tryz.ntmps3
  go_wp2_with fail
  with_reducible refine (HS.out w).mono ?_
  rintro e V3 ⟨v3, u3, rfl, O3, P3, hB⟩
  obtain ⟨a3, k3, rfl⟩ := O3.sl
  obtain ⟨b3, l3, rfl⟩ := P3.sl
  have q := hid (show Below w.heap.size w V3 from hB)
  have OA := hid O3; have PA := hid P3; have O30 := hid O3; have P30 := hid P3
  have C3 := hid (Below.refl V3.heap.size V3)
  have HW3 := hid (show w.heap.size ≤ V3.heap.size from hB.size)
  clear hB O3 P3
  obtain ⟨Wa, hWa⟩ : ∃ X, X = V3.alloc (.cells #[.slice a3 zs.length k3, .slice b3 js.length l3] 26) := ⟨_, rfl⟩
  have rWa : Row Wa V3.heap.size 26 [.slice a3 zs.length k3, .slice b3 js.length l3] := by rw [hWa]; exact Row.new V3 _ _
  have bWa : Below V3.heap.size V3 Wa := by rw [hWa]; exact boxMo_bel V3 _ _
  have HWa := hid hWa; have RWa := hid rWa
  clear hWa rWa
  have OA := hid (OA.out.keep bWa)
  have PA := hid (PA.out.keep bWa)
  have q := hid (q.out.trans (bWa.mono q.out.size))
  have C3 := hid (C3.out.trans (bWa.mono C3.out.size))
  clear bWa
  go_upto_region 4 with fail
  rw [← HWa.out]
  go_wp2_with fail
  with_reducible refine (HM.out Wa (HLW.out.below q.out (Nat.le_refl _))).mono ?_
  rintro e V6 ⟨v6, u6, rfl, G6, K6, hB⟩
  obtain ⟨a6, k6, rfl⟩ := G6.sl
  obtain ⟨b6, l6, rfl⟩ := K6.sl
  have HA := hid RWa.out.lt
  have HAS := hid hB.size
  have RWa := hid (RWa.out.below hB RWa.out.lt)
  have OA := hid (OA.out.keep hB)
  have PA := hid (PA.out.keep hB)
  have q := hid (q.out.trans (hB.mono q.out.size))
  have C3 := hid (C3.out.trans (hB.mono C3.out.size))
  have GB := hid G6; have KB := hid K6
  clear hB G6 K6
  obtain ⟨Wb, hWb⟩ : ∃ X, X = V6.alloc (.cells #[.slice a6 zs.length k6, .slice b6 js.length l6] 26) := ⟨_, rfl⟩
  have rWb : Row Wb V6.heap.size 26 [.slice a6 zs.length k6, .slice b6 js.length l6] := by rw [hWb]; exact Row.new V6 _ _
  have bWb : Below V6.heap.size V6 Wb := by rw [hWb]; exact boxMo_bel V6 _ _
  have HWb := hid hWb; have RWb := hid rWb
  clear hWb rWb
  have RWa := hid (RWa.out.below bWb RWa.out.lt)
  have OA := hid (OA.out.keep bWb)
  have PA := hid (PA.out.keep bWb)
  have GB := hid (GB.out.keep bWb)
  have KB := hid (KB.out.keep bWb)
  have q := hid (q.out.trans (bWb.mono q.out.size))
  have C3 := hid (C3.out.trans (bWb.mono C3.out.size))
  have HBS := hid (show Wa.heap.size ≤ Wb.heap.size from Nat.le_trans HAS.out bWb.size)
  clear bWb
  go_upto_region 5 with fail
  rw [← HWb.out]
  have x0 := RWa.out.cell 0; have x1 := RWa.out.cell 1
  simp only [List.getElem?_cons_zero, List.getElem?_cons_succ] at x0 x1
  have y0 := RWb.out.cell 0; have y1 := RWb.out.cell 1
  simp only [List.getElem?_cons_zero, List.getElem?_cons_succ] at y0 y1
  go_wp2_with fail
  with_reducible refine (eqMotion_own _ _ _ _ _ _ zs js _ GB.out OA.out KB.out PA.out).mono ?_
  rintro e w11 ⟨rfl, hB⟩
  clear x0 x1 y0 y1
  have RWa := hid (RWa.out.below hB RWa.out.lt)
  have RWb := hid (RWb.out.below hB RWb.out.lt)
  have OA := hid (OA.out.keep hB)
  have PA := hid (PA.out.keep hB)
  have GB := hid (GB.out.keep hB)
  have KB := hid (KB.out.keep hB)
  have q := hid (q.out.trans (hB.mono q.out.size))
  have C3 := hid (C3.out.trans (hB.mono C3.out.size))
  have HCS := hid (Nat.le_trans HBS.out hB.size)
  clear hB
  have y0 := RWb.out.cell 0; have y1 := RWb.out.cell 1
  simp only [List.getElem?_cons_zero, List.getElem?_cons_succ] at y0 y1
  go_wp2_with fail
  with_reducible refine (markMotion_own Wa.heap.size _ _ zs js _ GB.out KB.out HCS.out HZ.out).mono ?_
  rintro e w16 ⟨rfl, M16, N16, hB, hK⟩
  clear y0 y1
  have RWa := hid (RWa.out.below hB HA.out)
  have RWb := hid (hK _ _ RWb.out)
  have OA := hid (O30.out.low C3.out (Nat.le_of_lt HA.out) hB)
  have PA := hid (P30.out.low C3.out (Nat.le_of_lt HA.out) hB)
  have q := hid (q.out.trans (hB.mono (Nat.le_trans HW3.out (Nat.le_of_lt HA.out))))
  have C3 := hid (C3.out.trans (hB.mono (Nat.le_of_lt HA.out)))
  have GB := hid M16; have KB := hid N16
  clear hB hK M16 N16
  have y0 := RWb.out.cell 0; have y1 := RWb.out.cell 1
  simp only [List.getElem?_cons_zero, List.getElem?_cons_succ] at y0 y1
  go_wp2_with fail
  with_reducible refine (heldMotion_own Wa.heap.size _ _ zs.length js.length HZ.out _ GB.out KB.out).mono ?_
  rintro e w17 ⟨rfl, hB⟩
  clear y0 y1
  have RWa := hid (RWa.out.below hB RWa.out.lt)
  have RWb := hid (RWb.out.below hB RWb.out.lt)
  have OA := hid (OA.out.keep hB)
  have PA := hid (PA.out.keep hB)
  have GB := hid (GB.out.keep hB)
  have KB := hid (KB.out.keep hB)
  have q := hid (q.out.trans (hB.mono q.out.size))
  have C3 := hid (C3.out.trans (hB.mono C3.out.size))
  clear hB
  go_wp2_with fail
  with_reducible refine (HM.out w17 (HLW.out.below q.out (Nat.le_refl _))).mono ?_
  rintro e V9 ⟨v9, u9, rfl, G9, K9, hB⟩
  obtain ⟨a9, k9, rfl⟩ := G9.sl
  obtain ⟨b9, l9, rfl⟩ := K9.sl
  have RWa := hid (RWa.out.below hB RWa.out.lt)
  have RWb := hid (RWb.out.below hB RWb.out.lt)
  have OA := hid (OA.out.keep hB)
  have PA := hid (PA.out.keep hB)
  have GB := hid (GB.out.keep hB)
  have KB := hid (KB.out.keep hB)
  have q := hid (q.out.trans (hB.mono q.out.size))
  have GC := hid G9; have KC := hid K9
  clear hB G9 K9
  obtain ⟨Wc, hWc⟩ : ∃ X, X = V9.alloc (.cells #[.slice a9 zs.length k9, .slice b9 js.length l9] 26) := ⟨_, rfl⟩
  have rWc : Row Wc V9.heap.size 26 [.slice a9 zs.length k9, .slice b9 js.length l9] := by rw [hWc]; exact Row.new V9 _ _
  have bWc : Below V9.heap.size V9 Wc := by rw [hWc]; exact boxMo_bel V9 _ _
  have HWc := hid hWc; have RWc := hid rWc
  clear hWc rWc
  have RWa := hid (RWa.out.below bWc RWa.out.lt)
  have RWb := hid (RWb.out.below bWc RWb.out.lt)
  have OA := hid (OA.out.keep bWc)
  have PA := hid (PA.out.keep bWc)
  have GB := hid (GB.out.keep bWc)
  have KB := hid (KB.out.keep bWc)
  have GC := hid (GC.out.keep bWc)
  have KC := hid (KC.out.keep bWc)
  have q := hid (q.out.trans (bWc.mono q.out.size))
  clear bWc
  go_upto_region 16 with fail
  rw [← HWc.out]
  have x0 := RWa.out.cell 0; have x1 := RWa.out.cell 1
  simp only [List.getElem?_cons_zero, List.getElem?_cons_succ] at x0 x1
  have z0 := RWc.out.cell 0; have z1 := RWc.out.cell 1
  simp only [List.getElem?_cons_zero, List.getElem?_cons_succ] at z0 z1
  go_wp2_with fail
  with_reducible refine (eqMotion_own _ _ _ _ _ _ zs js _ GC.out OA.out KC.out PA.out).mono ?_
  rintro e w21 ⟨rfl, hB⟩
  clear x0 x1 z0 z1
  have RWb := hid (RWb.out.below hB RWb.out.lt)
  have GB := hid (GB.out.keep hB)
  have KB := hid (KB.out.keep hB)
  have q := hid (q.out.trans (hB.mono q.out.size))
  clear hB
  have y0 := RWb.out.cell 0; have y1 := RWb.out.cell 1
  simp only [List.getElem?_cons_zero, List.getElem?_cons_succ] at y0 y1
  go_wp2_with fail
  with_reducible refine (heldMotion_own Wa.heap.size _ _ zs.length js.length HZ.out _ GB.out KB.out).mono ?_
  rintro e w22 ⟨rfl, hB⟩
  clear y0 y1
  go_wp2_with fail
  go_ret
  exact ⟨rfl, q.out.trans (hB.mono q.out.size)⟩
end Go.Proofs.YtklkdbfdejabiaaGreatDoor
