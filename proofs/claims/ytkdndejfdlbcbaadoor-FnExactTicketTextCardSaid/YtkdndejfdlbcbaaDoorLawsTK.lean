/- The walk of the law TicketText. -/
import Derived.Test.YtkdndejfdlbcbaaDoorTkC
import Derived.Test.YtkdndejfdlbcbaaDoorLawsD
namespace Go.Proofs.YtkdndejfdlbcbaaDoor
open Go.RowKit
set_option linter.unusedVariables false
theorem wfI64 {n : Int} (h : I64 n) : (Lit.int .i64 n).wf = true := by
  simp only [Lit.wf, Bool.and_eq_true, decide_eq_true_eq]
  exact h
/-- ten cells lie from the head of a block on -/
def Tk (w : World) (g : Nat) (n d0 d1 d2 d3 d4 d5 d6 d7 c : Int) : Prop := w.cell? ⟨g, 0, none⟩ = some (.int .i64 n) ∧ w.cell? ⟨g, 1, none⟩ = some (.int .u8 d0) ∧ w.cell? ⟨g, 2, none⟩ = some (.int .u8 d1) ∧ w.cell? ⟨g, 3, none⟩ = some (.int .u8 d2) ∧ w.cell? ⟨g, 4, none⟩ = some (.int .u8 d3) ∧ w.cell? ⟨g, 5, none⟩ = some (.int .u8 d4) ∧ w.cell? ⟨g, 6, none⟩ = some (.int .u8 d5) ∧ w.cell? ⟨g, 7, none⟩ = some (.int .u8 d6) ∧ w.cell? ⟨g, 8, none⟩ = some (.int .u8 d7) ∧ w.cell? ⟨g, 9, none⟩ = some (.int .u16 c)
theorem Tk.below {w w' : World} {g k : Nat} {n d0 d1 d2 d3 d4 d5 d6 d7 c : Int} (h : Tk w g n d0 d1 d2 d3 d4 d5 d6 d7 c) (hb : Below k w w') (hn : g < k) : Tk w' g n d0 d1 d2 d3 d4 d5 d6 d7 c :=
  ⟨(hb.cell (p := ⟨g, 0, none⟩) hn).trans h.1, (hb.cell (p := ⟨g, 1, none⟩) hn).trans h.2.1, (hb.cell (p := ⟨g, 2, none⟩) hn).trans h.2.2.1, (hb.cell (p := ⟨g, 3, none⟩) hn).trans h.2.2.2.1, (hb.cell (p := ⟨g, 4, none⟩) hn).trans h.2.2.2.2.1, (hb.cell (p := ⟨g, 5, none⟩) hn).trans h.2.2.2.2.2.1, (hb.cell (p := ⟨g, 6, none⟩) hn).trans h.2.2.2.2.2.2.1, (hb.cell (p := ⟨g, 7, none⟩) hn).trans h.2.2.2.2.2.2.2.1, (hb.cell (p := ⟨g, 8, none⟩) hn).trans h.2.2.2.2.2.2.2.2.1, (hb.cell (p := ⟨g, 9, none⟩) hn).trans h.2.2.2.2.2.2.2.2.2⟩
theorem Tk.new (w : World) (t : TypeId) (n d0 d1 d2 d3 d4 d5 d6 d7 c : Int) : Tk (w.alloc (.cells #[.int .i64 n, .int .u8 d0, .int .u8 d1, .int .u8 d2, .int .u8 d3, .int .u8 d4, .int .u8 d5, .int .u8 d6, .int .u8 d7, .int .u16 c] t)) w.heap.size n d0 d1 d2 d3 d4 d5 d6 d7 c := by
  have h := (Row.new w t [.int .i64 n, .int .u8 d0, .int .u8 d1, .int .u8 d2, .int .u8 d3, .int .u8 d4, .int .u8 d5, .int .u8 d6, .int .u8 d7, .int .u16 c]).cell
  exact ⟨h 0, h 1, h 2, h 3, h 4, h 5, h 6, h 7, h 8, h 9⟩
set_option maxRecDepth 100000 in
set_option maxHeartbeats 4000000 in
theorem law_FnExactTicketText (a : Option Addr) (len cap : Nat) (zs : List Int) (n1 d10 d11 d12 d13 d14 d15 d16 d17 c1 : Int) (w : World) (h : InB w a len zs) (h1 : ((Lit.int .i64 n1).wf = true ∧ Oct d10 d11 d12 d13 d14 d15 d16 d17)) (ht : Lib.TabIs Tryd.prog w "internal/strconv.uint64pow10" .u64 Lib.pow10Tab) (hg : 0 < w.heap.size) :
    Calls Tryd.prog 5 #[.slice a len cap, .agg #[.int .i64 n1, .int .u8 d10, .int .u8 d11, .int .u8 d12, .int .u8 d13, .int .u8 d14, .int .u8 d15, .int .u8 d16, .int .u8 d17, .int .u16 c1]] w fun e w' => e = .returned (.bool true) ∧ Below w.heap.size w w' := by
  by_cases hl : 1048576 < len
  · go_enter Tryd.func5, Tryd.ntmps5
    go_wp2
    go_ret
    exact ⟨rfl, ((Below.refl w.heap.size w).alloc (Nat.le_refl _) _)⟩
  have hI := hid h
  have hL := hid h.1
  have H1 := hid h1
  clear h h1
  have HT := hid (fun w b h => specTT_any b len len zs n1 d10 d11 d12 d13 d14 d15 d16 d17 c1 w h hL.out.symm H1.out.1 H1.out.2)
  have HU := hid (fun w b h ht hg => implTT_any b len len zs n1 d10 d11 d12 d13 d14 d15 d16 d17 c1 w h hL.out.symm H1.out.1 H1.out.2 ht hg)
  have HTB := hid ht
  have HG := hid hg
  obtain ⟨T, hT⟩ : ∃ T : ByteArray, ⟨(tkR zs [d10, d11, d12, d13, d14, d15, d16, d17] n1 c1).toArray⟩ = T := ⟨_, rfl⟩
  rw [hT] at HT HU
  clear ht hg
  have cb : Below w.heap.size w (w.alloc (.cells #[.int .i64 n1, .int .u8 d10, .int .u8 d11, .int .u8 d12, .int .u8 d13, .int .u8 d14, .int .u8 d15, .int .u8 d16, .int .u8 d17, .int .u16 c1] 41)) := ((Below.refl w.heap.size w).alloc (Nat.le_refl _) _)
  have oc1_0 : Tk (w.alloc (.cells #[.int .i64 n1, .int .u8 d10, .int .u8 d11, .int .u8 d12, .int .u8 d13, .int .u8 d14, .int .u8 d15, .int .u8 d16, .int .u8 d17, .int .u16 c1] 41)).drew (w.heap.size) n1 d10 d11 d12 d13 d14 d15 d16 d17 c1 := by
    have := Tk.new w 41 n1 d10 d11 d12 d13 d14 d15 d16 d17 c1
    exact this
  go_enter Tryd.func5, Tryd.ntmps5
  go_wp2_with fail
  go_region_held3 (fun w' => w'.cell? ⟨w.heap.size, 0, none⟩ = some (.int .i64 n1) ∧ w'.cell? ⟨w.heap.size, 1, none⟩ = some (.int .u8 d10) ∧ w'.cell? ⟨w.heap.size, 2, none⟩ = some (.int .u8 d11) ∧ w'.cell? ⟨w.heap.size, 3, none⟩ = some (.int .u8 d12) ∧ w'.cell? ⟨w.heap.size, 4, none⟩ = some (.int .u8 d13) ∧ w'.cell? ⟨w.heap.size, 5, none⟩ = some (.int .u8 d14) ∧ w'.cell? ⟨w.heap.size, 6, none⟩ = some (.int .u8 d15) ∧ w'.cell? ⟨w.heap.size, 7, none⟩ = some (.int .u8 d16) ∧ w'.cell? ⟨w.heap.size, 8, none⟩ = some (.int .u8 d17) ∧ w'.cell? ⟨w.heap.size, 9, none⟩ = some (.int .u16 c1)) (first | exact ⟨oc1_3.1, oc1_3.2.1, oc1_3.2.2.1, oc1_3.2.2.2.1, oc1_3.2.2.2.2.1, oc1_3.2.2.2.2.2.1, oc1_3.2.2.2.2.2.2.1, oc1_3.2.2.2.2.2.2.2.1, oc1_3.2.2.2.2.2.2.2.2.1, oc1_3.2.2.2.2.2.2.2.2.2⟩ | exact ⟨oc1_2.1, oc1_2.2.1, oc1_2.2.2.1, oc1_2.2.2.2.1, oc1_2.2.2.2.2.1, oc1_2.2.2.2.2.2.1, oc1_2.2.2.2.2.2.2.1, oc1_2.2.2.2.2.2.2.2.1, oc1_2.2.2.2.2.2.2.2.2.1, oc1_2.2.2.2.2.2.2.2.2.2⟩ | exact ⟨oc1_1.1, oc1_1.2.1, oc1_1.2.2.1, oc1_1.2.2.2.1, oc1_1.2.2.2.2.1, oc1_1.2.2.2.2.2.1, oc1_1.2.2.2.2.2.2.1, oc1_1.2.2.2.2.2.2.2.1, oc1_1.2.2.2.2.2.2.2.2.1, oc1_1.2.2.2.2.2.2.2.2.2⟩ | exact ⟨oc1_0.1, oc1_0.2.1, oc1_0.2.2.1, oc1_0.2.2.2.1, oc1_0.2.2.2.2.1, oc1_0.2.2.2.2.2.1, oc1_0.2.2.2.2.2.2.1, oc1_0.2.2.2.2.2.2.2.1, oc1_0.2.2.2.2.2.2.2.2.1, oc1_0.2.2.2.2.2.2.2.2.2⟩)
    ((first | (go_at_call 17; have hX := toStack_any a len cap zs _ (hI.out.below cb.drew (Nat.le_refl _)) (by omega); refine hX.mono ?_; clear hX; rintro e w1 ⟨rfl, hB1, hS1, hz1⟩; simp only [World.size_drew, World.size_alloc] at hB1 hS1 hz1; have oc1_1 := oc1_0.below hB1 (by omega)) | (go_at_call 18; have hX := toTicket_any n1 d10 d11 d12 d13 d14 d15 d16 d17 c1 w1; refine hX.mono ?_; clear hX; rintro e w2 ⟨rfl, hB2⟩; have hz2 := hB2.size; have oc1_2 := oc1_1.below hB2 (by omega)) | (go_at_call 16; have hX := HT.out w2 _ (hS1.below hB2 (by omega)); refine hX.mono ?_; clear hX; rintro e w3 ⟨rfl, hB3⟩; have hz3 := hB3.size; have oc1_3 := oc1_2.below hB3 (by omega))))
  have hz1' := hB1.size; have oc1_1 := oc1_0.below hB1 (by omega)
  have hz2' := hB2.size; have oc1_2 := oc1_1.below hB2 (by omega)
  have hz3' := hB3.size; have oc1_3 := oc1_2.below hB3 (by omega)
  have hBs : Below w.heap.size w w3 := (cb.drew).trans ((hB1.mono (by omega)).trans ((hB2.mono (by omega)).trans (hB3.mono (by omega))))
  have hIs := hid (hI.out.below hBs (Nat.le_refl _))
  have hzs := hBs.size
  clear hS1
  go_wp2_with fail
  have hX := toStack_any a len cap zs _ hIs.out (by omega)
  refine hX.mono ?_
  clear hX
  rintro e u1 ⟨rfl, hC1, hSu, hzu⟩
  have hz_u1 := hC1.size
  have oc1_3_u1 := oc1_3.below hC1 (by first | omega | (simp; omega) | (simp at *; omega))
  have ocx := oc1_3_u1
  obtain ⟨f1_0, f1_1, f1_2, f1_3, f1_4, f1_5, f1_6, f1_7, f1_8, f1_9⟩ := ocx
  go_wp2_with fail
  have hX := toTicket_any n1 d10 d11 d12 d13 d14 d15 d16 d17 c1 u1
  refine hX.mono ?_
  clear hX
  rintro e t1 ⟨rfl, hD1⟩
  clear f1_0 f1_1 f1_2 f1_3 f1_4 f1_5 f1_6 f1_7 f1_8 f1_9
  have hz_t1 := hD1.size
  have oc1_3_u1_t1 := oc1_3_u1.below hD1 (by first | omega | (simp; omega) | (simp at *; omega))
  have hSv := hid (hSu.below hD1 (by omega))
  go_wp2_with fail
  have hX := HU.out t1 _ hSv.out (tab_below HTB.out (hBs.trans ((hC1.mono (by omega)).trans (hD1.mono (by omega)))) HG.out) (by have := HG.out; omega)
  refine hX.mono ?_
  clear hX
  rintro e u2 ⟨rfl, hC2⟩
  have hz_u2 := hC2.size
  have oc1_3_u1_t1_u2 := oc1_3_u1_t1.below hC2 (by first | omega | (simp; omega) | (simp at *; omega))
  have hSv2 := hid (hSv.out.below hC2 (by omega))
  have hSv3 := hSv2
  have hBz : Below w.heap.size w u2 := hBs.trans ((hC1.mono (by first | omega | (simp; omega))).trans ((hD1.mono (by first | omega | (simp; omega))).trans (hC2.mono (by first | omega | (simp; omega)))))
  have hzz := hBz.size
  have hIz := hid (hI.out.below hBz (Nat.le_refl _))
  go_wp2_with fail
  have hX := toStack_any a len cap zs u2 hIz.out (by omega)
  refine hX.mono ?_
  clear hX
  rintro e y1 ⟨rfl, hE1, hSy, hzy⟩
  go_wp2_with fail
  have hX := eqStack_same _ _ len len len zs y1 (hSv3.out.below hE1 (by first | omega | (simp; omega))) hSy hL.out.symm
  refine hX.mono ?_
  clear hX
  rintro e y2 ⟨rfl, hE2⟩
  go_wp2_with fail
  go_ret
  exact ⟨rfl, hBz.trans ((hE1.mono (by omega)).trans (hE2.mono (by omega)))⟩

end Go.Proofs.YtkdndejfdlbcbaaDoor
