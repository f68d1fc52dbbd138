/- DigitsOf: the answers of the program and of the model. -/
import Derived.Test.YtfifnngdmhdkiaaGreatDoorOf
import Derived.Test.YtfifnngdmhdkiaaGreatDoorMgP
namespace Go.Proofs.YtfifnngdmhdkiaaGreatDoor
open Go.RowKit

def dofR (zs : List Int) (v : Int) : List Int × Int := if okL zs then (if 0 ≤ v ∧ v < szL zs then (dgL zs v, 0) else ([0, 0, 0, 0, 0, 0, 0, 0], 2)) else ([0, 0, 0, 0, 0, 0, 0, 0], 1)
theorem dofR_no {zs : List Int} (v : Int) (h : okL zs = false) : dofR zs v = ([0, 0, 0, 0, 0, 0, 0, 0], 1) := by simp [dofR, h]
theorem dofR_out {zs : List Int} (v : Int) (h : okL zs = true) (hk : ¬ (0 ≤ v ∧ v < szL zs)) : dofR zs v = ([0, 0, 0, 0, 0, 0, 0, 0], 2) := by simp only [dofR, h, if_true, if_neg hk]
theorem dofR_yes {zs : List Int} (v : Int) (h : okL zs = true) (hk : 0 ≤ v ∧ v < szL zs) : dofR zs v = (dgL zs v, 0) := by simp only [dofR, h, if_true, if_pos hk]
theorem digits_any (b n cap : Nat) (zs : List Int) (hn : n = zs.length) (hv : okL zs = true) (v : Int) (h0 : 0 ≤ v) (h2 : v ≤ 1000000000000) (w : World) (hS : Stk w b zs) :
    Calls Tryz.prog 33 #[.slice (some ⟨b, 0, none⟩) n cap, .int .i64 v] w fun e W' => e = .returned (.agg #[.int .u8 (dg (dgL zs v) 0), .int .u8 (dg (dgL zs v) 1), .int .u8 (dg (dgL zs v) 2), .int .u8 (dg (dgL zs v) 3), .int .u8 (dg (dgL zs v) 4), .int .u8 (dg (dgL zs v) 5), .int .u8 (dg (dgL zs v) 6), .int .u8 (dg (dgL zs v) 7)]) ∧ Below w.heap.size w W' := by
  obtain ⟨_, h8, hin, _, _⟩ := okL_out hv
  exact callsIn_wide.1 (digits_in Fence.wide 8 trivial trivial trivial rfl (by omega) b n cap zs hn (by omega) (by rw [hn]; exact hin) v h0 h2 w hS)

set_option maxRecDepth 100000 in
set_option maxHeartbeats 4000000 in
theorem implDigitsOf_any (b n cap : Nat) (zs : List Int) (v : Int) (w : World) (h : Stk w b zs) (hn : n = zs.length) (_ : n ≤ cap) :
    Calls Tryz.prog 8 #[.slice (some ⟨b, 0, none⟩) n cap, .int .i64 v] w fun e w' => e = .returned (.tuple #[.agg #[.int .u8 (dg ((dofR zs v).1) 0), .int .u8 (dg ((dofR zs v).1) 1), .int .u8 (dg ((dofR zs v).1) 2), .int .u8 (dg ((dofR zs v).1) 3), .int .u8 (dg ((dofR zs v).1) 4), .int .u8 (dg ((dofR zs v).1) 5), .int .u8 (dg ((dofR zs v).1) 6), .int .u8 (dg ((dofR zs v).1) 7)], .int .i64 (dofR zs v).2]) ∧ Below w.heap.size w w' := by
  have N := hid hn
  have hB0 : Below w.heap.size w (w.alloc (.cells #[.int .u8 0, .int .u8 0, .int .u8 0, .int .u8 0, .int .u8 0, .int .u8 0, .int .u8 0, .int .u8 0] 30)) := (Below.refl w.heap.size w).alloc (Nat.le_refl _) _
  have hbl := h.1
  have H1 := hid (h.below hB0 h.1)
  have HR := hid (Row.new w 30 [.int .u8 0, .int .u8 0, .int .u8 0, .int .u8 0, .int .u8 0, .int .u8 0, .int .u8 0, .int .u8 0])
  cases hv : okL zs with
  | false =>
    rw [dofR_no v hv]
    have V := hid hv
    clear h hn hv
    go_enter Tryz.func8, Tryz.ntmps8
    go_wp2_with (go_at_call 17; refine (validStack_any _ _ _ zs _ H1.out N.out).mono ?_; rw [V.out]; rintro e w' ⟨rfl, rfl⟩)
    exact bodyPost_ret (v := .tuple #[.agg #[.int .u8 0, .int .u8 0, .int .u8 0, .int .u8 0, .int .u8 0, .int .u8 0, .int .u8 0, .int .u8 0], .int .i64 1]) (by simp [results, Tryz.results8, go_sem]) rfl ⟨rfl, hB0⟩
  | true =>
    have V := hid hv
    by_cases hx : 0 ≤ v ∧ v < szL zs
    rotate_left
    · rw [dofR_out v hv hx]
      have HF := hid (hasValue_no b n cap zs v _ H1.out hn hv hx)
      clear h hn hv hx
      go_enter Tryz.func8, Tryz.ntmps8
      go_wp2_with (go_at_call 17; refine (validStack_any _ _ _ zs _ H1.out N.out).mono ?_; rw [V.out]; rintro e w' ⟨rfl, rfl⟩)
      refine HF.out.mono ?_
      rintro e w1 ⟨rfl, hB1⟩
      simp only [World.size_alloc] at hB1
      have r1 := HR.out.below hB1 (by omega)
      have g0 := r1.cell 0; have k0 := r1.frozen 0; have g1 := r1.cell 1; have k1 := r1.frozen 1; have g2 := r1.cell 2; have k2 := r1.frozen 2; have g3 := r1.cell 3; have k3 := r1.frozen 3; have g4 := r1.cell 4; have k4 := r1.frozen 4; have g5 := r1.cell 5; have k5 := r1.frozen 5; have g6 := r1.cell 6; have k6 := r1.frozen 6; have g7 := r1.cell 7; have k7 := r1.frozen 7
      simp only [List.getElem?_cons_zero, List.getElem?_cons_succ] at g0 g1 g2 g3 g4 g5 g6 g7
      have r2 := hid (r1.set8 rfl (.int .u8 0) (.int .u8 0) (.int .u8 0) (.int .u8 0) (.int .u8 0) (.int .u8 0) (.int .u8 0) (.int .u8 0))
      have b2 := hid (below_set8 (g := w.heap.size) (hB0.trans (hB1.mono (by omega))) (Nat.le_refl _) (.int .u8 0) (.int .u8 0) (.int .u8 0) (.int .u8 0) (.int .u8 0) (.int .u8 0) (.int .u8 0) (.int .u8 0))
      clear r1
      go_wp2_with fail
      clear g0 k0 g1 k1 g2 k2 g3 k3 g4 k4 g5 k5 g6 k6 g7 k7
      obtain ⟨W, hW⟩ : ∃ W, W = ((((((((w1.setCell ⟨w.heap.size, 0, none⟩ (.int .u8 0)).setCell ⟨w.heap.size, 1, none⟩ (.int .u8 0)).setCell ⟨w.heap.size, 2, none⟩ (.int .u8 0)).setCell ⟨w.heap.size, 3, none⟩ (.int .u8 0)).setCell ⟨w.heap.size, 4, none⟩ (.int .u8 0)).setCell ⟨w.heap.size, 5, none⟩ (.int .u8 0)).setCell ⟨w.heap.size, 6, none⟩ (.int .u8 0)).setCell ⟨w.heap.size, 7, none⟩ (.int .u8 0)) := ⟨_, rfl⟩
      rw [← hW] at r2 b2 ⊢
      clear hW
      have r2 := r2.out
      have g0 := r2.cell 0; have g1 := r2.cell 1; have g2 := r2.cell 2; have g3 := r2.cell 3; have g4 := r2.cell 4; have g5 := r2.cell 5; have g6 := r2.cell 6; have g7 := r2.cell 7
      simp only [List.getElem?_cons_zero, List.getElem?_cons_succ] at g0 g1 g2 g3 g4 g5 g6 g7
      exact bodyPost_ret (v := .tuple #[.agg #[.int .u8 0, .int .u8 0, .int .u8 0, .int .u8 0, .int .u8 0, .int .u8 0, .int .u8 0, .int .u8 0], .int .i64 2]) (by simp [results, Tryz.results8, go_sem, g0, g1, g2, g3, g4, g5, g6, g7]) rfl ⟨rfl, b2.out⟩
    · rw [dofR_yes v hv hx]
      have hs := (okL_out hv).2.2.2.2
      have HF := hid (hasValue_yes b n cap zs v _ H1.out hn hv hx)
      have HD := hid (fun (w : World) (hS : Stk w b zs) => digits_any b n cap zs hn hv v hx.1 (by omega) w hS)
      clear h hn hv hx hs
      go_enter Tryz.func8, Tryz.ntmps8
      go_wp2_with (go_at_call 17; refine (validStack_any _ _ _ zs _ H1.out N.out).mono ?_; rw [V.out]; rintro e w' ⟨rfl, rfl⟩)
      refine HF.out.mono ?_
      rintro e w1 ⟨rfl, hB1⟩
      simp only [World.size_alloc] at hB1
      have hz1 := hB1.size
      simp only [World.size_alloc] at hz1
      have S1 := hid (H1.out.below hB1 (by omega))
      go_wp2_with fail
      refine (HD.out w1 S1.out).mono ?_
      rintro e w2 ⟨rfl, hB2⟩
      have r1 := (HR.out.below hB1 (by omega)).below hB2 (by omega)
      have g0 := r1.cell 0; have k0 := r1.frozen 0; have g1 := r1.cell 1; have k1 := r1.frozen 1; have g2 := r1.cell 2; have k2 := r1.frozen 2; have g3 := r1.cell 3; have k3 := r1.frozen 3; have g4 := r1.cell 4; have k4 := r1.frozen 4; have g5 := r1.cell 5; have k5 := r1.frozen 5; have g6 := r1.cell 6; have k6 := r1.frozen 6; have g7 := r1.cell 7; have k7 := r1.frozen 7
      simp only [List.getElem?_cons_zero, List.getElem?_cons_succ] at g0 g1 g2 g3 g4 g5 g6 g7
      have r2 := hid (r1.set8 rfl (.int .u8 (dg (dgL zs v) 0)) (.int .u8 (dg (dgL zs v) 1)) (.int .u8 (dg (dgL zs v) 2)) (.int .u8 (dg (dgL zs v) 3)) (.int .u8 (dg (dgL zs v) 4)) (.int .u8 (dg (dgL zs v) 5)) (.int .u8 (dg (dgL zs v) 6)) (.int .u8 (dg (dgL zs v) 7)))
      have b2 := hid (below_set8 (g := w.heap.size) (hB0.trans ((hB1.mono (by omega)).trans (hB2.mono (by omega)))) (Nat.le_refl _) (.int .u8 (dg (dgL zs v) 0)) (.int .u8 (dg (dgL zs v) 1)) (.int .u8 (dg (dgL zs v) 2)) (.int .u8 (dg (dgL zs v) 3)) (.int .u8 (dg (dgL zs v) 4)) (.int .u8 (dg (dgL zs v) 5)) (.int .u8 (dg (dgL zs v) 6)) (.int .u8 (dg (dgL zs v) 7)))
      clear r1
      go_wp2_with fail
      clear g0 k0 g1 k1 g2 k2 g3 k3 g4 k4 g5 k5 g6 k6 g7 k7
      obtain ⟨W, hW⟩ : ∃ W, W = ((((((((w2.setCell ⟨w.heap.size, 0, none⟩ (.int .u8 (dg (dgL zs v) 0))).setCell ⟨w.heap.size, 1, none⟩ (.int .u8 (dg (dgL zs v) 1))).setCell ⟨w.heap.size, 2, none⟩ (.int .u8 (dg (dgL zs v) 2))).setCell ⟨w.heap.size, 3, none⟩ (.int .u8 (dg (dgL zs v) 3))).setCell ⟨w.heap.size, 4, none⟩ (.int .u8 (dg (dgL zs v) 4))).setCell ⟨w.heap.size, 5, none⟩ (.int .u8 (dg (dgL zs v) 5))).setCell ⟨w.heap.size, 6, none⟩ (.int .u8 (dg (dgL zs v) 6))).setCell ⟨w.heap.size, 7, none⟩ (.int .u8 (dg (dgL zs v) 7))) := ⟨_, rfl⟩
      rw [← hW] at r2 b2 ⊢
      clear hW
      have r2 := r2.out
      have g0 := r2.cell 0; have g1 := r2.cell 1; have g2 := r2.cell 2; have g3 := r2.cell 3; have g4 := r2.cell 4; have g5 := r2.cell 5; have g6 := r2.cell 6; have g7 := r2.cell 7
      simp only [List.getElem?_cons_zero, List.getElem?_cons_succ] at g0 g1 g2 g3 g4 g5 g6 g7
      exact bodyPost_ret (v := .tuple #[.agg #[.int .u8 (dg (dgL zs v) 0), .int .u8 (dg (dgL zs v) 1), .int .u8 (dg (dgL zs v) 2), .int .u8 (dg (dgL zs v) 3), .int .u8 (dg (dgL zs v) 4), .int .u8 (dg (dgL zs v) 5), .int .u8 (dg (dgL zs v) 6), .int .u8 (dg (dgL zs v) 7)], .int .i64 0]) (by simp [results, Tryz.results8, go_sem, g0, g1, g2, g3, g4, g5, g6, g7]) rfl ⟨rfl, b2.out⟩
end Go.Proofs.YtfifnngdmhdkiaaGreatDoor
