/- Tickets: made, copied, and which are genuine; the program's and the model's answers. -/
import Derived.Test.YtcbhlljgcndhdaaGreatDoorDigEq
import Derived.Test.YtcbhlljgcndhdaaGreatDoorChk
import Derived.Test.YtcbhlljgcndhdaaGreatDoorHeld
import Derived.Test.YtcbhlljgcndhdaaGreatDoorDev
import Derived.Deep.RegionHeld3
namespace Go.Proofs.YtcbhlljgcndhdaaGreatDoor
open Go.RowKit
theorem boxT_bel (w : World) (T : TypeId) (cs : Array Value) : Below w.heap.size w (w.alloc (.cells cs T)) := (Below.refl _ w).alloc (Nat.le_refl _) _
/-- what stays while a ticket is made: the digits, and a box for the ticket -/
def CoreT (w : World) (xs : List Value) (w' : World) : Prop :=
  Below w.heap.size w w' ∧ Row w' w.heap.size 24 xs ∧ ∃ a0 a1 a2 a3 a4 a5 a6 a7 a8 a9, Row w' (w.heap.size + 1) 27 [a0, a1, a2, a3, a4, a5, a6, a7, a8, a9]
theorem CoreT.row {w : World} {xs : List Value} {w' : World} (h : CoreT w xs w') : ∃ a0 a1 a2 a3 a4 a5 a6 a7 a8 a9, Row w' (w.heap.size + 1) 27 [a0, a1, a2, a3, a4, a5, a6, a7, a8, a9] := h.2.2
theorem CoreT.below {w : World} {xs : List Value} {w' w'' : World} (h : CoreT w xs w') (hB : Below w'.heap.size w' w'') : CoreT w xs w'' := by
  obtain ⟨h1, h2, a0, a1, a2, a3, a4, a5, a6, a7, a8, a9, h4⟩ := h
  exact ⟨h1.trans (hB.mono h1.size), h2.below hB h2.lt, a0, a1, a2, a3, a4, a5, a6, a7, a8, a9, h4.below hB h4.lt⟩
theorem CoreT.cells {w : World} {v0 v1 v2 v3 v4 v5 v6 v7 : Value} {w' : World} (h : CoreT w [v0, v1, v2, v3, v4, v5, v6, v7] w') :
    CoreT w [v0, v1, v2, v3, v4, v5, v6, v7] w' ∧ w'.cell? ⟨w.heap.size, 0, none⟩ = some v0 ∧ w'.cell? ⟨w.heap.size, 1, none⟩ = some v1 ∧ w'.cell? ⟨w.heap.size, 2, none⟩ = some v2 ∧ w'.cell? ⟨w.heap.size, 3, none⟩ = some v3 ∧ w'.cell? ⟨w.heap.size, 4, none⟩ = some v4 ∧ w'.cell? ⟨w.heap.size, 5, none⟩ = some v5 ∧ w'.cell? ⟨w.heap.size, 6, none⟩ = some v6 ∧ w'.cell? ⟨w.heap.size, 7, none⟩ = some v7 := by
  have h' := h
  obtain ⟨h1, h2, _⟩ := h'
  exact ⟨h, h2.cell 0, h2.cell 1, h2.cell 2, h2.cell 3, h2.cell 4, h2.cell 5, h2.cell 6, h2.cell 7⟩
theorem CoreT.store {w : World} {xs : List Value} {w' : World} (h : CoreT w xs w') (x0 x1 x2 x3 x4 x5 x6 x7 x8 x9 : Value) : CoreT w xs ((((((((((w'.setCell ⟨w.heap.size + 1, 0, none⟩ (x0)).setCell ⟨w.heap.size + 1, 1, none⟩ (x1)).setCell ⟨w.heap.size + 1, 2, none⟩ (x2)).setCell ⟨w.heap.size + 1, 3, none⟩ (x3)).setCell ⟨w.heap.size + 1, 4, none⟩ (x4)).setCell ⟨w.heap.size + 1, 5, none⟩ (x5)).setCell ⟨w.heap.size + 1, 6, none⟩ (x6)).setCell ⟨w.heap.size + 1, 7, none⟩ (x7)).setCell ⟨w.heap.size + 1, 8, none⟩ (x8)).setCell ⟨w.heap.size + 1, 9, none⟩ (x9)) := by
  obtain ⟨h1, h2, a0, a1, a2, a3, a4, a5, a6, a7, a8, a9, h4⟩ := h
  have le1 : w.heap.size ≤ w.heap.size + 1 := by omega
  have ne : w.heap.size + 1 ≠ w.heap.size := by omega
  exact ⟨((((((((((h1.setCell (p := ⟨w.heap.size + 1, 0, none⟩) le1 _).setCell (p := ⟨w.heap.size + 1, 1, none⟩) le1 _).setCell (p := ⟨w.heap.size + 1, 2, none⟩) le1 _).setCell (p := ⟨w.heap.size + 1, 3, none⟩) le1 _).setCell (p := ⟨w.heap.size + 1, 4, none⟩) le1 _).setCell (p := ⟨w.heap.size + 1, 5, none⟩) le1 _).setCell (p := ⟨w.heap.size + 1, 6, none⟩) le1 _).setCell (p := ⟨w.heap.size + 1, 7, none⟩) le1 _).setCell (p := ⟨w.heap.size + 1, 8, none⟩) le1 _).setCell (p := ⟨w.heap.size + 1, 9, none⟩) le1 _), ((((((((((h2.other ne _).other ne _).other ne _).other ne _).other ne _).other ne _).other ne _).other ne _).other ne _).other ne _), x0, x1, x2, x3, x4, x5, x6, x7, x8, x9, ((((((((((h4.set 0 _).set 1 _).set 2 _).set 3 _).set 4 _).set 5 _).set 6 _).set 7 _).set 8 _).set 9 _)⟩
set_option maxRecDepth 100000 in
set_option maxHeartbeats 4000000 in
theorem ticketOf_any (n : Int) (d0 d1 d2 d3 d4 d5 d6 d7 : Int) (w : World) (hn : -9223372036854775808 ≤ n ∧ n ≤ 9223372036854775807) (ho : Oct d0 d1 d2 d3 d4 d5 d6 d7) :
    Calls Tryz.prog 18 #[.int .i64 n, .agg #[.int .u8 d0, .int .u8 d1, .int .u8 d2, .int .u8 d3, .int .u8 d4, .int .u8 d5, .int .u8 d6, .int .u8 d7]] w fun e w' => e = .returned (.agg #[.int .i64 n, .int .u8 d0, .int .u8 d1, .int .u8 d2, .int .u8 d3, .int .u8 d4, .int .u8 d5, .int .u8 d6, .int .u8 d7, .int .u16 (chk n [d0, d1, d2, d3, d4, d5, d6, d7])]) ∧ Below w.heap.size w w' := by
  obtain ⟨V, hV⟩ : ∃ V, V = ((w.alloc (.cells #[.int .u8 d0, .int .u8 d1, .int .u8 d2, .int .u8 d3, .int .u8 d4, .int .u8 d5, .int .u8 d6, .int .u8 d7] 24)).alloc (.cells #[.int .i64 0, .int .u8 0, .int .u8 0, .int .u8 0, .int .u8 0, .int .u8 0, .int .u8 0, .int .u8 0, .int .u8 0, .int .u16 0] 27)) := ⟨_, rfl⟩
  have bV : Below w.heap.size w V := by rw [hV]; exact ((Below.refl _ w).alloc (Nat.le_refl _) _).alloc (by simp) _
  have rd : Row V w.heap.size 24 [.int .u8 d0, .int .u8 d1, .int .u8 d2, .int .u8 d3, .int .u8 d4, .int .u8 d5, .int .u8 d6, .int .u8 d7] := by rw [hV]; exact (Row.new w _ _).alloc _
  have rt : Row V (w.heap.size + 1) 27 [.int .i64 0, .int .u8 0, .int .u8 0, .int .u8 0, .int .u8 0, .int .u8 0, .int .u8 0, .int .u8 0, .int .u8 0, .int .u16 0] := by
    have h := Row.new (w.alloc (.cells #[.int .u8 d0, .int .u8 d1, .int .u8 d2, .int .u8 d3, .int .u8 d4, .int .u8 d5, .int .u8 d6, .int .u8 d7] 24)) 27 [.int .i64 0, .int .u8 0, .int .u8 0, .int .u8 0, .int .u8 0, .int .u8 0, .int .u8 0, .int .u8 0, .int .u8 0, .int .u16 0]
    simp only [World.size_alloc] at h
    rw [hV]; exact h
  have HS0 := hid (CoreT.cells (w' := V.drew) ⟨bV.drew, rd.below (Below.refl _ _).drew rd.lt, _, _, _, _, _, _, _, _, _, _, rt.below (Below.refl _ _).drew rt.lt⟩)
  have HC := hid (fun (w' : World) (h : (fun w' : World => CoreT w [.int .u8 d0, .int .u8 d1, .int .u8 d2, .int .u8 d3, .int .u8 d4, .int .u8 d5, .int .u8 d6, .int .u8 d7] w' ∧ w'.cell? ⟨w.heap.size, 0, none⟩ = some (.int .u8 d0) ∧ w'.cell? ⟨w.heap.size, 1, none⟩ = some (.int .u8 d1) ∧ w'.cell? ⟨w.heap.size, 2, none⟩ = some (.int .u8 d2) ∧ w'.cell? ⟨w.heap.size, 3, none⟩ = some (.int .u8 d3) ∧ w'.cell? ⟨w.heap.size, 4, none⟩ = some (.int .u8 d4) ∧ w'.cell? ⟨w.heap.size, 5, none⟩ = some (.int .u8 d5) ∧ w'.cell? ⟨w.heap.size, 6, none⟩ = some (.int .u8 d6) ∧ w'.cell? ⟨w.heap.size, 7, none⟩ = some (.int .u8 d7)) w') => (checkOf_any n d0 d1 d2 d3 d4 d5 d6 d7 w' hn ho).mono fun e w'' ⟨he, hB⟩ => And.intro he (h.1.below hB).cells)
  obtain ⟨c, hc⟩ : ∃ c, chk n [d0, d1, d2, d3, d4, d5, d6, d7] = c := ⟨_, rfl⟩
  rw [hc] at HC ⊢
  have HV := hid hV
  have HZ := hid (fun (v : World) (hv : (fun w' : World => CoreT w [.int .u8 d0, .int .u8 d1, .int .u8 d2, .int .u8 d3, .int .u8 d4, .int .u8 d5, .int .u8 d6, .int .u8 d7] w' ∧ w'.cell? ⟨w.heap.size, 0, none⟩ = some (.int .u8 d0) ∧ w'.cell? ⟨w.heap.size, 1, none⟩ = some (.int .u8 d1) ∧ w'.cell? ⟨w.heap.size, 2, none⟩ = some (.int .u8 d2) ∧ w'.cell? ⟨w.heap.size, 3, none⟩ = some (.int .u8 d3) ∧ w'.cell? ⟨w.heap.size, 4, none⟩ = some (.int .u8 d4) ∧ w'.cell? ⟨w.heap.size, 5, none⟩ = some (.int .u8 d5) ∧ w'.cell? ⟨w.heap.size, 6, none⟩ = some (.int .u8 d6) ∧ w'.cell? ⟨w.heap.size, 7, none⟩ = some (.int .u8 d7)) v) => (hv.1.store (.int .i64 n) (.int .u8 d0) (.int .u8 d1) (.int .u8 d2) (.int .u8 d3) (.int .u8 d4) (.int .u8 d5) (.int .u8 d6) (.int .u8 d7) (.int .u16 c)).cells)
  clear hc hn ho hV bV rd rt
  go_enter Tryz.func18, Tryz.ntmps18
  go_wp2_with fail
  rw [← HV.out]
  go_region_held3 (fun w' : World => CoreT w [.int .u8 d0, .int .u8 d1, .int .u8 d2, .int .u8 d3, .int .u8 d4, .int .u8 d5, .int .u8 d6, .int .u8 d7] w' ∧ w'.cell? ⟨w.heap.size, 0, none⟩ = some (.int .u8 d0) ∧ w'.cell? ⟨w.heap.size, 1, none⟩ = some (.int .u8 d1) ∧ w'.cell? ⟨w.heap.size, 2, none⟩ = some (.int .u8 d2) ∧ w'.cell? ⟨w.heap.size, 3, none⟩ = some (.int .u8 d3) ∧ w'.cell? ⟨w.heap.size, 4, none⟩ = some (.int .u8 d4) ∧ w'.cell? ⟨w.heap.size, 5, none⟩ = some (.int .u8 d5) ∧ w'.cell? ⟨w.heap.size, 6, none⟩ = some (.int .u8 d6) ∧ w'.cell? ⟨w.heap.size, 7, none⟩ = some (.int .u8 d7)) (first | with_reducible assumption | with_reducible exact HS0.out | with_reducible exact HZ.out _ hv)
    ((go_at_call 32; with_reducible refine (HC.out _ (by assumption)).mono ?_; rintro e v ⟨rfl, hv⟩; obtain ⟨_, _, _, _, _, _, _, _, _, _, rr0⟩ := hv.1.row; have k0 := rr0.cell 0; have k1 := rr0.cell 1; have k2 := rr0.cell 2; have k3 := rr0.cell 3; have k4 := rr0.cell 4; have k5 := rr0.cell 5; have k6 := rr0.cell 6; have k7 := rr0.cell 7; have k8 := rr0.cell 8; have k9 := rr0.cell 9; have f0 := rr0.frozen 0; have f1 := rr0.frozen 1; have f2 := rr0.frozen 2; have f3 := rr0.frozen 3; have f4 := rr0.frozen 4; have f5 := rr0.frozen 5; have f6 := rr0.frozen 6; have f7 := rr0.frozen 7; have f8 := rr0.frozen 8; have f9 := rr0.frozen 9; simp only [List.getElem?_cons_zero, List.getElem?_cons_succ] at k0 k1 k2 k3 k4 k5 k6 k7 k8 k9))
  go_wp2_with fail
  have hy := (hv.1.store (.int .i64 n) (.int .u8 d0) (.int .u8 d1) (.int .u8 d2) (.int .u8 d3) (.int .u8 d4) (.int .u8 d5) (.int .u8 d6) (.int .u8 d7) (.int .u16 c)).1
  obtain ⟨Y, hY⟩ : ∃ Y, Y = ((((((((((v.setCell ⟨w.heap.size + 1, 0, none⟩ (.int .i64 n)).setCell ⟨w.heap.size + 1, 1, none⟩ (.int .u8 d0)).setCell ⟨w.heap.size + 1, 2, none⟩ (.int .u8 d1)).setCell ⟨w.heap.size + 1, 3, none⟩ (.int .u8 d2)).setCell ⟨w.heap.size + 1, 4, none⟩ (.int .u8 d3)).setCell ⟨w.heap.size + 1, 5, none⟩ (.int .u8 d4)).setCell ⟨w.heap.size + 1, 6, none⟩ (.int .u8 d5)).setCell ⟨w.heap.size + 1, 7, none⟩ (.int .u8 d6)).setCell ⟨w.heap.size + 1, 8, none⟩ (.int .u8 d7)).setCell ⟨w.heap.size + 1, 9, none⟩ (.int .u16 c)) := ⟨_, rfl⟩
  rw [← hY] at hy ⊢
  have rY : Row Y (w.heap.size + 1) 27 [.int .i64 n, .int .u8 d0, .int .u8 d1, .int .u8 d2, .int .u8 d3, .int .u8 d4, .int .u8 d5, .int .u8 d6, .int .u8 d7, .int .u16 c] := by rw [hY]; exact ((((((((((rr0.set 0 _).set 1 _).set 2 _).set 3 _).set 4 _).set 5 _).set 6 _).set 7 _).set 8 _).set 9 _)
  clear hY k0 k1 k2 k3 k4 k5 k6 k7 k8 k9 f0 f1 f2 f3 f4 f5 f6 f7 f8 f9
  have g0 := rY.cell 0; have g1 := rY.cell 1; have g2 := rY.cell 2; have g3 := rY.cell 3; have g4 := rY.cell 4; have g5 := rY.cell 5; have g6 := rY.cell 6; have g7 := rY.cell 7; have g8 := rY.cell 8; have g9 := rY.cell 9
  simp only [List.getElem?_cons_zero, List.getElem?_cons_succ] at g0 g1 g2 g3 g4 g5 g6 g7 g8 g9
  exact bodyPost_ret (v := .agg #[.int .i64 n, .int .u8 d0, .int .u8 d1, .int .u8 d2, .int .u8 d3, .int .u8 d4, .int .u8 d5, .int .u8 d6, .int .u8 d7, .int .u16 c]) (by simp [results, Tryz.results18, go_sem, g0, g1, g2, g3, g4, g5, g6, g7, g8, g9]) rfl ⟨rfl, hy⟩
end Go.Proofs.YtcbhlljgcndhdaaGreatDoor
