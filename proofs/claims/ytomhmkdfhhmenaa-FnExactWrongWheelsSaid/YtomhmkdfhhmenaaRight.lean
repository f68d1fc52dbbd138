/- RightDigits: the program's. -/
import Derived.Test.YtomhmkdfhhmenaaSpan
import Derived.Test.YtomhmkdfhhmenaaSettleDigs
import Derived.Test.YtomhmkdfhhmenaaOfS
import Derived.OrdersHeld
namespace Go.Proofs.Ytomhmkdfhhmenaa
open Go.RowKit

set_option maxRecDepth 100000 in
set_option maxHeartbeats 1000000 in
theorem moRight_any (b n cap g m cap' : Nat) (zs : List Int) (js : List (Int × Int)) (turn : Int) (w : World) (hS : Stk w b zs) (hn : n = zs.length) (hv : okL zs = true) (ht : 0 ≤ turn ∧ turn ≤ 1000000000000000) :
    Calls Try.prog 44 #[.agg #[.slice (some ⟨b, 0, none⟩) n cap, .slice (some ⟨g, 0, none⟩) m cap'], .int .i64 turn] w fun e w' => e = .returned (.agg #[.int .u8 (dg (dgL zs (turn / 1000)) 0), .int .u8 (dg (dgL zs (turn / 1000)) 1), .int .u8 (dg (dgL zs (turn / 1000)) 2), .int .u8 (dg (dgL zs (turn / 1000)) 3), .int .u8 (dg (dgL zs (turn / 1000)) 4), .int .u8 (dg (dgL zs (turn / 1000)) 5), .int .u8 (dg (dgL zs (turn / 1000)) 6), .int .u8 (dg (dgL zs (turn / 1000)) 7)]) ∧ Below w.heap.size w w' := by
  have bel : Below w.heap.size w ((w.alloc (.cells #[.slice (some ⟨b, 0, none⟩) n cap, .slice (some ⟨g, 0, none⟩) m cap'] 33)).alloc (.cells #[.int .u8 0, .int .u8 0, .int .u8 0, .int .u8 0, .int .u8 0, .int .u8 0, .int .u8 0, .int .u8 0] 65)) := ((Below.refl _ w).alloc (Nat.le_refl _) _).alloc (by simp) _
  have rR' := Row.new (w.alloc (.cells #[.slice (some ⟨b, 0, none⟩) n cap, .slice (some ⟨g, 0, none⟩) m cap'] 33)) 65 [.int .u8 0, .int .u8 0, .int .u8 0, .int .u8 0, .int .u8 0, .int .u8 0, .int .u8 0, .int .u8 0]
  simp only [World.size_alloc] at rR'
  have rR := hid rR'
  have t0 := Int.ediv_nonneg ht.1 (show (0 : Int) ≤ 1000 by decide)
  have t1 : turn / 1000 ≤ 1000000000000 := by omega
  have HD := hid (digits_any b n cap zs hn hv (turn / 1000) t0 t1 ((w.alloc (.cells #[.slice (some ⟨b, 0, none⟩) n cap, .slice (some ⟨g, 0, none⟩) m cap'] 33)).alloc (.cells #[.int .u8 0, .int .u8 0, .int .u8 0, .int .u8 0, .int .u8 0, .int .u8 0, .int .u8 0, .int .u8 0] 65)) (hS.below bel hS.1))
  obtain ⟨e0, he0⟩ : ∃ x, x = dg (dgL zs (turn / 1000)) 0 := ⟨_, rfl⟩
  obtain ⟨e1, he1⟩ : ∃ x, x = dg (dgL zs (turn / 1000)) 1 := ⟨_, rfl⟩
  obtain ⟨e2, he2⟩ : ∃ x, x = dg (dgL zs (turn / 1000)) 2 := ⟨_, rfl⟩
  obtain ⟨e3, he3⟩ : ∃ x, x = dg (dgL zs (turn / 1000)) 3 := ⟨_, rfl⟩
  obtain ⟨e4, he4⟩ : ∃ x, x = dg (dgL zs (turn / 1000)) 4 := ⟨_, rfl⟩
  obtain ⟨e5, he5⟩ : ∃ x, x = dg (dgL zs (turn / 1000)) 5 := ⟨_, rfl⟩
  obtain ⟨e6, he6⟩ : ∃ x, x = dg (dgL zs (turn / 1000)) 6 := ⟨_, rfl⟩
  obtain ⟨e7, he7⟩ : ∃ x, x = dg (dgL zs (turn / 1000)) 7 := ⟨_, rfl⟩
  rw [← he0, ← he1, ← he2, ← he3, ← he4, ← he5, ← he6, ← he7] at HD
  rw [← he0, ← he1, ← he2, ← he3, ← he4, ← he5, ← he6, ← he7]
  obtain ⟨h1, h2⟩ := ht
  clear hS hn hv rR' he0 he1 he2 he3 he4 he5 he6 he7
  go_enter Try.func44, Try.ntmps44
  go_wp2_with fail
  refine HD.out.mono ?_
  rintro e w1 ⟨rfl, hB1⟩
  have hz1 := hB1.size
  simp only [World.size_alloc] at hB1 hz1
  have r1 := (rR.out.below hB1 (by omega))
  have g0 := r1.cell 0; have k0 := r1.frozen 0; have g1 := r1.cell 1; have k1 := r1.frozen 1; have g2 := r1.cell 2; have k2 := r1.frozen 2; have g3 := r1.cell 3; have k3 := r1.frozen 3; have g4 := r1.cell 4; have k4 := r1.frozen 4; have g5 := r1.cell 5; have k5 := r1.frozen 5; have g6 := r1.cell 6; have k6 := r1.frozen 6; have g7 := r1.cell 7; have k7 := r1.frozen 7
  simp only [List.getElem?_cons_zero, List.getElem?_cons_succ] at g0 g1 g2 g3 g4 g5 g6 g7
  have r2 := hid (r1.set8 rfl (.int .u8 e0) (.int .u8 e1) (.int .u8 e2) (.int .u8 e3) (.int .u8 e4) (.int .u8 e5) (.int .u8 e6) (.int .u8 e7))
  have b2 := hid (below_set8 (g := w.heap.size + 1) (bel.trans (hB1.mono (by omega))) (by omega) (.int .u8 e0) (.int .u8 e1) (.int .u8 e2) (.int .u8 e3) (.int .u8 e4) (.int .u8 e5) (.int .u8 e6) (.int .u8 e7))
  clear r1
  go_wp2_with fail
  clear g0 k0 g1 k1 g2 k2 g3 k3 g4 k4 g5 k5 g6 k6 g7 k7
  obtain ⟨W, hW⟩ : ∃ W, W = ((((((((w1.setCell ⟨w.heap.size + 1, 0, none⟩ (.int .u8 e0)).setCell ⟨w.heap.size + 1, 1, none⟩ (.int .u8 e1)).setCell ⟨w.heap.size + 1, 2, none⟩ (.int .u8 e2)).setCell ⟨w.heap.size + 1, 3, none⟩ (.int .u8 e3)).setCell ⟨w.heap.size + 1, 4, none⟩ (.int .u8 e4)).setCell ⟨w.heap.size + 1, 5, none⟩ (.int .u8 e5)).setCell ⟨w.heap.size + 1, 6, none⟩ (.int .u8 e6)).setCell ⟨w.heap.size + 1, 7, none⟩ (.int .u8 e7)) := ⟨_, rfl⟩
  rw [← hW] at r2 b2 ⊢
  clear hW
  have r2 := r2.out
  have g0 := r2.cell 0; have g1 := r2.cell 1; have g2 := r2.cell 2; have g3 := r2.cell 3; have g4 := r2.cell 4; have g5 := r2.cell 5; have g6 := r2.cell 6; have g7 := r2.cell 7
  simp only [List.getElem?_cons_zero, List.getElem?_cons_succ] at g0 g1 g2 g3 g4 g5 g6 g7
  exact bodyPost_ret (v := .agg #[.int .u8 e0, .int .u8 e1, .int .u8 e2, .int .u8 e3, .int .u8 e4, .int .u8 e5, .int .u8 e6, .int .u8 e7]) (by simp [results, Try.results44, go_sem, g0, g1, g2, g3, g4, g5, g6, g7]) rfl ⟨rfl, b2.out⟩

end Go.Proofs.Ytomhmkdfhhmenaa
