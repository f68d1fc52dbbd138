/- PartsAt: the program's. -/
import Derived.Test.YtjpiobcilpjfeaaPartsS
import Derived.Test.YtjpiobcilpjfeaaSettleParts
import Derived.Test.YtjpiobcilpjfeaaOfS
import Derived.OrdersHeld
namespace Go.Proofs.Ytjpiobcilpjfeaa
open Go.RowKit

set_option maxRecDepth 100000 in
set_option maxHeartbeats 2000000 in
theorem parts1_ok (B p : Nat) (b n cap g m cap' : Nat) (zs : List Int) (js : List (Int × Int)) (turn : Int) (w : World) (hM : MoAt w B b n cap g m cap' zs js) (hp : p < w.heap.size) (cp : w.cell? ⟨p, 0, none⟩ = some (.int .i64 turn)) (hn : n = zs.length) (hm : m = js.length) (hvm : okM zs js = true) (hv : okL zs = true) (ht : turnOk zs turn = true) :
    Calls Try.prog 56 #[.pointer (some ⟨B, 0, none⟩), .pointer (some ⟨p, 0, none⟩)] w fun e w' => e = .returned (.agg #[.int .i64 (dg (partsL zs js turn) 0), .int .i64 (dg (partsL zs js turn) 1), .int .i64 (dg (partsL zs js turn) 2), .int .i64 (dg (partsL zs js turn) 3), .int .i64 (dg (partsL zs js turn) 4), .int .i64 (dg (partsL zs js turn) 5), .int .i64 (dg (partsL zs js turn) 6), .int .i64 (dg (partsL zs js turn) 7)]) ∧ Below w.heap.size w w' := by
  have bel : Below w.heap.size w (w.alloc (.cells #[.int .i64 0, .int .i64 0, .int .i64 0, .int .i64 0, .int .i64 0, .int .i64 0, .int .i64 0, .int .i64 0] 39)) := (Below.refl _ w).alloc (Nat.le_refl _) _
  have M0 := hid (hM.keep bel)
  have rR := hid (Row.new w 39 [.int .i64 0, .int .i64 0, .int .i64 0, .int .i64 0, .int .i64 0, .int .i64 0, .int .i64 0, .int .i64 0])
  have hBl := hM.1.lt
  obtain ⟨c0, c1⟩ := (hM.keep bel).cells
  have cp0 := (bel.cell (p := ⟨p, 0, none⟩) hp).trans cp
  have sb := spanL_bd hv
  have tb := turnOk_out ht
  have HT := hid (fun w1 (h : Stk w1 b zs) => moTurn_ok b n cap g m cap' zs js turn w1 h hn hv ht)
  have HS := hid (fun w1 (h : MoAt w1 B b n cap g m cap' zs js) => moParts_any b n cap g m cap' zs js turn w1 h.2.1 h.2.2 hn hm hvm (by omega))
  obtain ⟨e0, he0⟩ : ∃ x, x = dg (partsL zs js turn) 0 := ⟨_, rfl⟩
  obtain ⟨e1, he1⟩ : ∃ x, x = dg (partsL zs js turn) 1 := ⟨_, rfl⟩
  obtain ⟨e2, he2⟩ : ∃ x, x = dg (partsL zs js turn) 2 := ⟨_, rfl⟩
  obtain ⟨e3, he3⟩ : ∃ x, x = dg (partsL zs js turn) 3 := ⟨_, rfl⟩
  obtain ⟨e4, he4⟩ : ∃ x, x = dg (partsL zs js turn) 4 := ⟨_, rfl⟩
  obtain ⟨e5, he5⟩ : ∃ x, x = dg (partsL zs js turn) 5 := ⟨_, rfl⟩
  obtain ⟨e6, he6⟩ : ∃ x, x = dg (partsL zs js turn) 6 := ⟨_, rfl⟩
  obtain ⟨e7, he7⟩ : ∃ x, x = dg (partsL zs js turn) 7 := ⟨_, rfl⟩
  rw [← he0, ← he1, ← he2, ← he3, ← he4, ← he5, ← he6, ← he7] at HS
  rw [← he0, ← he1, ← he2, ← he3, ← he4, ← he5, ← he6, ← he7]
  clear hM cp hn hm hvm hv ht he0 he1 he2 he3 he4 he5 he6 he7 sb tb
  go_enter Try.func56, Try.ntmps56
  go_wp2_with fail
  go_region_held3 (fun w' => w'.cell? ⟨B, 0, none⟩ = some (.slice (some ⟨b, 0, none⟩) n cap) ∧ w'.cell? ⟨B, 1, none⟩ = some (.slice (some ⟨g, 0, none⟩) m cap') ∧ w'.cell? ⟨p, 0, none⟩ = some (.int .i64 turn)) (first | with_reducible exact hq3 | with_reducible exact hq2 | with_reducible exact hq1 | exact ⟨c0, c1, cp0⟩) ((first | (go_at_call 58; have hX := HT.out (w.alloc (.cells #[.int .i64 0, .int .i64 0, .int .i64 0, .int .i64 0, .int .i64 0, .int .i64 0, .int .i64 0, .int .i64 0] 39)).drew M0.out.2.1; refine hX.mono ?_; clear hX; rintro e w1 ⟨rfl, hB1⟩; have hz1 := hB1.size; simp only [World.size_drew, World.size_alloc] at hB1 hz1; have M1 := hid (MoAt.keep (w := (w.alloc (.cells #[.int .i64 0, .int .i64 0, .int .i64 0, .int .i64 0, .int .i64 0, .int .i64 0, .int .i64 0, .int .i64 0] 39)).drew) M0.out (by simpa only [World.size_drew, World.size_alloc] using hB1)); have hq1 := And.intro ((hB1.cell (p := ⟨B, 0, none⟩) (by show B < _; omega)).trans c0) (And.intro ((hB1.cell (p := ⟨B, 1, none⟩) (by show B < _; omega)).trans c1) ((hB1.cell (p := ⟨p, 0, none⟩) (by show p < _; omega)).trans cp0))) | (go_at_call 57; have hX := HS.out w1 M1.out; refine hX.mono ?_; clear hX; rintro e w2 ⟨rfl, hB2⟩; have hz2 := hB2.size; have b2 : Below (w.heap.size + 1) (w.alloc (.cells #[.int .i64 0, .int .i64 0, .int .i64 0, .int .i64 0, .int .i64 0, .int .i64 0, .int .i64 0, .int .i64 0] 39)) w2 := (Below.refl _ _).drew.trans (hB1.trans (hB2.mono (by omega))); have hq2 := And.intro ((hB2.cell (p := ⟨B, 0, none⟩) (by show B < _; omega)).trans hq1.1) (And.intro ((hB2.cell (p := ⟨B, 1, none⟩) (by show B < _; omega)).trans hq1.2.1) ((hB2.cell (p := ⟨p, 0, none⟩) (by show p < _; omega)).trans hq1.2.2)); have r1 := rR.out.below b2 (by omega); have g0 := r1.cell 0; have k0 := r1.frozen 0; have g1 := r1.cell 1; have k1 := r1.frozen 1; have g2 := r1.cell 2; have k2 := r1.frozen 2; have g3 := r1.cell 3; have k3 := r1.frozen 3; have g4 := r1.cell 4; have k4 := r1.frozen 4; have g5 := r1.cell 5; have k5 := r1.frozen 5; have g6 := r1.cell 6; have k6 := r1.frozen 6; have g7 := r1.cell 7; have k7 := r1.frozen 7; simp only [List.getElem?_cons_zero, List.getElem?_cons_succ] at g0 g1 g2 g3 g4 g5 g6 g7; have r2 := hid (r1.set8 rfl (.int .i64 e0) (.int .i64 e1) (.int .i64 e2) (.int .i64 e3) (.int .i64 e4) (.int .i64 e5) (.int .i64 e6) (.int .i64 e7)); have bb := hid (below_set8 (g := w.heap.size) (bel.trans (b2.mono (by omega))) (Nat.le_refl _) (.int .i64 e0) (.int .i64 e1) (.int .i64 e2) (.int .i64 e3) (.int .i64 e4) (.int .i64 e5) (.int .i64 e6) (.int .i64 e7)); have bx := below_set8 (n := w.heap.size) (g := w.heap.size) (Below.refl w.heap.size w2) (Nat.le_refl _) (.int .i64 e0) (.int .i64 e1) (.int .i64 e2) (.int .i64 e3) (.int .i64 e4) (.int .i64 e5) (.int .i64 e6) (.int .i64 e7); have hq3 := And.intro ((bx.cell (p := ⟨B, 0, none⟩) (by show B < _; omega)).trans hq2.1) (And.intro ((bx.cell (p := ⟨B, 1, none⟩) (by show B < _; omega)).trans hq2.2.1) ((bx.cell (p := ⟨p, 0, none⟩) (by show p < _; omega)).trans hq2.2.2)); clear r1 bx)))
  clear g0 k0 g1 k1 g2 k2 g3 k3 g4 k4 g5 k5 g6 k6 g7 k7
  obtain ⟨W, hW⟩ : ∃ W, W = ((((((((w2.setCell ⟨w.heap.size, 0, none⟩ (.int .i64 e0)).setCell ⟨w.heap.size, 1, none⟩ (.int .i64 e1)).setCell ⟨w.heap.size, 2, none⟩ (.int .i64 e2)).setCell ⟨w.heap.size, 3, none⟩ (.int .i64 e3)).setCell ⟨w.heap.size, 4, none⟩ (.int .i64 e4)).setCell ⟨w.heap.size, 5, none⟩ (.int .i64 e5)).setCell ⟨w.heap.size, 6, none⟩ (.int .i64 e6)).setCell ⟨w.heap.size, 7, none⟩ (.int .i64 e7)) := ⟨_, rfl⟩
  go_wp2_with fail
  rw [← hW] at r2 bb ⊢
  clear hW
  have r2 := r2.out
  have g0 := r2.cell 0; have g1 := r2.cell 1; have g2 := r2.cell 2; have g3 := r2.cell 3; have g4 := r2.cell 4; have g5 := r2.cell 5; have g6 := r2.cell 6; have g7 := r2.cell 7
  simp only [List.getElem?_cons_zero, List.getElem?_cons_succ] at g0 g1 g2 g3 g4 g5 g6 g7
  exact bodyPost_ret (v := .agg #[.int .i64 e0, .int .i64 e1, .int .i64 e2, .int .i64 e3, .int .i64 e4, .int .i64 e5, .int .i64 e6, .int .i64 e7]) (by simp [results, Try.results56, go_sem, g0, g1, g2, g3, g4, g5, g6, g7]) rfl ⟨rfl, bb.out⟩
set_option maxHeartbeats 1000000 in
theorem parts1_no (B p : Nat) (b n cap g m cap' : Nat) (zs : List Int) (js : List (Int × Int)) (turn : Int) (w : World) (hM : MoAt w B b n cap g m cap' zs js) (hp : p < w.heap.size) (cp : w.cell? ⟨p, 0, none⟩ = some (.int .i64 turn)) (hn : n = zs.length) (hv : okL zs = true) (ht : turnOk zs turn = false) :
    Calls Try.prog 56 #[.pointer (some ⟨B, 0, none⟩), .pointer (some ⟨p, 0, none⟩)] w fun e w' => e = .panicked [{ v := .iface 124 (.int .i64 turn), recovered := false }] ∧ Below w.heap.size w w' := by
  have bel : Below w.heap.size w (w.alloc (.cells #[.int .i64 0, .int .i64 0, .int .i64 0, .int .i64 0, .int .i64 0, .int .i64 0, .int .i64 0, .int .i64 0] 39)) := (Below.refl _ w).alloc (Nat.le_refl _) _
  have M0 := hid (hM.keep bel)
  obtain ⟨c0, c1⟩ := (hM.keep bel).cells
  have cp0 := (bel.cell (p := ⟨p, 0, none⟩) hp).trans cp
  have HT := hid (fun w1 (h : Stk w1 b zs) => moTurn_no b n cap g m cap' zs js turn w1 h hn hv ht)
  clear hM cp hn hv ht
  go_enter Try.func56, Try.ntmps56
  go_wp2_with fail
  refine wp_region_held (S := fun W' => W'.cell? ⟨B, 0, none⟩ = some (.slice (some ⟨b, 0, none⟩) n cap) ∧ W'.cell? ⟨B, 1, none⟩ = some (.slice (some ⟨g, 0, none⟩) m cap') ∧ W'.cell? ⟨p, 0, none⟩ = some (.int .i64 turn)) (by kernel_rfl) ?_
  change wpAnyH _ _ _ _ _ _ _ _ (World.drew _)
  have hS : (fun W' : World => W'.cell? ⟨B, 0, none⟩ = some (.slice (some ⟨b, 0, none⟩) n cap) ∧ W'.cell? ⟨B, 1, none⟩ = some (.slice (some ⟨g, 0, none⟩) m cap') ∧ W'.cell? ⟨p, 0, none⟩ = some (.int .i64 turn)) (w.alloc (.cells #[.int .i64 0, .int .i64 0, .int .i64 0, .int .i64 0, .int .i64 0, .int .i64 0, .int .i64 0, .int .i64 0] 39)).drew := ⟨c0, c1, cp0⟩
  refine wpAnyH_take (i := 0) (v := .agg #[.slice (some ⟨b, 0, none⟩) n cap, .slice (some ⟨g, 0, none⟩) m cap']) rfl (by kernel_rfl) (by kernel_rfl) (by kernel_rfl) (fun _ _ _ h => h) (.inl ⟨by rfl, ?_⟩) hS ?_
  · intro w' hw'; obtain ⟨hw1, hw2, hw3⟩ := hw'; go_simp; try with_reducible rfl
  simp only [Act.put, List.setIfInBounds_toArray, List.set_cons_zero, List.set_cons_succ]
  refine wpAnyH_take (i := 1) (v := .agg #[.slice (some ⟨b, 0, none⟩) n cap, .slice (some ⟨g, 0, none⟩) m cap']) rfl (by kernel_rfl) (by kernel_rfl) (by kernel_rfl) (fun _ _ _ h => h) (.inl ⟨by rfl, ?_⟩) hS ?_
  · intro w' hw'; obtain ⟨hw1, hw2, hw3⟩ := hw'; go_simp; try with_reducible rfl
  simp only [Act.put, List.setIfInBounds_toArray, List.set_cons_zero, List.set_cons_succ]
  refine wpAnyH_take (i := 2) (v := .int .i64 turn) rfl (by kernel_rfl) (by kernel_rfl) (by kernel_rfl) (fun _ _ _ h => h) (.inl ⟨by rfl, ?_⟩) hS ?_
  · intro w' hw'; obtain ⟨hw1, hw2, hw3⟩ := hw'; go_simp; try with_reducible rfl
  simp only [Act.put, List.setIfInBounds_toArray, List.set_cons_zero, List.set_cons_succ]
  refine wpAnyH_all (rs := [3]) (by kernel_rfl) (by simp) ?_
  intro i hi; simp only [List.mem_singleton] at hi; subst hi
  refine wpOp_step rfl (fun K hK => ?_)
  go_simp
  refine (HT.out (w.alloc (.cells #[.int .i64 0, .int .i64 0, .int .i64 0, .int .i64 0, .int .i64 0, .int .i64 0, .int .i64 0, .int .i64 0] 39)).drew M0.out.2.1).mono ?_
  rintro e w' ⟨rfl, hB⟩
  exact ⟨rfl, rfl, (bel.drew).trans (hB.mono (by simp))⟩
end Go.Proofs.Ytjpiobcilpjfeaa
