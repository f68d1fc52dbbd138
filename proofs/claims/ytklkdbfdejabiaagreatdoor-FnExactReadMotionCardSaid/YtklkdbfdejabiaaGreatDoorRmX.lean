/- A motion that a call has made: compared, written over, looked at. -/
import Derived.Test.YtklkdbfdejabiaaGreatDoorOwnJ
namespace Go.Proofs.YtklkdbfdejabiaaGreatDoor
open Go.RowKit
set_option linter.unusedVariables false
set_option linter.unusedSimpArgs false
theorem boxMo_bel (w : World) (a b : Value) : Below w.heap.size w (w.alloc (.cells #[a, b] 26)) := (Below.refl _ w).alloc (Nat.le_refl _) _
theorem OwnB.lowb {w : World} {b b' : Nat} {v : Value} {zs : List Int} (h : OwnB w b v zs) (hb : b' ≤ b) : OwnB w b' v zs := by
  obtain ⟨a, cap, h1, h2, h3⟩ := h
  refine ⟨a, cap, h1, h2, ?_⟩
  rcases h3 with h0 | ⟨g, rest, e, hg, hr⟩
  · exact .inl h0
  · exact .inr ⟨g, rest, e, by omega, hr⟩
theorem OwnJ.lowb {w : World} {b b' : Nat} {v : Value} {js : List (Int × Int)} (h : OwnJ w b v js) (hb : b' ≤ b) : OwnJ w b' v js := by
  obtain ⟨a, cap, h1, h2, h3⟩ := h
  refine ⟨a, cap, h1, h2, ?_⟩
  rcases h3 with h0 | ⟨g, rest, e, hg, hr⟩
  · exact .inl h0
  · exact .inr ⟨g, rest, e, by omega, hr⟩
theorem OwnJ.rows {w w' : World} {b : Nat} {v : Value} {js : List (Int × Int)} (h : OwnJ w b v js) (hr : ∀ q xs, Row w q 39 xs → Row w' q 39 xs) : OwnJ w' b v js := by
  obtain ⟨a, cap, h1, h2, h3⟩ := h
  refine ⟨a, cap, h1, h2, ?_⟩
  rcases h3 with h0 | ⟨g, rest, e, hg, r⟩
  · exact .inl h0
  · exact .inr ⟨g, rest, e, hg, hr _ _ r⟩
theorem OwnB.rows {w w' : World} {b : Nat} {v : Value} {zs : List Int} (h : OwnB w b v zs) (hr : ∀ q xs, Row w q 5 xs → Row w' q 5 xs) : OwnB w' b v zs := by
  obtain ⟨a, cap, h1, h2, h3⟩ := h
  refine ⟨a, cap, h1, h2, ?_⟩
  rcases h3 with h0 | ⟨g, rest, e, hg, r⟩
  · exact .inl h0
  · exact .inr ⟨g, rest, e, hg, hr _ _ r⟩
set_option maxHeartbeats 1000000 in
theorem eqMotion_own (b1 b2 : Nat) (s1 s2 j1 j2 : Value) (zs : List Int) (js : List (Int × Int)) (w : World) (h1 : OwnB w b1 s1 zs) (h2 : OwnB w b2 s2 zs) (k1 : OwnJ w b1 j1 js) (k2 : OwnJ w b2 j2 js) :
    Calls Tryz.prog 6 #[.agg #[s1, j1], .agg #[s2, j2]] w fun e w' => e = .returned (.bool true) ∧ Below w.heap.size w w' := by
  obtain ⟨W, hW⟩ : ∃ W, W = (w.alloc (.cells #[s1, j1] 26)).alloc (.cells #[s2, j2] 26) := ⟨_, rfl⟩
  have bel : Below w.heap.size w W := by rw [hW]; exact (boxMo_bel w _ _).alloc (by simp) _
  have r1 : Row W w.heap.size 26 [s1, j1] := by rw [hW]; exact (Row.new w _ _).alloc _
  have r2 : Row W (w.heap.size + 1) 26 [s2, j2] := by
    have h := Row.new (w.alloc (.cells #[s1, j1] 26)) 26 [s2, j2]
    simp only [World.size_alloc] at h
    rw [hW]; exact h
  have R1 := hid r1
  have R2 := hid r2
  have HE := hid (eqB_own b1 b2 s1 s2 zs W (h1.keep bel) (h2.keep bel))
  have HJ := hid (fun W' (hB : Below W.heap.size W W') => eqJ_own b1 b2 j1 j2 js W' ((k1.keep bel).keep hB) ((k2.keep bel).keep hB))
  have BE := hid bel
  have HW := hid hW
  clear h1 h2 k1 k2 r1 r2 bel hW
  go_enter Tryz.func6, Tryz.ntmps6
  go_wp2_with fail
  rw [← HW.out]
  refine HE.out.mono ?_
  rintro e w1 ⟨rfl, d, hd⟩
  have hB : Below W.heap.size W w1 := by rw [hd]; exact below_drewN (Below.refl _ _) d
  clear hd
  have q1 := R1.out.below hB R1.out.lt
  have q2 := R2.out.below hB R2.out.lt
  have a1 := q1.cell 1; have a2 := q2.cell 1
  simp only [List.getElem?_cons_zero, List.getElem?_cons_succ] at a1 a2
  have B1 := hid hB
  clear hB q1 q2
  go_wp2_with fail
  refine (HJ.out _ B1.out).mono ?_
  rintro e w2 ⟨rfl, hB⟩
  clear a1 a2
  go_wp2_with fail
  go_ret
  exact ⟨rfl, BE.out.trans ((B1.out.trans (hB.mono B1.out.size)).mono BE.out.size)⟩
set_option maxHeartbeats 1000000 in
theorem markMotion_own (base : Nat) (s j : Value) (zs : List Int) (js : List (Int × Int)) (w : World) (h : OwnB w base s zs) (k : OwnJ w base j js) (hb : base ≤ w.heap.size) (hz : zs.length ≤ 1048576) :
    Calls Tryz.prog 7 #[.agg #[s, j], .int .i64 1] w fun e w' => e = .returned (.int .i64 (1 + (zs.length : Int) + 2 * (js.length : Int))) ∧ OwnB w' base s (marksB 1 zs.length) ∧ OwnJ w' base j (marksJ (1 + (zs.length : Int)) js.length) ∧ Below base w w' ∧ (∀ q xs, Row w q 26 xs → Row w' q 26 xs) := by
  have bel := boxMo_bel w s j
  have H := hid (markB_only base s zs _ (h.keep bel) (Nat.le_trans hb bel.size))
  have R := hid (Row.new w 26 [s, j])
  have BE := hid bel
  have K := hid (k.keep bel)
  have n1 : 0 ≤ 1 + (zs.length : Int) ∧ 1 + (zs.length : Int) ≤ 10000000 := by omega
  have HJ := hid (fun W (q : OwnJ W base j js) => markJ_own base j js (1 + (zs.length : Int)) n1 W q)
  clear h k bel n1
  go_enter Tryz.func7, Tryz.ntmps7
  go_wp2_with fail
  refine H.out.mono ?_
  rintro e w1 ⟨rfl, hO, hB, _, hK⟩
  have r1 := hK _ _ _ (by decide) R.out
  have c1 := r1.cell 1
  simp only [List.getElem?_cons_zero, List.getElem?_cons_succ] at c1
  have K1 := hid (K.out.rows (fun q xs hr => hK q _ xs (by decide) hr))
  have O1 := hid hO
  have B1 := hid ((BE.out.mono hb).trans hB)
  have HK1 := hid (fun q xs (hr : Row w q 26 xs) => hK q _ xs (by decide) (hr.alloc _))
  clear hO hB hK r1
  go_wp2_with fail
  refine (HJ.out _ K1.out).mono ?_
  rintro e w2 ⟨rfl, hO, hB, _, hK⟩
  have HK2 := hid (fun q xs (hr : Row w q 26 xs) => hK q _ xs (by decide) (HK1.out q xs hr))
  have O2 := hid (O1.out.rows (fun q xs hr => hK q _ xs (by decide) hr))
  clear c1
  go_wp2_with fail
  go_ret
  exact ⟨rfl, O2.out, hO, B1.out.trans hB, HK2.out⟩
set_option maxHeartbeats 1000000 in
theorem heldMotion_own (base : Nat) (s j : Value) (n m : Nat) (hn : n ≤ 1048576) (w : World) (h : OwnB w base s (marksB 1 n)) (k : OwnJ w base j (marksJ (1 + (n : Int)) m)) :
    Calls Tryz.prog 8 #[.agg #[s, j], .int .i64 1] w fun e w' => e = .returned (.int .i64 (1 + (n : Int) + 2 * (m : Int))) ∧ Below w.heap.size w w' := by
  have bel := boxMo_bel w s j
  have H := hid (heldB_own base s n _ (h.keep bel))
  have R := hid (Row.new w 26 [s, j])
  have BE := hid bel
  have K := hid (k.keep bel)
  have n1 : 0 ≤ 1 + (n : Int) ∧ 1 + (n : Int) ≤ 10000000 := by omega
  have HJ := hid (fun W (q : OwnJ W base j (marksJ (1 + (n : Int)) m)) => heldJ_own base j m (1 + (n : Int)) n1 W q)
  have z1 : ¬ (1 + (n : Int) < 0) := by omega
  have z2 : ¬ (1 + (n : Int) + 2 * (m : Int) < 0) := by omega
  clear h k bel n1
  go_enter Tryz.func8, Tryz.ntmps8
  go_wp2_with fail
  refine H.out.mono ?_
  rintro e w1 ⟨rfl, d, rfl⟩
  have bd := below_drewN (Below.refl (w.alloc (.cells #[s, j] 26)).heap.size (w.alloc (.cells #[s, j] 26))) d
  have r1 := R.out.below bd R.out.lt
  have c1 := r1.cell 1
  simp only [List.getElem?_cons_zero, List.getElem?_cons_succ] at c1
  have K1 := hid (K.out.keep bd)
  have B1 := hid (below_drewN BE.out d)
  clear r1 bd
  go_wp2_with fail
  refine (HJ.out _ K1.out).mono ?_
  rintro e w2 ⟨rfl, d2, rfl⟩
  clear c1
  go_wp2_with fail
  go_ret
  exact ⟨rfl, below_drewN BE.out _⟩
end Go.Proofs.YtklkdbfdejabiaaGreatDoor
