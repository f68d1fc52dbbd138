/- PartsAt: the program's and the model's. -/
import Derived.Test.YtjpiobcilpjfeaaPa
namespace Go.Proofs.Ytjpiobcilpjfeaa
open Go.RowKit

def paR (zs : List Int) (js : List (Int × Int)) (turn : Int) : List Int × Int := if askR zs js turn = 0 then (partsL zs js turn, 0) else ([0, 0, 0, 0, 0, 0, 0, 0], askR zs js turn)
theorem paR_no {zs : List Int} {js : List (Int × Int)} {turn : Int} (h : okM zs js = false) : paR zs js turn = ([0, 0, 0, 0, 0, 0, 0, 0], 1) := by simp [paR, askR, h]
theorem paR_turn {zs : List Int} {js : List (Int × Int)} {turn : Int} (h : okM zs js = true) (k : turnOk zs turn = false) : paR zs js turn = ([0, 0, 0, 0, 0, 0, 0, 0], 2) := by simp [paR, askR, h, k]
theorem paR_yes {zs : List Int} {js : List (Int × Int)} {turn : Int} (h : okM zs js = true) (k : turnOk zs turn = true) : paR zs js turn = (partsL zs js turn, 0) := by simp [paR, askR, h, k]
set_option maxRecDepth 100000 in
set_option maxHeartbeats 4000000 in
theorem implPartsAt_any (b n cap g m cap' : Nat) (zs : List Int) (js : List (Int × Int)) (turn : Int) (w : World) (hS : Stk w b zs) (hJ : Jst w g js) (hn : n = zs.length) (hm : m = js.length) :
    Calls Try.prog 23 #[.agg #[.slice (some ⟨b, 0, none⟩) n cap, .slice (some ⟨g, 0, none⟩) m cap'], .int .i64 turn] w fun e w' => e = .returned (.tuple #[.agg #[.int .i64 (dg (paR zs js turn).1 0), .int .i64 (dg (paR zs js turn).1 1), .int .i64 (dg (paR zs js turn).1 2), .int .i64 (dg (paR zs js turn).1 3), .int .i64 (dg (paR zs js turn).1 4), .int .i64 (dg (paR zs js turn).1 5), .int .i64 (dg (paR zs js turn).1 6), .int .i64 (dg (paR zs js turn).1 7)], .int .i64 (paR zs js turn).2]) ∧ Below w.heap.size w w' := by
  have bel1 : Below (w.alloc (.cells #[.slice (some ⟨b, 0, none⟩) n cap, .slice (some ⟨g, 0, none⟩) m cap'] 31)).heap.size (w.alloc (.cells #[.slice (some ⟨b, 0, none⟩) n cap, .slice (some ⟨g, 0, none⟩) m cap'] 31)) (((w.alloc (.cells #[.slice (some ⟨b, 0, none⟩) n cap, .slice (some ⟨g, 0, none⟩) m cap'] 31)).alloc (.cells #[.int .i64 turn] 2)).alloc (.cells #[.int .i64 0, .int .i64 0, .int .i64 0, .int .i64 0, .int .i64 0, .int .i64 0, .int .i64 0, .int .i64 0] 39)) := ((Below.refl _ _).alloc (Nat.le_refl _) _).alloc (by simp) _
  have bel : Below w.heap.size w (((w.alloc (.cells #[.slice (some ⟨b, 0, none⟩) n cap, .slice (some ⟨g, 0, none⟩) m cap'] 31)).alloc (.cells #[.int .i64 turn] 2)).alloc (.cells #[.int .i64 0, .int .i64 0, .int .i64 0, .int .i64 0, .int .i64 0, .int .i64 0, .int .i64 0, .int .i64 0] 39)) := (((Below.refl _ w).alloc (Nat.le_refl _) _).alloc (by simp) _).alloc (by simp; omega) _
  have M0 := hid ((MoAt.new w b n cap g m cap' zs js hS hJ).keep bel1)
  have rT' := (Row.new (w.alloc (.cells #[.slice (some ⟨b, 0, none⟩) n cap, .slice (some ⟨g, 0, none⟩) m cap'] 31)) 2 [.int .i64 turn]).alloc (.cells #[.int .i64 0, .int .i64 0, .int .i64 0, .int .i64 0, .int .i64 0, .int .i64 0, .int .i64 0, .int .i64 0] 39)
  have rR' := Row.new ((w.alloc (.cells #[.slice (some ⟨b, 0, none⟩) n cap, .slice (some ⟨g, 0, none⟩) m cap'] 31)).alloc (.cells #[.int .i64 turn] 2)) 39 [.int .i64 0, .int .i64 0, .int .i64 0, .int .i64 0, .int .i64 0, .int .i64 0, .int .i64 0, .int .i64 0]
  simp only [World.size_alloc] at rT' rR'
  have rT := hid rT'
  have rR := hid rR'
  have HV := hid (implValidMotion_any b n cap g m cap' zs js _ M0.out.2.1 M0.out.2.2 hn hm)
  have hmf : ∀ (fn : Fn) (first cap : Array Value) (w : World), (Instr.makeFunc fn first cap).run Try.prog w = .ok (.func fn first cap) w := fun _ _ _ _ => rfl
  clear rT' rR' bel1
  cases hv : okM zs js with
  | false =>
    rw [paR_no hv]
    rw [hv] at HV
    clear hS hJ hn hm hv
    go_enter Try.func23, Try.ntmps23
    go_wp2_with fail
    refine HV.out.mono ?_
    rintro e w1 ⟨rfl, hB⟩
    have hz := hB.size
    simp only [World.size_alloc] at hB hz
    have r1 := (rR.out.below hB (by omega))
    have g0 := r1.cell 0; have k0 := r1.frozen 0; have g1 := r1.cell 1; have k1 := r1.frozen 1; have g2 := r1.cell 2; have k2 := r1.frozen 2; have g3 := r1.cell 3; have k3 := r1.frozen 3; have g4 := r1.cell 4; have k4 := r1.frozen 4; have g5 := r1.cell 5; have k5 := r1.frozen 5; have g6 := r1.cell 6; have k6 := r1.frozen 6; have g7 := r1.cell 7; have k7 := r1.frozen 7
    simp only [List.getElem?_cons_zero, List.getElem?_cons_succ] at g0 g1 g2 g3 g4 g5 g6 g7
    have r2 := hid (r1.set8 rfl (.int .i64 0) (.int .i64 0) (.int .i64 0) (.int .i64 0) (.int .i64 0) (.int .i64 0) (.int .i64 0) (.int .i64 0))
    have b2 := hid (below_set8 (g := w.heap.size + 1 + 1) (bel.trans (hB.mono (by omega))) (by omega) (.int .i64 0) (.int .i64 0) (.int .i64 0) (.int .i64 0) (.int .i64 0) (.int .i64 0) (.int .i64 0) (.int .i64 0))
    clear r1
    go_wp2_with fail
    clear g0 k0 g1 k1 g2 k2 g3 k3 g4 k4 g5 k5 g6 k6 g7 k7
    obtain ⟨W, hW⟩ : ∃ W, W = ((((((((w1.setCell ⟨w.heap.size + 1 + 1, 0, none⟩ (.int .i64 0)).setCell ⟨w.heap.size + 1 + 1, 1, none⟩ (.int .i64 0)).setCell ⟨w.heap.size + 1 + 1, 2, none⟩ (.int .i64 0)).setCell ⟨w.heap.size + 1 + 1, 3, none⟩ (.int .i64 0)).setCell ⟨w.heap.size + 1 + 1, 4, none⟩ (.int .i64 0)).setCell ⟨w.heap.size + 1 + 1, 5, none⟩ (.int .i64 0)).setCell ⟨w.heap.size + 1 + 1, 6, none⟩ (.int .i64 0)).setCell ⟨w.heap.size + 1 + 1, 7, none⟩ (.int .i64 0)) := ⟨_, rfl⟩
    rw [← hW] at r2 b2 ⊢
    clear hW
    have r2 := r2.out
    have g0 := r2.cell 0; have g1 := r2.cell 1; have g2 := r2.cell 2; have g3 := r2.cell 3; have g4 := r2.cell 4; have g5 := r2.cell 5; have g6 := r2.cell 6; have g7 := r2.cell 7
    simp only [List.getElem?_cons_zero, List.getElem?_cons_succ] at g0 g1 g2 g3 g4 g5 g6 g7
    exact bodyPost_ret (v := .tuple #[.agg #[.int .i64 0, .int .i64 0, .int .i64 0, .int .i64 0, .int .i64 0, .int .i64 0, .int .i64 0, .int .i64 0], .int .i64 1]) (by simp [results, Try.results23, go_sem, g0, g1, g2, g3, g4, g5, g6, g7]) rfl ⟨rfl, b2.out⟩
  | true =>
    rw [hv] at HV
    have hv1 := (okM_out hv).1
    cases ht : turnOk zs turn with
    | false =>
      rw [paR_turn hv ht]
      have HS := hid (fun w1 (hB : Below (w.heap.size + 1 + 1 + 1) (((w.alloc (.cells #[.slice (some ⟨b, 0, none⟩) n cap, .slice (some ⟨g, 0, none⟩) m cap'] 31)).alloc (.cells #[.int .i64 turn] 2)).alloc (.cells #[.int .i64 0, .int .i64 0, .int .i64 0, .int .i64 0, .int .i64 0, .int .i64 0, .int .i64 0, .int .i64 0] 39)) w1) => settle_pan_parts 56 #[.pointer (some ⟨w.heap.size, 0, none⟩), .pointer (some ⟨w.heap.size + 1, 0, none⟩)] turn w1 (fun _ => rfl)
        (fun w2 h2 hz2 => parts1_no w.heap.size (w.heap.size + 1) b n cap g m cap' zs js turn w2 ((M0.out.keep (by simpa only [World.size_alloc] using hB)).keep h2) (by have := hB.size; simp at this; omega) (((rT.out.below hB (by omega)).below h2 (by have := hB.size; simp at this; omega)).cell 0) hn hv1 ht))
      clear hS hJ hn hm hv hv1 ht
      go_enter Try.func23, Try.ntmps23
      go_wp2_with fail
      refine HV.out.mono ?_
      rintro e w1 ⟨rfl, hB⟩
      have hz := hB.size
      simp only [World.size_alloc] at hB hz
      go_wp2_with fail
      refine (HS.out w1 hB).mono ?_
      rintro e w2 ⟨rfl, hB2⟩
      have hz2 := hB2.size
      have r1 := ((rR.out.below hB (by omega)).below hB2 (by omega))
      have g0 := r1.cell 0; have k0 := r1.frozen 0; have g1 := r1.cell 1; have k1 := r1.frozen 1; have g2 := r1.cell 2; have k2 := r1.frozen 2; have g3 := r1.cell 3; have k3 := r1.frozen 3; have g4 := r1.cell 4; have k4 := r1.frozen 4; have g5 := r1.cell 5; have k5 := r1.frozen 5; have g6 := r1.cell 6; have k6 := r1.frozen 6; have g7 := r1.cell 7; have k7 := r1.frozen 7
      simp only [List.getElem?_cons_zero, List.getElem?_cons_succ] at g0 g1 g2 g3 g4 g5 g6 g7
      have r2 := hid (r1.set8 rfl (.int .i64 0) (.int .i64 0) (.int .i64 0) (.int .i64 0) (.int .i64 0) (.int .i64 0) (.int .i64 0) (.int .i64 0))
      have b2 := hid (below_set8 (g := w.heap.size + 1 + 1) (bel.trans ((hB.mono (by omega)).trans (hB2.mono (by omega)))) (by omega) (.int .i64 0) (.int .i64 0) (.int .i64 0) (.int .i64 0) (.int .i64 0) (.int .i64 0) (.int .i64 0) (.int .i64 0))
      clear r1
      go_wp2_with fail
      clear g0 k0 g1 k1 g2 k2 g3 k3 g4 k4 g5 k5 g6 k6 g7 k7
      obtain ⟨W, hW⟩ : ∃ W, W = ((((((((w2.setCell ⟨w.heap.size + 1 + 1, 0, none⟩ (.int .i64 0)).setCell ⟨w.heap.size + 1 + 1, 1, none⟩ (.int .i64 0)).setCell ⟨w.heap.size + 1 + 1, 2, none⟩ (.int .i64 0)).setCell ⟨w.heap.size + 1 + 1, 3, none⟩ (.int .i64 0)).setCell ⟨w.heap.size + 1 + 1, 4, none⟩ (.int .i64 0)).setCell ⟨w.heap.size + 1 + 1, 5, none⟩ (.int .i64 0)).setCell ⟨w.heap.size + 1 + 1, 6, none⟩ (.int .i64 0)).setCell ⟨w.heap.size + 1 + 1, 7, none⟩ (.int .i64 0)) := ⟨_, rfl⟩
      rw [← hW] at r2 b2 ⊢
      clear hW
      have r2 := r2.out
      have g0 := r2.cell 0; have g1 := r2.cell 1; have g2 := r2.cell 2; have g3 := r2.cell 3; have g4 := r2.cell 4; have g5 := r2.cell 5; have g6 := r2.cell 6; have g7 := r2.cell 7
      simp only [List.getElem?_cons_zero, List.getElem?_cons_succ] at g0 g1 g2 g3 g4 g5 g6 g7
      exact bodyPost_ret (v := .tuple #[.agg #[.int .i64 0, .int .i64 0, .int .i64 0, .int .i64 0, .int .i64 0, .int .i64 0, .int .i64 0, .int .i64 0], .int .i64 2]) (by simp [results, Try.results23, go_sem, g0, g1, g2, g3, g4, g5, g6, g7]) rfl ⟨rfl, b2.out⟩
    | true =>
      rw [paR_yes hv ht]
      have HS := hid (fun w1 (hB : Below (w.heap.size + 1 + 1 + 1) (((w.alloc (.cells #[.slice (some ⟨b, 0, none⟩) n cap, .slice (some ⟨g, 0, none⟩) m cap'] 31)).alloc (.cells #[.int .i64 turn] 2)).alloc (.cells #[.int .i64 0, .int .i64 0, .int .i64 0, .int .i64 0, .int .i64 0, .int .i64 0, .int .i64 0, .int .i64 0] 39)) w1) => settle_ok_parts 56 #[.pointer (some ⟨w.heap.size, 0, none⟩), .pointer (some ⟨w.heap.size + 1, 0, none⟩)] ((dg (partsL zs js turn) 0)) ((dg (partsL zs js turn) 1)) ((dg (partsL zs js turn) 2)) ((dg (partsL zs js turn) 3)) ((dg (partsL zs js turn) 4)) ((dg (partsL zs js turn) 5)) ((dg (partsL zs js turn) 6)) ((dg (partsL zs js turn) 7)) w1 (fun _ => rfl)
        (fun w2 h2 hz2 => parts1_ok w.heap.size (w.heap.size + 1) b n cap g m cap' zs js turn w2 ((M0.out.keep (by simpa only [World.size_alloc] using hB)).keep h2) (by have := hB.size; simp at this; omega) (((rT.out.below hB (by omega)).below h2 (by have := hB.size; simp at this; omega)).cell 0) hn hm hv hv1 ht))
      obtain ⟨e0, he0⟩ : ∃ x, x = dg (partsL zs js turn) 0 := ⟨_, rfl⟩
      obtain ⟨e1, he1⟩ : ∃ x, x = dg (partsL zs js turn) 1 := ⟨_, rfl⟩
      obtain ⟨e2, he2⟩ : ∃ x, x = dg (partsL zs js turn) 2 := ⟨_, rfl⟩
      obtain ⟨e3, he3⟩ : ∃ x, x = dg (partsL zs js turn) 3 := ⟨_, rfl⟩
      obtain ⟨e4, he4⟩ : ∃ x, x = dg (partsL zs js turn) 4 := ⟨_, rfl⟩
      obtain ⟨e5, he5⟩ : ∃ x, x = dg (partsL zs js turn) 5 := ⟨_, rfl⟩
      obtain ⟨e6, he6⟩ : ∃ x, x = dg (partsL zs js turn) 6 := ⟨_, rfl⟩
      obtain ⟨e7, he7⟩ : ∃ x, x = dg (partsL zs js turn) 7 := ⟨_, rfl⟩
      rw [← he0, ← he1, ← he2, ← he3, ← he4, ← he5, ← he6, ← he7] at HS
      rw [← he0, ← he1, ← he2, ← he3, ← he4, ← he5, ← he6, ← he7]
      clear hS hJ hn hm hv hv1 ht he0 he1 he2 he3 he4 he5 he6 he7
      go_enter Try.func23, Try.ntmps23
      go_wp2_with fail
      refine HV.out.mono ?_
      rintro e w1 ⟨rfl, hB⟩
      have hz := hB.size
      simp only [World.size_alloc] at hB hz
      go_wp2_with fail
      refine (HS.out w1 hB).mono ?_
      rintro e w2 ⟨rfl, hB2⟩
      have hz2 := hB2.size
      have r1 := ((rR.out.below hB (by omega)).below hB2 (by omega))
      have g0 := r1.cell 0; have k0 := r1.frozen 0; have g1 := r1.cell 1; have k1 := r1.frozen 1; have g2 := r1.cell 2; have k2 := r1.frozen 2; have g3 := r1.cell 3; have k3 := r1.frozen 3; have g4 := r1.cell 4; have k4 := r1.frozen 4; have g5 := r1.cell 5; have k5 := r1.frozen 5; have g6 := r1.cell 6; have k6 := r1.frozen 6; have g7 := r1.cell 7; have k7 := r1.frozen 7
      simp only [List.getElem?_cons_zero, List.getElem?_cons_succ] at g0 g1 g2 g3 g4 g5 g6 g7
      have r2 := hid (r1.set8 rfl (.int .i64 e0) (.int .i64 e1) (.int .i64 e2) (.int .i64 e3) (.int .i64 e4) (.int .i64 e5) (.int .i64 e6) (.int .i64 e7))
      have b2 := hid (below_set8 (g := w.heap.size + 1 + 1) (bel.trans ((hB.mono (by omega)).trans (hB2.mono (by omega)))) (by omega) (.int .i64 e0) (.int .i64 e1) (.int .i64 e2) (.int .i64 e3) (.int .i64 e4) (.int .i64 e5) (.int .i64 e6) (.int .i64 e7))
      clear r1
      go_wp2_with fail
      clear g0 k0 g1 k1 g2 k2 g3 k3 g4 k4 g5 k5 g6 k6 g7 k7
      obtain ⟨W, hW⟩ : ∃ W, W = ((((((((w2.setCell ⟨w.heap.size + 1 + 1, 0, none⟩ (.int .i64 e0)).setCell ⟨w.heap.size + 1 + 1, 1, none⟩ (.int .i64 e1)).setCell ⟨w.heap.size + 1 + 1, 2, none⟩ (.int .i64 e2)).setCell ⟨w.heap.size + 1 + 1, 3, none⟩ (.int .i64 e3)).setCell ⟨w.heap.size + 1 + 1, 4, none⟩ (.int .i64 e4)).setCell ⟨w.heap.size + 1 + 1, 5, none⟩ (.int .i64 e5)).setCell ⟨w.heap.size + 1 + 1, 6, none⟩ (.int .i64 e6)).setCell ⟨w.heap.size + 1 + 1, 7, none⟩ (.int .i64 e7)) := ⟨_, rfl⟩
      rw [← hW] at r2 b2 ⊢
      clear hW
      have r2 := r2.out
      have g0 := r2.cell 0; have g1 := r2.cell 1; have g2 := r2.cell 2; have g3 := r2.cell 3; have g4 := r2.cell 4; have g5 := r2.cell 5; have g6 := r2.cell 6; have g7 := r2.cell 7
      simp only [List.getElem?_cons_zero, List.getElem?_cons_succ] at g0 g1 g2 g3 g4 g5 g6 g7
      exact bodyPost_ret (v := .tuple #[.agg #[.int .i64 e0, .int .i64 e1, .int .i64 e2, .int .i64 e3, .int .i64 e4, .int .i64 e5, .int .i64 e6, .int .i64 e7], .int .i64 0]) (by simp [results, Try.results23, go_sem, g0, g1, g2, g3, g4, g5, g6, g7]) rfl ⟨rfl, b2.out⟩

set_option maxRecDepth 100000 in
set_option maxHeartbeats 4000000 in
theorem specPartsAt_any (b n cap g m cap' : Nat) (zs : List Int) (js : List (Int × Int)) (turn : Int) (w : World) (hS : Stk w b zs) (hJ : Jst w g js) (hn : n = zs.length) (hm : m = js.length) (hcap : n ≤ cap) (hb : ∀ j, j < js.length → (-128 ≤ jk js j ∧ jk js j ≤ 127) ∧ (-32768 ≤ jf js j ∧ jf js j ≤ 32767)) :
    Calls Try.prog 22 #[.agg #[.slice (some ⟨b, 0, none⟩) n cap, .slice (some ⟨g, 0, none⟩) m cap'], .int .i64 turn] w fun e w' => e = .returned (.tuple #[.agg #[.int .i64 (dg (paR zs js turn).1 0), .int .i64 (dg (paR zs js turn).1 1), .int .i64 (dg (paR zs js turn).1 2), .int .i64 (dg (paR zs js turn).1 3), .int .i64 (dg (paR zs js turn).1 4), .int .i64 (dg (paR zs js turn).1 5), .int .i64 (dg (paR zs js turn).1 6), .int .i64 (dg (paR zs js turn).1 7)], .int .i64 (paR zs js turn).2]) ∧ Below w.heap.size w w' := by
  have bel1 : Below (w.alloc (.cells #[.slice (some ⟨b, 0, none⟩) n cap, .slice (some ⟨g, 0, none⟩) m cap'] 31)).heap.size (w.alloc (.cells #[.slice (some ⟨b, 0, none⟩) n cap, .slice (some ⟨g, 0, none⟩) m cap'] 31)) ((w.alloc (.cells #[.slice (some ⟨b, 0, none⟩) n cap, .slice (some ⟨g, 0, none⟩) m cap'] 31)).alloc (.cells #[.int .i64 0, .int .i64 0, .int .i64 0, .int .i64 0, .int .i64 0, .int .i64 0, .int .i64 0, .int .i64 0] 39)) := (Below.refl _ _).alloc (Nat.le_refl _) _
  have bel : Below w.heap.size w ((w.alloc (.cells #[.slice (some ⟨b, 0, none⟩) n cap, .slice (some ⟨g, 0, none⟩) m cap'] 31)).alloc (.cells #[.int .i64 0, .int .i64 0, .int .i64 0, .int .i64 0, .int .i64 0, .int .i64 0, .int .i64 0, .int .i64 0] 39)) := ((Below.refl _ w).alloc (Nat.le_refl _) _).alloc (by simp) _
  have M0 := hid ((MoAt.new w b n cap g m cap' zs js hS hJ).keep bel1)
  have rR' := Row.new (w.alloc (.cells #[.slice (some ⟨b, 0, none⟩) n cap, .slice (some ⟨g, 0, none⟩) m cap'] 31)) 39 [.int .i64 0, .int .i64 0, .int .i64 0, .int .i64 0, .int .i64 0, .int .i64 0, .int .i64 0, .int .i64 0]
  simp only [World.size_alloc] at rR'
  have rR := hid rR'
  have HA := hid (l02Asked_any w.heap.size b n cap g m cap' zs js turn _ M0.out hn hm hb)
  clear rR' bel1
  cases hv : okM zs js with
  | false =>
    rw [paR_no hv]
    rw [show askR zs js turn = 1 from by simp [askR, hv]] at HA
    clear hS hJ hn hm hv hb
    go_enter Try.func22, Try.ntmps22
    go_wp2_with fail
    refine HA.out.mono ?_
    rintro e w1 ⟨rfl, hB⟩
    have hz := hB.size
    simp only [World.size_alloc] at hB hz
    have r1 := (rR.out.below hB (by omega))
    have g0 := r1.cell 0; have k0 := r1.frozen 0; have g1 := r1.cell 1; have k1 := r1.frozen 1; have g2 := r1.cell 2; have k2 := r1.frozen 2; have g3 := r1.cell 3; have k3 := r1.frozen 3; have g4 := r1.cell 4; have k4 := r1.frozen 4; have g5 := r1.cell 5; have k5 := r1.frozen 5; have g6 := r1.cell 6; have k6 := r1.frozen 6; have g7 := r1.cell 7; have k7 := r1.frozen 7
    simp only [List.getElem?_cons_zero, List.getElem?_cons_succ] at g0 g1 g2 g3 g4 g5 g6 g7
    have r2 := hid (r1.set8 rfl (.int .i64 0) (.int .i64 0) (.int .i64 0) (.int .i64 0) (.int .i64 0) (.int .i64 0) (.int .i64 0) (.int .i64 0))
    have b2 := hid (below_set8 (g := w.heap.size + 1) (bel.trans (hB.mono (by omega))) (by omega) (.int .i64 0) (.int .i64 0) (.int .i64 0) (.int .i64 0) (.int .i64 0) (.int .i64 0) (.int .i64 0) (.int .i64 0))
    clear r1
    go_wp2_with fail
    clear g0 k0 g1 k1 g2 k2 g3 k3 g4 k4 g5 k5 g6 k6 g7 k7
    obtain ⟨W, hW⟩ : ∃ W, W = ((((((((w1.setCell ⟨w.heap.size + 1, 0, none⟩ (.int .i64 0)).setCell ⟨w.heap.size + 1, 1, none⟩ (.int .i64 0)).setCell ⟨w.heap.size + 1, 2, none⟩ (.int .i64 0)).setCell ⟨w.heap.size + 1, 3, none⟩ (.int .i64 0)).setCell ⟨w.heap.size + 1, 4, none⟩ (.int .i64 0)).setCell ⟨w.heap.size + 1, 5, none⟩ (.int .i64 0)).setCell ⟨w.heap.size + 1, 6, none⟩ (.int .i64 0)).setCell ⟨w.heap.size + 1, 7, none⟩ (.int .i64 0)) := ⟨_, rfl⟩
    rw [← hW] at r2 b2 ⊢
    clear hW
    have r2 := r2.out
    have g0 := r2.cell 0; have g1 := r2.cell 1; have g2 := r2.cell 2; have g3 := r2.cell 3; have g4 := r2.cell 4; have g5 := r2.cell 5; have g6 := r2.cell 6; have g7 := r2.cell 7
    simp only [List.getElem?_cons_zero, List.getElem?_cons_succ] at g0 g1 g2 g3 g4 g5 g6 g7
    exact bodyPost_ret (v := .tuple #[.agg #[.int .i64 0, .int .i64 0, .int .i64 0, .int .i64 0, .int .i64 0, .int .i64 0, .int .i64 0, .int .i64 0], .int .i64 1]) (by simp [results, Try.results22, go_sem, g0, g1, g2, g3, g4, g5, g6, g7]) rfl ⟨rfl, b2.out⟩
  | true =>
    have hv1 := (okM_out hv).1
    cases ht : turnOk zs turn with
    | false =>
      rw [paR_turn hv ht]
      rw [show askR zs js turn = 2 from by simp [askR, hv, ht]] at HA
      clear hS hJ hn hm hv hb hv1 ht
      go_enter Try.func22, Try.ntmps22
      go_wp2_with fail
      refine HA.out.mono ?_
      rintro e w1 ⟨rfl, hB⟩
      have hz := hB.size
      simp only [World.size_alloc] at hB hz
      have r1 := (rR.out.below hB (by omega))
      have g0 := r1.cell 0; have k0 := r1.frozen 0; have g1 := r1.cell 1; have k1 := r1.frozen 1; have g2 := r1.cell 2; have k2 := r1.frozen 2; have g3 := r1.cell 3; have k3 := r1.frozen 3; have g4 := r1.cell 4; have k4 := r1.frozen 4; have g5 := r1.cell 5; have k5 := r1.frozen 5; have g6 := r1.cell 6; have k6 := r1.frozen 6; have g7 := r1.cell 7; have k7 := r1.frozen 7
      simp only [List.getElem?_cons_zero, List.getElem?_cons_succ] at g0 g1 g2 g3 g4 g5 g6 g7
      have r2 := hid (r1.set8 rfl (.int .i64 0) (.int .i64 0) (.int .i64 0) (.int .i64 0) (.int .i64 0) (.int .i64 0) (.int .i64 0) (.int .i64 0))
      have b2 := hid (below_set8 (g := w.heap.size + 1) (bel.trans (hB.mono (by omega))) (by omega) (.int .i64 0) (.int .i64 0) (.int .i64 0) (.int .i64 0) (.int .i64 0) (.int .i64 0) (.int .i64 0) (.int .i64 0))
      clear r1
      go_wp2_with fail
      clear g0 k0 g1 k1 g2 k2 g3 k3 g4 k4 g5 k5 g6 k6 g7 k7
      obtain ⟨W, hW⟩ : ∃ W, W = ((((((((w1.setCell ⟨w.heap.size + 1, 0, none⟩ (.int .i64 0)).setCell ⟨w.heap.size + 1, 1, none⟩ (.int .i64 0)).setCell ⟨w.heap.size + 1, 2, none⟩ (.int .i64 0)).setCell ⟨w.heap.size + 1, 3, none⟩ (.int .i64 0)).setCell ⟨w.heap.size + 1, 4, none⟩ (.int .i64 0)).setCell ⟨w.heap.size + 1, 5, none⟩ (.int .i64 0)).setCell ⟨w.heap.size + 1, 6, none⟩ (.int .i64 0)).setCell ⟨w.heap.size + 1, 7, none⟩ (.int .i64 0)) := ⟨_, rfl⟩
      rw [← hW] at r2 b2 ⊢
      clear hW
      have r2 := r2.out
      have g0 := r2.cell 0; have g1 := r2.cell 1; have g2 := r2.cell 2; have g3 := r2.cell 3; have g4 := r2.cell 4; have g5 := r2.cell 5; have g6 := r2.cell 6; have g7 := r2.cell 7
      simp only [List.getElem?_cons_zero, List.getElem?_cons_succ] at g0 g1 g2 g3 g4 g5 g6 g7
      exact bodyPost_ret (v := .tuple #[.agg #[.int .i64 0, .int .i64 0, .int .i64 0, .int .i64 0, .int .i64 0, .int .i64 0, .int .i64 0, .int .i64 0], .int .i64 2]) (by simp [results, Try.results22, go_sem, g0, g1, g2, g3, g4, g5, g6, g7]) rfl ⟨rfl, b2.out⟩
    | true =>
      rw [paR_yes hv ht]
      rw [show askR zs js turn = 0 from by simp [askR, hv, ht]] at HA
      have tb := turnOk_out ht
      have sb := spanL_bd hv1
      have HD := hid (fun w1 (h : MoAt w1 w.heap.size b n cap g m cap' zs js) => l02Parts_any w.heap.size b n cap g m cap' zs js turn w1 h hn hm hcap hv ht)
      obtain ⟨e0, he0⟩ : ∃ x, x = dg (partsL zs js turn) 0 := ⟨_, rfl⟩
      obtain ⟨e1, he1⟩ : ∃ x, x = dg (partsL zs js turn) 1 := ⟨_, rfl⟩
      obtain ⟨e2, he2⟩ : ∃ x, x = dg (partsL zs js turn) 2 := ⟨_, rfl⟩
      obtain ⟨e3, he3⟩ : ∃ x, x = dg (partsL zs js turn) 3 := ⟨_, rfl⟩
      obtain ⟨e4, he4⟩ : ∃ x, x = dg (partsL zs js turn) 4 := ⟨_, rfl⟩
      obtain ⟨e5, he5⟩ : ∃ x, x = dg (partsL zs js turn) 5 := ⟨_, rfl⟩
      obtain ⟨e6, he6⟩ : ∃ x, x = dg (partsL zs js turn) 6 := ⟨_, rfl⟩
      obtain ⟨e7, he7⟩ : ∃ x, x = dg (partsL zs js turn) 7 := ⟨_, rfl⟩
      rw [← he0, ← he1, ← he2, ← he3, ← he4, ← he5, ← he6, ← he7] at HD
      rw [← he0, ← he1, ← he2, ← he3, ← he4, ← he5, ← he6, ← he7]
      have h1 := tb.1
      have h2 : turn ≤ 1000000000000000 := by omega
      clear hS hJ hn hm hv hb hv1 ht he0 he1 he2 he3 he4 he5 he6 he7 tb sb
      go_enter Try.func22, Try.ntmps22
      go_wp2_with fail
      refine HA.out.mono ?_
      rintro e w1 ⟨rfl, hB⟩
      have hz := hB.size
      simp only [World.size_alloc] at hB hz
      have M1 := hid (M0.out.keep (by simpa only [World.size_alloc] using hB))
      go_wp2_with fail
      refine (HD.out w1 M1.out).mono ?_
      rintro e w2 ⟨rfl, hB2⟩
      have hz2 := hB2.size
      have r1 := ((rR.out.below hB (by omega)).below hB2 (by omega))
      have g0 := r1.cell 0; have k0 := r1.frozen 0; have g1 := r1.cell 1; have k1 := r1.frozen 1; have g2 := r1.cell 2; have k2 := r1.frozen 2; have g3 := r1.cell 3; have k3 := r1.frozen 3; have g4 := r1.cell 4; have k4 := r1.frozen 4; have g5 := r1.cell 5; have k5 := r1.frozen 5; have g6 := r1.cell 6; have k6 := r1.frozen 6; have g7 := r1.cell 7; have k7 := r1.frozen 7
      simp only [List.getElem?_cons_zero, List.getElem?_cons_succ] at g0 g1 g2 g3 g4 g5 g6 g7
      have r2 := hid (r1.set8 rfl (.int .i64 e0) (.int .i64 e1) (.int .i64 e2) (.int .i64 e3) (.int .i64 e4) (.int .i64 e5) (.int .i64 e6) (.int .i64 e7))
      have b2 := hid (below_set8 (g := w.heap.size + 1) (bel.trans ((hB.mono (by omega)).trans (hB2.mono (by omega)))) (by omega) (.int .i64 e0) (.int .i64 e1) (.int .i64 e2) (.int .i64 e3) (.int .i64 e4) (.int .i64 e5) (.int .i64 e6) (.int .i64 e7))
      clear r1
      go_wp2_with fail
      clear g0 k0 g1 k1 g2 k2 g3 k3 g4 k4 g5 k5 g6 k6 g7 k7
      obtain ⟨W, hW⟩ : ∃ W, W = ((((((((w2.setCell ⟨w.heap.size + 1, 0, none⟩ (.int .i64 e0)).setCell ⟨w.heap.size + 1, 1, none⟩ (.int .i64 e1)).setCell ⟨w.heap.size + 1, 2, none⟩ (.int .i64 e2)).setCell ⟨w.heap.size + 1, 3, none⟩ (.int .i64 e3)).setCell ⟨w.heap.size + 1, 4, none⟩ (.int .i64 e4)).setCell ⟨w.heap.size + 1, 5, none⟩ (.int .i64 e5)).setCell ⟨w.heap.size + 1, 6, none⟩ (.int .i64 e6)).setCell ⟨w.heap.size + 1, 7, none⟩ (.int .i64 e7)) := ⟨_, rfl⟩
      rw [← hW] at r2 b2 ⊢
      clear hW
      have r2 := r2.out
      have g0 := r2.cell 0; have g1 := r2.cell 1; have g2 := r2.cell 2; have g3 := r2.cell 3; have g4 := r2.cell 4; have g5 := r2.cell 5; have g6 := r2.cell 6; have g7 := r2.cell 7
      simp only [List.getElem?_cons_zero, List.getElem?_cons_succ] at g0 g1 g2 g3 g4 g5 g6 g7
      exact bodyPost_ret (v := .tuple #[.agg #[.int .i64 e0, .int .i64 e1, .int .i64 e2, .int .i64 e3, .int .i64 e4, .int .i64 e5, .int .i64 e6, .int .i64 e7], .int .i64 0]) (by simp [results, Try.results22, go_sem, g0, g1, g2, g3, g4, g5, g6, g7]) rfl ⟨rfl, b2.out⟩
end Go.Proofs.Ytjpiobcilpjfeaa
