/- RightDigits: the program's and the model's. -/
import Derived.Test.YtjpiobcilpjfeaaRight
namespace Go.Proofs.Ytjpiobcilpjfeaa
open Go.RowKit

def rdR (zs : List Int) (js : List (Int × Int)) (turn : Int) : List Int × Int := if askR zs js turn = 0 then (dgL zs (turn / 1000), 0) else ([0, 0, 0, 0, 0, 0, 0, 0], askR zs js turn)
theorem rdR_no {zs : List Int} {js : List (Int × Int)} {turn : Int} (h : okM zs js = false) : rdR zs js turn = ([0, 0, 0, 0, 0, 0, 0, 0], 1) := by simp [rdR, askR, h]
theorem rdR_turn {zs : List Int} {js : List (Int × Int)} {turn : Int} (h : okM zs js = true) (k : turnOk zs turn = false) : rdR zs js turn = ([0, 0, 0, 0, 0, 0, 0, 0], 2) := by simp [rdR, askR, h, k]
theorem rdR_yes {zs : List Int} {js : List (Int × Int)} {turn : Int} (h : okM zs js = true) (k : turnOk zs turn = true) : rdR zs js turn = (dgL zs (turn / 1000), 0) := by simp [rdR, askR, h, k]
set_option maxRecDepth 100000 in
set_option maxHeartbeats 4000000 in
theorem implRightDigits_any (b n cap g m cap' : Nat) (zs : List Int) (js : List (Int × Int)) (turn : Int) (w : World) (hS : Stk w b zs) (hJ : Jst w g js) (hn : n = zs.length) (hm : m = js.length) :
    Calls Try.prog 32 #[.agg #[.slice (some ⟨b, 0, none⟩) n cap, .slice (some ⟨g, 0, none⟩) m cap'], .int .i64 turn] w fun e w' => e = .returned (.tuple #[.agg #[.int .u8 (dg (rdR zs js turn).1 0), .int .u8 (dg (rdR zs js turn).1 1), .int .u8 (dg (rdR zs js turn).1 2), .int .u8 (dg (rdR zs js turn).1 3), .int .u8 (dg (rdR zs js turn).1 4), .int .u8 (dg (rdR zs js turn).1 5), .int .u8 (dg (rdR zs js turn).1 6), .int .u8 (dg (rdR zs js turn).1 7)], .int .i64 (rdR zs js turn).2]) ∧ Below w.heap.size w w' := by
  have bel1 : Below (w.alloc (.cells #[.slice (some ⟨b, 0, none⟩) n cap, .slice (some ⟨g, 0, none⟩) m cap'] 31)).heap.size (w.alloc (.cells #[.slice (some ⟨b, 0, none⟩) n cap, .slice (some ⟨g, 0, none⟩) m cap'] 31)) (((w.alloc (.cells #[.slice (some ⟨b, 0, none⟩) n cap, .slice (some ⟨g, 0, none⟩) m cap'] 31)).alloc (.cells #[.int .i64 turn] 2)).alloc (.cells #[.int .u8 0, .int .u8 0, .int .u8 0, .int .u8 0, .int .u8 0, .int .u8 0, .int .u8 0, .int .u8 0] 48)) := ((Below.refl _ _).alloc (Nat.le_refl _) _).alloc (by simp) _
  have bel : Below w.heap.size w (((w.alloc (.cells #[.slice (some ⟨b, 0, none⟩) n cap, .slice (some ⟨g, 0, none⟩) m cap'] 31)).alloc (.cells #[.int .i64 turn] 2)).alloc (.cells #[.int .u8 0, .int .u8 0, .int .u8 0, .int .u8 0, .int .u8 0, .int .u8 0, .int .u8 0, .int .u8 0] 48)) := (((Below.refl _ w).alloc (Nat.le_refl _) _).alloc (by simp) _).alloc (by simp; omega) _
  have M0 := hid ((MoAt.new w b n cap g m cap' zs js hS hJ).keep bel1)
  have rT' := (Row.new (w.alloc (.cells #[.slice (some ⟨b, 0, none⟩) n cap, .slice (some ⟨g, 0, none⟩) m cap'] 31)) 2 [.int .i64 turn]).alloc (.cells #[.int .u8 0, .int .u8 0, .int .u8 0, .int .u8 0, .int .u8 0, .int .u8 0, .int .u8 0, .int .u8 0] 48)
  have rR' := Row.new ((w.alloc (.cells #[.slice (some ⟨b, 0, none⟩) n cap, .slice (some ⟨g, 0, none⟩) m cap'] 31)).alloc (.cells #[.int .i64 turn] 2)) 48 [.int .u8 0, .int .u8 0, .int .u8 0, .int .u8 0, .int .u8 0, .int .u8 0, .int .u8 0, .int .u8 0]
  simp only [World.size_alloc] at rT' rR'
  have rT := hid rT'
  have rR := hid rR'
  have HV := hid (implValidMotion_any b n cap g m cap' zs js _ M0.out.2.1 M0.out.2.2 hn hm)
  have hmf : ∀ (fn : Fn) (first cap : Array Value) (w : World), (Instr.makeFunc fn first cap).run Try.prog w = .ok (.func fn first cap) w := fun _ _ _ _ => rfl
  clear rT' rR' bel1
  cases hv : okM zs js with
  | false =>
    rw [rdR_no hv]
    rw [hv] at HV
    clear hS hJ hn hm hv
    go_enter Try.func32, Try.ntmps32
    go_wp2_with fail
    refine HV.out.mono ?_
    rintro e w1 ⟨rfl, hB⟩
    have hz := hB.size
    simp only [World.size_alloc] at hB hz
    have r1 := (rR.out.below hB (by omega))
    have g0 := r1.cell 0; have k0 := r1.frozen 0; have g1 := r1.cell 1; have k1 := r1.frozen 1; have g2 := r1.cell 2; have k2 := r1.frozen 2; have g3 := r1.cell 3; have k3 := r1.frozen 3; have g4 := r1.cell 4; have k4 := r1.frozen 4; have g5 := r1.cell 5; have k5 := r1.frozen 5; have g6 := r1.cell 6; have k6 := r1.frozen 6; have g7 := r1.cell 7; have k7 := r1.frozen 7
    simp only [List.getElem?_cons_zero, List.getElem?_cons_succ] at g0 g1 g2 g3 g4 g5 g6 g7
    have r2 := hid (r1.set8 rfl (.int .u8 0) (.int .u8 0) (.int .u8 0) (.int .u8 0) (.int .u8 0) (.int .u8 0) (.int .u8 0) (.int .u8 0))
    have b2 := hid (below_set8 (g := w.heap.size + 1 + 1) (bel.trans (hB.mono (by omega))) (by omega) (.int .u8 0) (.int .u8 0) (.int .u8 0) (.int .u8 0) (.int .u8 0) (.int .u8 0) (.int .u8 0) (.int .u8 0))
    clear r1
    go_wp2_with fail
    clear g0 k0 g1 k1 g2 k2 g3 k3 g4 k4 g5 k5 g6 k6 g7 k7
    obtain ⟨W, hW⟩ : ∃ W, W = ((((((((w1.setCell ⟨w.heap.size + 1 + 1, 0, none⟩ (.int .u8 0)).setCell ⟨w.heap.size + 1 + 1, 1, none⟩ (.int .u8 0)).setCell ⟨w.heap.size + 1 + 1, 2, none⟩ (.int .u8 0)).setCell ⟨w.heap.size + 1 + 1, 3, none⟩ (.int .u8 0)).setCell ⟨w.heap.size + 1 + 1, 4, none⟩ (.int .u8 0)).setCell ⟨w.heap.size + 1 + 1, 5, none⟩ (.int .u8 0)).setCell ⟨w.heap.size + 1 + 1, 6, none⟩ (.int .u8 0)).setCell ⟨w.heap.size + 1 + 1, 7, none⟩ (.int .u8 0)) := ⟨_, rfl⟩
    rw [← hW] at r2 b2 ⊢
    clear hW
    have r2 := r2.out
    have g0 := r2.cell 0; have g1 := r2.cell 1; have g2 := r2.cell 2; have g3 := r2.cell 3; have g4 := r2.cell 4; have g5 := r2.cell 5; have g6 := r2.cell 6; have g7 := r2.cell 7
    simp only [List.getElem?_cons_zero, List.getElem?_cons_succ] at g0 g1 g2 g3 g4 g5 g6 g7
    exact bodyPost_ret (v := .tuple #[.agg #[.int .u8 0, .int .u8 0, .int .u8 0, .int .u8 0, .int .u8 0, .int .u8 0, .int .u8 0, .int .u8 0], .int .i64 1]) (by simp [results, Try.results32, go_sem, g0, g1, g2, g3, g4, g5, g6, g7]) rfl ⟨rfl, b2.out⟩
  | true =>
    rw [hv] at HV
    have hv1 := (okM_out hv).1
    cases ht : turnOk zs turn with
    | false =>
      rw [rdR_turn hv ht]
      have HS := hid (fun w1 (hB : Below (w.heap.size + 1 + 1 + 1) (((w.alloc (.cells #[.slice (some ⟨b, 0, none⟩) n cap, .slice (some ⟨g, 0, none⟩) m cap'] 31)).alloc (.cells #[.int .i64 turn] 2)).alloc (.cells #[.int .u8 0, .int .u8 0, .int .u8 0, .int .u8 0, .int .u8 0, .int .u8 0, .int .u8 0, .int .u8 0] 48)) w1) => settle_pan_digs 73 #[.pointer (some ⟨w.heap.size, 0, none⟩), .pointer (some ⟨w.heap.size + 1, 0, none⟩)] turn w1 (fun _ => rfl)
        (fun w2 h2 hz2 => right1_no w.heap.size (w.heap.size + 1) b n cap g m cap' zs js turn w2 ((M0.out.keep (by simpa only [World.size_alloc] using hB)).keep h2) (by have := hB.size; simp at this; omega) (((rT.out.below hB (by omega)).below h2 (by have := hB.size; simp at this; omega)).cell 0) hn hv1 ht))
      clear hS hJ hn hm hv hv1 ht
      go_enter Try.func32, Try.ntmps32
      go_wp2_with fail
      refine HV.out.mono ?_
      rintro e w1 ⟨rfl, hB⟩
      have hz := hB.size
      simp only [World.size_alloc] at hB hz
      go_wp2_with fail
      refine (HS.out w1 hB).mono ?_
      rintro e w2 ⟨rfl, hB2⟩
      have hz2 := hB2.size
      have r1 := ((rR.out.below hB (by omega)).below hB2 (by omega))
      have g0 := r1.cell 0; have k0 := r1.frozen 0; have g1 := r1.cell 1; have k1 := r1.frozen 1; have g2 := r1.cell 2; have k2 := r1.frozen 2; have g3 := r1.cell 3; have k3 := r1.frozen 3; have g4 := r1.cell 4; have k4 := r1.frozen 4; have g5 := r1.cell 5; have k5 := r1.frozen 5; have g6 := r1.cell 6; have k6 := r1.frozen 6; have g7 := r1.cell 7; have k7 := r1.frozen 7
      simp only [List.getElem?_cons_zero, List.getElem?_cons_succ] at g0 g1 g2 g3 g4 g5 g6 g7
      have r2 := hid (r1.set8 rfl (.int .u8 0) (.int .u8 0) (.int .u8 0) (.int .u8 0) (.int .u8 0) (.int .u8 0) (.int .u8 0) (.int .u8 0))
      have b2 := hid (below_set8 (g := w.heap.size + 1 + 1) (bel.trans ((hB.mono (by omega)).trans (hB2.mono (by omega)))) (by omega) (.int .u8 0) (.int .u8 0) (.int .u8 0) (.int .u8 0) (.int .u8 0) (.int .u8 0) (.int .u8 0) (.int .u8 0))
      clear r1
      go_wp2_with fail
      clear g0 k0 g1 k1 g2 k2 g3 k3 g4 k4 g5 k5 g6 k6 g7 k7
      obtain ⟨W, hW⟩ : ∃ W, W = ((((((((w2.setCell ⟨w.heap.size + 1 + 1, 0, none⟩ (.int .u8 0)).setCell ⟨w.heap.size + 1 + 1, 1, none⟩ (.int .u8 0)).setCell ⟨w.heap.size + 1 + 1, 2, none⟩ (.int .u8 0)).setCell ⟨w.heap.size + 1 + 1, 3, none⟩ (.int .u8 0)).setCell ⟨w.heap.size + 1 + 1, 4, none⟩ (.int .u8 0)).setCell ⟨w.heap.size + 1 + 1, 5, none⟩ (.int .u8 0)).setCell ⟨w.heap.size + 1 + 1, 6, none⟩ (.int .u8 0)).setCell ⟨w.heap.size + 1 + 1, 7, none⟩ (.int .u8 0)) := ⟨_, rfl⟩
      rw [← hW] at r2 b2 ⊢
      clear hW
      have r2 := r2.out
      have g0 := r2.cell 0; have g1 := r2.cell 1; have g2 := r2.cell 2; have g3 := r2.cell 3; have g4 := r2.cell 4; have g5 := r2.cell 5; have g6 := r2.cell 6; have g7 := r2.cell 7
      simp only [List.getElem?_cons_zero, List.getElem?_cons_succ] at g0 g1 g2 g3 g4 g5 g6 g7
      exact bodyPost_ret (v := .tuple #[.agg #[.int .u8 0, .int .u8 0, .int .u8 0, .int .u8 0, .int .u8 0, .int .u8 0, .int .u8 0, .int .u8 0], .int .i64 2]) (by simp [results, Try.results32, go_sem, g0, g1, g2, g3, g4, g5, g6, g7]) rfl ⟨rfl, b2.out⟩
    | true =>
      rw [rdR_yes hv ht]
      have HS := hid (fun w1 (hB : Below (w.heap.size + 1 + 1 + 1) (((w.alloc (.cells #[.slice (some ⟨b, 0, none⟩) n cap, .slice (some ⟨g, 0, none⟩) m cap'] 31)).alloc (.cells #[.int .i64 turn] 2)).alloc (.cells #[.int .u8 0, .int .u8 0, .int .u8 0, .int .u8 0, .int .u8 0, .int .u8 0, .int .u8 0, .int .u8 0] 48)) w1) => settle_ok_digs 73 #[.pointer (some ⟨w.heap.size, 0, none⟩), .pointer (some ⟨w.heap.size + 1, 0, none⟩)] ((dg (dgL zs (turn / 1000)) 0)) ((dg (dgL zs (turn / 1000)) 1)) ((dg (dgL zs (turn / 1000)) 2)) ((dg (dgL zs (turn / 1000)) 3)) ((dg (dgL zs (turn / 1000)) 4)) ((dg (dgL zs (turn / 1000)) 5)) ((dg (dgL zs (turn / 1000)) 6)) ((dg (dgL zs (turn / 1000)) 7)) w1 (fun _ => rfl)
        (fun w2 h2 hz2 => right1_ok w.heap.size (w.heap.size + 1) b n cap g m cap' zs js turn w2 ((M0.out.keep (by simpa only [World.size_alloc] using hB)).keep h2) (by have := hB.size; simp at this; omega) (((rT.out.below hB (by omega)).below h2 (by have := hB.size; simp at this; omega)).cell 0) hn hv1 ht))
      obtain ⟨e0, he0⟩ : ∃ x, x = dg (dgL zs (turn / 1000)) 0 := ⟨_, rfl⟩
      obtain ⟨e1, he1⟩ : ∃ x, x = dg (dgL zs (turn / 1000)) 1 := ⟨_, rfl⟩
      obtain ⟨e2, he2⟩ : ∃ x, x = dg (dgL zs (turn / 1000)) 2 := ⟨_, rfl⟩
      obtain ⟨e3, he3⟩ : ∃ x, x = dg (dgL zs (turn / 1000)) 3 := ⟨_, rfl⟩
      obtain ⟨e4, he4⟩ : ∃ x, x = dg (dgL zs (turn / 1000)) 4 := ⟨_, rfl⟩
      obtain ⟨e5, he5⟩ : ∃ x, x = dg (dgL zs (turn / 1000)) 5 := ⟨_, rfl⟩
      obtain ⟨e6, he6⟩ : ∃ x, x = dg (dgL zs (turn / 1000)) 6 := ⟨_, rfl⟩
      obtain ⟨e7, he7⟩ : ∃ x, x = dg (dgL zs (turn / 1000)) 7 := ⟨_, rfl⟩
      rw [← he0, ← he1, ← he2, ← he3, ← he4, ← he5, ← he6, ← he7] at HS
      rw [← he0, ← he1, ← he2, ← he3, ← he4, ← he5, ← he6, ← he7]
      clear hS hJ hn hm hv hv1 ht he0 he1 he2 he3 he4 he5 he6 he7
      go_enter Try.func32, Try.ntmps32
      go_wp2_with fail
      refine HV.out.mono ?_
      rintro e w1 ⟨rfl, hB⟩
      have hz := hB.size
      simp only [World.size_alloc] at hB hz
      go_wp2_with fail
      refine (HS.out w1 hB).mono ?_
      rintro e w2 ⟨rfl, hB2⟩
      have hz2 := hB2.size
      have r1 := ((rR.out.below hB (by omega)).below hB2 (by omega))
      have g0 := r1.cell 0; have k0 := r1.frozen 0; have g1 := r1.cell 1; have k1 := r1.frozen 1; have g2 := r1.cell 2; have k2 := r1.frozen 2; have g3 := r1.cell 3; have k3 := r1.frozen 3; have g4 := r1.cell 4; have k4 := r1.frozen 4; have g5 := r1.cell 5; have k5 := r1.frozen 5; have g6 := r1.cell 6; have k6 := r1.frozen 6; have g7 := r1.cell 7; have k7 := r1.frozen 7
      simp only [List.getElem?_cons_zero, List.getElem?_cons_succ] at g0 g1 g2 g3 g4 g5 g6 g7
      have r2 := hid (r1.set8 rfl (.int .u8 e0) (.int .u8 e1) (.int .u8 e2) (.int .u8 e3) (.int .u8 e4) (.int .u8 e5) (.int .u8 e6) (.int .u8 e7))
      have b2 := hid (below_set8 (g := w.heap.size + 1 + 1) (bel.trans ((hB.mono (by omega)).trans (hB2.mono (by omega)))) (by omega) (.int .u8 e0) (.int .u8 e1) (.int .u8 e2) (.int .u8 e3) (.int .u8 e4) (.int .u8 e5) (.int .u8 e6) (.int .u8 e7))
      clear r1
      go_wp2_with fail
      clear g0 k0 g1 k1 g2 k2 g3 k3 g4 k4 g5 k5 g6 k6 g7 k7
      obtain ⟨W, hW⟩ : ∃ W, W = ((((((((w2.setCell ⟨w.heap.size + 1 + 1, 0, none⟩ (.int .u8 e0)).setCell ⟨w.heap.size + 1 + 1, 1, none⟩ (.int .u8 e1)).setCell ⟨w.heap.size + 1 + 1, 2, none⟩ (.int .u8 e2)).setCell ⟨w.heap.size + 1 + 1, 3, none⟩ (.int .u8 e3)).setCell ⟨w.heap.size + 1 + 1, 4, none⟩ (.int .u8 e4)).setCell ⟨w.heap.size + 1 + 1, 5, none⟩ (.int .u8 e5)).setCell ⟨w.heap.size + 1 + 1, 6, none⟩ (.int .u8 e6)).setCell ⟨w.heap.size + 1 + 1, 7, none⟩ (.int .u8 e7)) := ⟨_, rfl⟩
      rw [← hW] at r2 b2 ⊢
      clear hW
      have r2 := r2.out
      have g0 := r2.cell 0; have g1 := r2.cell 1; have g2 := r2.cell 2; have g3 := r2.cell 3; have g4 := r2.cell 4; have g5 := r2.cell 5; have g6 := r2.cell 6; have g7 := r2.cell 7
      simp only [List.getElem?_cons_zero, List.getElem?_cons_succ] at g0 g1 g2 g3 g4 g5 g6 g7
      exact bodyPost_ret (v := .tuple #[.agg #[.int .u8 e0, .int .u8 e1, .int .u8 e2, .int .u8 e3, .int .u8 e4, .int .u8 e5, .int .u8 e6, .int .u8 e7], .int .i64 0]) (by simp [results, Try.results32, go_sem, g0, g1, g2, g3, g4, g5, g6, g7]) rfl ⟨rfl, b2.out⟩

set_option maxRecDepth 100000 in
set_option maxHeartbeats 4000000 in
theorem specRightDigits_any (b n cap g m cap' : Nat) (zs : List Int) (js : List (Int × Int)) (turn : Int) (w : World) (hS : Stk w b zs) (hJ : Jst w g js) (hn : n = zs.length) (hm : m = js.length) (hcap : n ≤ cap) (hb : ∀ j, j < js.length → (-128 ≤ jk js j ∧ jk js j ≤ 127) ∧ (-32768 ≤ jf js j ∧ jf js j ≤ 32767)) :
    Calls Try.prog 31 #[.agg #[.slice (some ⟨b, 0, none⟩) n cap, .slice (some ⟨g, 0, none⟩) m cap'], .int .i64 turn] w fun e w' => e = .returned (.tuple #[.agg #[.int .u8 (dg (rdR zs js turn).1 0), .int .u8 (dg (rdR zs js turn).1 1), .int .u8 (dg (rdR zs js turn).1 2), .int .u8 (dg (rdR zs js turn).1 3), .int .u8 (dg (rdR zs js turn).1 4), .int .u8 (dg (rdR zs js turn).1 5), .int .u8 (dg (rdR zs js turn).1 6), .int .u8 (dg (rdR zs js turn).1 7)], .int .i64 (rdR zs js turn).2]) ∧ Below w.heap.size w w' := by
  have bel1 : Below (w.alloc (.cells #[.slice (some ⟨b, 0, none⟩) n cap, .slice (some ⟨g, 0, none⟩) m cap'] 31)).heap.size (w.alloc (.cells #[.slice (some ⟨b, 0, none⟩) n cap, .slice (some ⟨g, 0, none⟩) m cap'] 31)) ((w.alloc (.cells #[.slice (some ⟨b, 0, none⟩) n cap, .slice (some ⟨g, 0, none⟩) m cap'] 31)).alloc (.cells #[.int .u8 0, .int .u8 0, .int .u8 0, .int .u8 0, .int .u8 0, .int .u8 0, .int .u8 0, .int .u8 0] 48)) := (Below.refl _ _).alloc (Nat.le_refl _) _
  have bel : Below w.heap.size w ((w.alloc (.cells #[.slice (some ⟨b, 0, none⟩) n cap, .slice (some ⟨g, 0, none⟩) m cap'] 31)).alloc (.cells #[.int .u8 0, .int .u8 0, .int .u8 0, .int .u8 0, .int .u8 0, .int .u8 0, .int .u8 0, .int .u8 0] 48)) := ((Below.refl _ w).alloc (Nat.le_refl _) _).alloc (by simp) _
  have M0 := hid ((MoAt.new w b n cap g m cap' zs js hS hJ).keep bel1)
  have rR' := Row.new (w.alloc (.cells #[.slice (some ⟨b, 0, none⟩) n cap, .slice (some ⟨g, 0, none⟩) m cap'] 31)) 48 [.int .u8 0, .int .u8 0, .int .u8 0, .int .u8 0, .int .u8 0, .int .u8 0, .int .u8 0, .int .u8 0]
  simp only [World.size_alloc] at rR'
  have rR := hid rR'
  have HA := hid (l02Asked_any w.heap.size b n cap g m cap' zs js turn _ M0.out hn hm hb)
  clear rR' bel1
  cases hv : okM zs js with
  | false =>
    rw [rdR_no hv]
    rw [show askR zs js turn = 1 from by simp [askR, hv]] at HA
    clear hS hJ hn hm hv hb
    go_enter Try.func31, Try.ntmps31
    go_wp2_with fail
    refine HA.out.mono ?_
    rintro e w1 ⟨rfl, hB⟩
    have hz := hB.size
    simp only [World.size_alloc] at hB hz
    have r1 := (rR.out.below hB (by omega))
    have g0 := r1.cell 0; have k0 := r1.frozen 0; have g1 := r1.cell 1; have k1 := r1.frozen 1; have g2 := r1.cell 2; have k2 := r1.frozen 2; have g3 := r1.cell 3; have k3 := r1.frozen 3; have g4 := r1.cell 4; have k4 := r1.frozen 4; have g5 := r1.cell 5; have k5 := r1.frozen 5; have g6 := r1.cell 6; have k6 := r1.frozen 6; have g7 := r1.cell 7; have k7 := r1.frozen 7
    simp only [List.getElem?_cons_zero, List.getElem?_cons_succ] at g0 g1 g2 g3 g4 g5 g6 g7
    have r2 := hid (r1.set8 rfl (.int .u8 0) (.int .u8 0) (.int .u8 0) (.int .u8 0) (.int .u8 0) (.int .u8 0) (.int .u8 0) (.int .u8 0))
    have b2 := hid (below_set8 (g := w.heap.size + 1) (bel.trans (hB.mono (by omega))) (by omega) (.int .u8 0) (.int .u8 0) (.int .u8 0) (.int .u8 0) (.int .u8 0) (.int .u8 0) (.int .u8 0) (.int .u8 0))
    clear r1
    go_wp2_with fail
    clear g0 k0 g1 k1 g2 k2 g3 k3 g4 k4 g5 k5 g6 k6 g7 k7
    obtain ⟨W, hW⟩ : ∃ W, W = ((((((((w1.setCell ⟨w.heap.size + 1, 0, none⟩ (.int .u8 0)).setCell ⟨w.heap.size + 1, 1, none⟩ (.int .u8 0)).setCell ⟨w.heap.size + 1, 2, none⟩ (.int .u8 0)).setCell ⟨w.heap.size + 1, 3, none⟩ (.int .u8 0)).setCell ⟨w.heap.size + 1, 4, none⟩ (.int .u8 0)).setCell ⟨w.heap.size + 1, 5, none⟩ (.int .u8 0)).setCell ⟨w.heap.size + 1, 6, none⟩ (.int .u8 0)).setCell ⟨w.heap.size + 1, 7, none⟩ (.int .u8 0)) := ⟨_, rfl⟩
    rw [← hW] at r2 b2 ⊢
    clear hW
    have r2 := r2.out
    have g0 := r2.cell 0; have g1 := r2.cell 1; have g2 := r2.cell 2; have g3 := r2.cell 3; have g4 := r2.cell 4; have g5 := r2.cell 5; have g6 := r2.cell 6; have g7 := r2.cell 7
    simp only [List.getElem?_cons_zero, List.getElem?_cons_succ] at g0 g1 g2 g3 g4 g5 g6 g7
    exact bodyPost_ret (v := .tuple #[.agg #[.int .u8 0, .int .u8 0, .int .u8 0, .int .u8 0, .int .u8 0, .int .u8 0, .int .u8 0, .int .u8 0], .int .i64 1]) (by simp [results, Try.results31, go_sem, g0, g1, g2, g3, g4, g5, g6, g7]) rfl ⟨rfl, b2.out⟩
  | true =>
    have hv1 := (okM_out hv).1
    cases ht : turnOk zs turn with
    | false =>
      rw [rdR_turn hv ht]
      rw [show askR zs js turn = 2 from by simp [askR, hv, ht]] at HA
      clear hS hJ hn hm hv hb hv1 ht
      go_enter Try.func31, Try.ntmps31
      go_wp2_with fail
      refine HA.out.mono ?_
      rintro e w1 ⟨rfl, hB⟩
      have hz := hB.size
      simp only [World.size_alloc] at hB hz
      have r1 := (rR.out.below hB (by omega))
      have g0 := r1.cell 0; have k0 := r1.frozen 0; have g1 := r1.cell 1; have k1 := r1.frozen 1; have g2 := r1.cell 2; have k2 := r1.frozen 2; have g3 := r1.cell 3; have k3 := r1.frozen 3; have g4 := r1.cell 4; have k4 := r1.frozen 4; have g5 := r1.cell 5; have k5 := r1.frozen 5; have g6 := r1.cell 6; have k6 := r1.frozen 6; have g7 := r1.cell 7; have k7 := r1.frozen 7
      simp only [List.getElem?_cons_zero, List.getElem?_cons_succ] at g0 g1 g2 g3 g4 g5 g6 g7
      have r2 := hid (r1.set8 rfl (.int .u8 0) (.int .u8 0) (.int .u8 0) (.int .u8 0) (.int .u8 0) (.int .u8 0) (.int .u8 0) (.int .u8 0))
      have b2 := hid (below_set8 (g := w.heap.size + 1) (bel.trans (hB.mono (by omega))) (by omega) (.int .u8 0) (.int .u8 0) (.int .u8 0) (.int .u8 0) (.int .u8 0) (.int .u8 0) (.int .u8 0) (.int .u8 0))
      clear r1
      go_wp2_with fail
      clear g0 k0 g1 k1 g2 k2 g3 k3 g4 k4 g5 k5 g6 k6 g7 k7
      obtain ⟨W, hW⟩ : ∃ W, W = ((((((((w1.setCell ⟨w.heap.size + 1, 0, none⟩ (.int .u8 0)).setCell ⟨w.heap.size + 1, 1, none⟩ (.int .u8 0)).setCell ⟨w.heap.size + 1, 2, none⟩ (.int .u8 0)).setCell ⟨w.heap.size + 1, 3, none⟩ (.int .u8 0)).setCell ⟨w.heap.size + 1, 4, none⟩ (.int .u8 0)).setCell ⟨w.heap.size + 1, 5, none⟩ (.int .u8 0)).setCell ⟨w.heap.size + 1, 6, none⟩ (.int .u8 0)).setCell ⟨w.heap.size + 1, 7, none⟩ (.int .u8 0)) := ⟨_, rfl⟩
      rw [← hW] at r2 b2 ⊢
      clear hW
      have r2 := r2.out
      have g0 := r2.cell 0; have g1 := r2.cell 1; have g2 := r2.cell 2; have g3 := r2.cell 3; have g4 := r2.cell 4; have g5 := r2.cell 5; have g6 := r2.cell 6; have g7 := r2.cell 7
      simp only [List.getElem?_cons_zero, List.getElem?_cons_succ] at g0 g1 g2 g3 g4 g5 g6 g7
      exact bodyPost_ret (v := .tuple #[.agg #[.int .u8 0, .int .u8 0, .int .u8 0, .int .u8 0, .int .u8 0, .int .u8 0, .int .u8 0, .int .u8 0], .int .i64 2]) (by simp [results, Try.results31, go_sem, g0, g1, g2, g3, g4, g5, g6, g7]) rfl ⟨rfl, b2.out⟩
    | true =>
      rw [rdR_yes hv ht]
      rw [show askR zs js turn = 0 from by simp [askR, hv, ht]] at HA
      have tb := turnOk_out ht
      have sb := spanL_bd hv1
      have HD := hid (fun w1 (h : Stk w1 b zs) => specDigitsOf_any b n cap zs (turn / 1000) w1 h hn hcap)
      have t0 := Int.ediv_nonneg tb.1 (show (0 : Int) ≤ 1000 by decide)
      have hd := dofR_yes (turn / 1000) hv1 (by unfold spanL at tb; omega)
      rw [hd] at HD
      obtain ⟨e0, he0⟩ : ∃ x, x = dg (dgL zs (turn / 1000)) 0 := ⟨_, rfl⟩
      obtain ⟨e1, he1⟩ : ∃ x, x = dg (dgL zs (turn / 1000)) 1 := ⟨_, rfl⟩
      obtain ⟨e2, he2⟩ : ∃ x, x = dg (dgL zs (turn / 1000)) 2 := ⟨_, rfl⟩
      obtain ⟨e3, he3⟩ : ∃ x, x = dg (dgL zs (turn / 1000)) 3 := ⟨_, rfl⟩
      obtain ⟨e4, he4⟩ : ∃ x, x = dg (dgL zs (turn / 1000)) 4 := ⟨_, rfl⟩
      obtain ⟨e5, he5⟩ : ∃ x, x = dg (dgL zs (turn / 1000)) 5 := ⟨_, rfl⟩
      obtain ⟨e6, he6⟩ : ∃ x, x = dg (dgL zs (turn / 1000)) 6 := ⟨_, rfl⟩
      obtain ⟨e7, he7⟩ : ∃ x, x = dg (dgL zs (turn / 1000)) 7 := ⟨_, rfl⟩
      have HD : Hid (∀ (w1 : World), Stk w1 b zs → Calls Try.prog 71 #[.slice (some ⟨b, 0, none⟩) n cap, .int .i64 (turn / 1000)] w1 fun e w' => e = .returned (.tuple #[.agg #[.int .u8 (dg (dgL zs (turn / 1000)) 0), .int .u8 (dg (dgL zs (turn / 1000)) 1), .int .u8 (dg (dgL zs (turn / 1000)) 2), .int .u8 (dg (dgL zs (turn / 1000)) 3), .int .u8 (dg (dgL zs (turn / 1000)) 4), .int .u8 (dg (dgL zs (turn / 1000)) 5), .int .u8 (dg (dgL zs (turn / 1000)) 6), .int .u8 (dg (dgL zs (turn / 1000)) 7)], .int .i64 0]) ∧ Below w1.heap.size w1 w') := HD
      rw [← he0, ← he1, ← he2, ← he3, ← he4, ← he5, ← he6, ← he7] at HD
      rw [← he0, ← he1, ← he2, ← he3, ← he4, ← he5, ← he6, ← he7]
      have h1 := tb.1
      have h2 : turn ≤ 1000000000000000 := by omega
      clear hS hJ hn hm hv hb hv1 ht he0 he1 he2 he3 he4 he5 he6 he7 hd tb sb
      go_enter Try.func31, Try.ntmps31
      go_wp2_with fail
      refine HA.out.mono ?_
      rintro e w1 ⟨rfl, hB⟩
      have hz := hB.size
      simp only [World.size_alloc] at hB hz
      have M1 := hid (M0.out.keep (by simpa only [World.size_alloc] using hB))
      obtain ⟨c0, c1⟩ := M1.out.cells
      go_wp2_with fail
      refine (HD.out w1 M1.out.2.1).mono ?_
      rintro e w2 ⟨rfl, hB2⟩
      have hz2 := hB2.size
      clear c0 c1
      have r1 := ((rR.out.below hB (by omega)).below hB2 (by omega))
      have g0 := r1.cell 0; have k0 := r1.frozen 0; have g1 := r1.cell 1; have k1 := r1.frozen 1; have g2 := r1.cell 2; have k2 := r1.frozen 2; have g3 := r1.cell 3; have k3 := r1.frozen 3; have g4 := r1.cell 4; have k4 := r1.frozen 4; have g5 := r1.cell 5; have k5 := r1.frozen 5; have g6 := r1.cell 6; have k6 := r1.frozen 6; have g7 := r1.cell 7; have k7 := r1.frozen 7
      simp only [List.getElem?_cons_zero, List.getElem?_cons_succ] at g0 g1 g2 g3 g4 g5 g6 g7
      have r2 := hid (r1.set8 rfl (.int .u8 e0) (.int .u8 e1) (.int .u8 e2) (.int .u8 e3) (.int .u8 e4) (.int .u8 e5) (.int .u8 e6) (.int .u8 e7))
      have b2 := hid (below_set8 (g := w.heap.size + 1) (bel.trans ((hB.mono (by omega)).trans (hB2.mono (by omega)))) (by omega) (.int .u8 e0) (.int .u8 e1) (.int .u8 e2) (.int .u8 e3) (.int .u8 e4) (.int .u8 e5) (.int .u8 e6) (.int .u8 e7))
      clear r1
      go_wp2_with fail
      clear g0 k0 g1 k1 g2 k2 g3 k3 g4 k4 g5 k5 g6 k6 g7 k7
      obtain ⟨W, hW⟩ : ∃ W, W = ((((((((w2.setCell ⟨w.heap.size + 1, 0, none⟩ (.int .u8 e0)).setCell ⟨w.heap.size + 1, 1, none⟩ (.int .u8 e1)).setCell ⟨w.heap.size + 1, 2, none⟩ (.int .u8 e2)).setCell ⟨w.heap.size + 1, 3, none⟩ (.int .u8 e3)).setCell ⟨w.heap.size + 1, 4, none⟩ (.int .u8 e4)).setCell ⟨w.heap.size + 1, 5, none⟩ (.int .u8 e5)).setCell ⟨w.heap.size + 1, 6, none⟩ (.int .u8 e6)).setCell ⟨w.heap.size + 1, 7, none⟩ (.int .u8 e7)) := ⟨_, rfl⟩
      rw [← hW] at r2 b2 ⊢
      clear hW
      have r2 := r2.out
      have g0 := r2.cell 0; have g1 := r2.cell 1; have g2 := r2.cell 2; have g3 := r2.cell 3; have g4 := r2.cell 4; have g5 := r2.cell 5; have g6 := r2.cell 6; have g7 := r2.cell 7
      simp only [List.getElem?_cons_zero, List.getElem?_cons_succ] at g0 g1 g2 g3 g4 g5 g6 g7
      exact bodyPost_ret (v := .tuple #[.agg #[.int .u8 e0, .int .u8 e1, .int .u8 e2, .int .u8 e3, .int .u8 e4, .int .u8 e5, .int .u8 e6, .int .u8 e7], .int .i64 0]) (by simp [results, Try.results31, go_sem, g0, g1, g2, g3, g4, g5, g6, g7]) rfl ⟨rfl, b2.out⟩
end Go.Proofs.Ytjpiobcilpjfeaa
