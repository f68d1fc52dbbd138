/- MovingWheels: the program's. -/
import Derived.Test.YtnblflafmmllgaaMwC
namespace Go.Proofs.Ytnblflafmmllgaa
open Go.RowKit
set_option linter.unusedVariables false
set_option linter.unusedSimpArgs false
set_option maxHeartbeats 1000000 in
theorem moving1_no (B p : Nat) (b n cap g m cap' : Nat) (zs : List Int) (js : List (Int × Int)) (turn : Int) (w : World) (hM : MoAt w B b n cap g m cap' zs js) (hp : p < w.heap.size) (cp : w.cell? ⟨p, 0, none⟩ = some (.int .i64 turn)) (hn : n = zs.length) (hv : okL zs = true) (ht : turnOk zs turn = false) :
    Calls Try.prog 34 #[.pointer (some ⟨B, 0, none⟩), .pointer (some ⟨p, 0, none⟩)] w fun e w' => e = .panicked [{ v := .iface 102 (.int .i64 turn), recovered := false }] ∧ Below w.heap.size w w' := by
  have bel : Below w.heap.size w w := Below.refl _ w
  have M0 := hid (hM.keep bel)
  obtain ⟨c0, c1⟩ := (hM.keep bel).cells
  have cp0 := (bel.cell (p := ⟨p, 0, none⟩) hp).trans cp
  have HT := hid (fun w1 (h : Stk w1 b zs) => moTurn_no b n cap g m cap' zs js turn w1 h hn hv ht)
  clear hM cp hn hv ht
  go_enter Try.func34, Try.ntmps34
  go_wp2_with fail
  refine wp_region_held (S := fun W' => W'.cell? ⟨B, 0, none⟩ = some (.slice (some ⟨b, 0, none⟩) n cap) ∧ W'.cell? ⟨B, 1, none⟩ = some (.slice (some ⟨g, 0, none⟩) m cap') ∧ W'.cell? ⟨p, 0, none⟩ = some (.int .i64 turn)) (by kernel_rfl) ?_
  change wpAnyH _ _ _ _ _ _ _ _ (World.drew _)
  have hS : (fun W' : World => W'.cell? ⟨B, 0, none⟩ = some (.slice (some ⟨b, 0, none⟩) n cap) ∧ W'.cell? ⟨B, 1, none⟩ = some (.slice (some ⟨g, 0, none⟩) m cap') ∧ W'.cell? ⟨p, 0, none⟩ = some (.int .i64 turn)) w.drew := ⟨c0, c1, cp0⟩
  refine wpAnyH_take (i := 0) (v := .agg #[.slice (some ⟨b, 0, none⟩) n cap, .slice (some ⟨g, 0, none⟩) m cap']) rfl (by kernel_rfl) (by kernel_rfl) (by kernel_rfl) (fun _ _ _ h => h) (.inl ⟨by rfl, ?_⟩) hS ?_
  · intro w' hw'; obtain ⟨hw1, hw2, hw3⟩ := hw'; go_simp; try with_reducible rfl
  simp only [Act.put, List.setIfInBounds_toArray, List.set_cons_zero, List.set_cons_succ]
  refine wpAnyH_take (i := 1) (v := .agg #[.slice (some ⟨b, 0, none⟩) n cap, .slice (some ⟨g, 0, none⟩) m cap']) rfl (by kernel_rfl) (by kernel_rfl) (by kernel_rfl) (fun _ _ _ h => h) (.inl ⟨by rfl, ?_⟩) hS ?_
  · intro w' hw'; obtain ⟨hw1, hw2, hw3⟩ := hw'; go_simp; try with_reducible rfl
  simp only [Act.put, List.setIfInBounds_toArray, List.set_cons_zero, List.set_cons_succ]
  refine wpAnyH_take (i := 2) (v := .int .i64 turn) rfl (by kernel_rfl) (by kernel_rfl) (by kernel_rfl) (fun _ _ _ h => h) (.inl ⟨by rfl, ?_⟩) hS ?_
  · intro w' hw'; obtain ⟨hw1, hw2, hw3⟩ := hw'; go_simp; try with_reducible rfl
  simp only [Act.put, List.setIfInBounds_toArray, List.set_cons_zero, List.set_cons_succ]
  refine wpAnyH_take (i := 6) (v := .int .i64 0) rfl (by kernel_rfl) (by kernel_rfl) (by kernel_rfl) (fun _ _ _ h => h) (.inl ⟨by rfl, ?_⟩) hS ?_
  · intro w' hw'; obtain ⟨hw1, hw2, hw3⟩ := hw'; go_simp; try with_reducible rfl
  simp only [Act.put, List.setIfInBounds_toArray, List.set_cons_zero, List.set_cons_succ]
  refine wpAnyH_all (rs := [3]) (by kernel_rfl) (by simp) ?_
  intro i hi; simp only [List.mem_singleton] at hi; subst hi
  refine wpOp_step rfl (fun K hK => ?_)
  go_simp
  refine (HT.out w.drew M0.out.2.1).mono ?_
  rintro e w' ⟨rfl, hB⟩
  exact ⟨rfl, rfl, (bel.drew).trans (hB.mono (by simp))⟩
def mwR (zs : List Int) (js : List (Int × Int)) (turn : Int) : List Int × Int := if askR zs js turn = 0 then (movE (partsL zs js turn) 8, 0) else ([], askR zs js turn)
theorem mwR_no {zs : List Int} {js : List (Int × Int)} {turn : Int} (h : okM zs js = false) : mwR zs js turn = ([], 1) := by simp [mwR, askR, h]
theorem mwR_turn {zs : List Int} {js : List (Int × Int)} {turn : Int} (h : okM zs js = true) (k : turnOk zs turn = false) : mwR zs js turn = ([], 2) := by simp [mwR, askR, h, k]
theorem mwR_yes {zs : List Int} {js : List (Int × Int)} {turn : Int} (h : okM zs js = true) (k : turnOk zs turn = true) : mwR zs js turn = (movE (partsL zs js turn) 8, 0) := by simp [mwR, askR, h, k]
set_option maxRecDepth 100000 in
set_option maxHeartbeats 4000000 in
theorem implMoving_any (b n cap g m cap' : Nat) (zs : List Int) (js : List (Int × Int)) (turn : Int) (w : World) (hS : Stk w b zs) (hJ : Jst w g js) (hn : n = zs.length) (hm : m = js.length) :
    Calls Try.prog 15 #[.agg #[.slice (some ⟨b, 0, none⟩) n cap, .slice (some ⟨g, 0, none⟩) m cap'], .int .i64 turn] w fun e w' => ∃ x, e = .returned (.tuple #[x, .int .i64 (mwR zs js turn).2]) ∧ OwnI w' w.heap.size x (mwR zs js turn).1 ∧ Below w.heap.size w w' := by
  have bel1 : Below (w.alloc (.cells #[.slice (some ⟨b, 0, none⟩) n cap, .slice (some ⟨g, 0, none⟩) m cap'] 33)).heap.size (w.alloc (.cells #[.slice (some ⟨b, 0, none⟩) n cap, .slice (some ⟨g, 0, none⟩) m cap'] 33)) ((w.alloc (.cells #[.slice (some ⟨b, 0, none⟩) n cap, .slice (some ⟨g, 0, none⟩) m cap'] 33)).alloc (.cells #[.int .i64 turn] 2)) := (Below.refl _ _).alloc (Nat.le_refl _) _
  have bel : Below w.heap.size w ((w.alloc (.cells #[.slice (some ⟨b, 0, none⟩) n cap, .slice (some ⟨g, 0, none⟩) m cap'] 33)).alloc (.cells #[.int .i64 turn] 2)) := ((Below.refl _ w).alloc (Nat.le_refl _) _).alloc (by simp) _
  have M0 := hid ((MoAt.new w b n cap g m cap' zs js hS hJ).keep bel1)
  have rT' := Row.new (w.alloc (.cells #[.slice (some ⟨b, 0, none⟩) n cap, .slice (some ⟨g, 0, none⟩) m cap'] 33)) 2 [.int .i64 turn]
  simp only [World.size_alloc] at rT'
  have rT := hid rT'
  have HV := hid (implValidMotion_any b n cap g m cap' zs js _ M0.out.2.1 M0.out.2.2 hn hm)
  have hmf : ∀ (fn : Fn) (first cap : Array Value) (w : World), (Instr.makeFunc fn first cap).run Try.prog w = .ok (.func fn first cap) w := fun _ _ _ _ => rfl
  clear rT' bel1
  cases hv : okM zs js with
  | false =>
    rw [mwR_no hv]
    rw [hv] at HV
    clear hS hJ hn hm hv
    go_enter Try.func15, Try.ntmps15
    go_wp2_with fail
    refine HV.out.mono ?_
    rintro e w1 ⟨rfl, hB⟩
    simp only [World.size_alloc] at hB
    have b2 := hid (bel.trans (hB.mono (by omega)))
    clear hB
    go_wp2_with fail
    go_ret2
    exact ⟨_, rfl, OwnI.nil _ _ _ _, b2.out⟩
  | true =>
    rw [hv] at HV
    have hv1 := (okM_out hv).1
    cases ht : turnOk zs turn with
    | false =>
      rw [mwR_turn hv ht]
      have HS := hid (fun w1 (hB : Below (w.heap.size + 1 + 1) ((w.alloc (.cells #[.slice (some ⟨b, 0, none⟩) n cap, .slice (some ⟨g, 0, none⟩) m cap'] 33)).alloc (.cells #[.int .i64 turn] 2)) w1) => settle_pan_ints 34 #[.pointer (some ⟨w.heap.size, 0, none⟩), .pointer (some ⟨w.heap.size + 1, 0, none⟩)] turn w1 (fun _ => rfl)
        (fun w2 h2 hz2 => moving1_no w.heap.size (w.heap.size + 1) b n cap g m cap' zs js turn w2 ((M0.out.keep (by simpa only [World.size_alloc] using hB)).keep h2) (by have := hB.size; simp at this; omega) (((rT.out.below hB (by omega)).below h2 (by have := hB.size; simp at this; omega)).cell 0) hn hv1 ht))
      clear hS hJ hn hm hv hv1 ht
      go_enter Try.func15, Try.ntmps15
      go_wp2_with fail
      refine HV.out.mono ?_
      rintro e w1 ⟨rfl, hB⟩
      have hz := hB.size
      simp only [World.size_alloc] at hB hz
      go_wp2_with fail
      refine (HS.out w1 hB).mono ?_
      rintro e w2 ⟨rfl, hB2⟩
      have b2 := hid (bel.trans ((hB.mono (by omega)).trans (hB2.mono (by omega))))
      clear hB hB2
      go_wp2_with fail
      go_ret2
      exact ⟨_, rfl, OwnI.nil _ _ _ _, b2.out⟩
    | true =>
      rw [mwR_yes hv ht]
      have HS := hid (fun w1 (hB : Below (w.heap.size + 1 + 1) ((w.alloc (.cells #[.slice (some ⟨b, 0, none⟩) n cap, .slice (some ⟨g, 0, none⟩) m cap'] 33)).alloc (.cells #[.int .i64 turn] 2)) w1) => settle_ok_ints 34 #[.pointer (some ⟨w.heap.size, 0, none⟩), .pointer (some ⟨w.heap.size + 1, 0, none⟩)] (movE (partsL zs js turn) 8) w1 (fun _ => rfl)
        (by
          have h2 : Below w1.heap.size w1 (w1.alloc (.cells #[.int .i64 1] 2)) := (Below.refl _ w1).alloc (Nat.le_refl _) _
          have hs : w.heap.size + 1 + 1 ≤ w1.heap.size := by have := hB.size; simp at this; omega
          have := moving1_ok w.heap.size (w.heap.size + 1) b n cap g m cap' zs js turn (w1.alloc (.cells #[.int .i64 1] 2)) ((M0.out.keep (by simpa only [World.size_alloc] using hB)).keep h2) (by simp; omega) (((rT.out.below hB (by omega)).below h2 (by omega)).cell 0) hn hm hv hv1 ht
          simpa only [World.size_alloc] using this))
      obtain ⟨E, hE⟩ : ∃ E, movE (partsL zs js turn) 8 = E := ⟨_, rfl⟩
      rw [hE] at HS ⊢
      clear hS hJ hn hm hv hv1 ht hE
      go_enter Try.func15, Try.ntmps15
      go_wp2_with fail
      refine HV.out.mono ?_
      rintro e w1 ⟨rfl, hB⟩
      have hz := hB.size
      simp only [World.size_alloc] at hB hz
      go_wp2_with fail
      refine (HS.out w1 hB).mono ?_
      rintro e w2 ⟨x, rfl, hO, hB2⟩
      have O2 := hid (hO.base (b' := w.heap.size) (by omega))
      have b2 := hid (bel.trans ((hB.mono (by omega)).trans (hB2.mono (by omega))))
      clear hB hB2 hO
      go_wp2_with fail
      go_ret2
      exact ⟨_, rfl, O2.out, b2.out⟩
end Go.Proofs.Ytnblflafmmllgaa
