/- Ratios that a call has made, from an offset on: compared, written over, looked at. -/
import Derived.Test.YtgkinoibidkicaaTvR
import Derived.OwnWalk
import Derived.Deep.QuietTactic
import Derived.Deep.RegionHeld3
import Derived.OrdersHeld
import Derived.Test.YtgkinoibidkicaaRatio
namespace Go.Proofs.Ytgkinoibidkicaa
open Go.RowKit
set_option linter.unusedVariables false
/-- v is the train js, in a block of its own from base on -/
def OwnV (w : World) (base : Nat) (v : Value) (js : List (Int × Int)) : Prop :=
  ∃ a cap, v = .slice a js.length cap ∧ js.length ≤ 1000000000 ∧ (js = [] ∨ ∃ g pre rest, a = some ⟨g, List.length pre, none⟩ ∧ base ≤ g ∧ Row w g 27 (pre ++ (tvals js ++ rest)))
theorem OwnV.of_owns {w : World} {base n : Nat} {v : Value} {js : List (Int × Int)} (h : w.ownsRow base 27 2 v n (tvals js)) (hl : js.length ≤ 1000000000) : OwnV w base v js := by
  have hn : n = js.length := by have := h.1; rw [tvals_len] at this; omega
  rcases h.2 with ⟨rfl, h0⟩ | ⟨g, cap, cur, rfl, h2, h3, h4, h5, h6, h7⟩
  · have : js = [] := List.length_eq_zero_iff.1 (by omega)
    subst this
    exact ⟨none, 0, rfl, by simp, .inl rfl⟩
  · refine ⟨some ⟨g, 0, none⟩, cap, by rw [hn], hl, .inr ⟨g, [], cur.toList.drop (n * 2), rfl, h2, ?_⟩⟩
    unfold Row
    rw [h3, List.nil_append, ← h7, List.take_append_drop]
theorem OwnV.nil (w : World) (base : Nat) (a : Option Addr) (cap : Nat) : OwnV w base (.slice a 0 cap) [] := ⟨a, cap, rfl, by simp, .inl rfl⟩
theorem OwnV.keep {w w' : World} {base : Nat} {v : Value} {js : List (Int × Int)} (h : OwnV w base v js) (hb : Below w.heap.size w w') : OwnV w' base v js := by
  obtain ⟨a, cap, h1, h2, h3⟩ := h
  refine ⟨a, cap, h1, h2, ?_⟩
  rcases h3 with h0 | ⟨g, pre, rest, e, hg, hr⟩
  · exact .inl h0
  · exact .inr ⟨g, pre, rest, e, hg, hr.below hb hr.lt⟩
/-- what is written from k on leaves it, if it had been made before -/
theorem OwnV.low {w w1 w' : World} {base k : Nat} {v : Value} {js : List (Int × Int)} (h : OwnV w base v js) (hw : Below w.heap.size w w1) (hk : w.heap.size ≤ k) (hb : Below k w1 w') : OwnV w' base v js := by
  obtain ⟨a, cap, h1, h2, h3⟩ := h
  refine ⟨a, cap, h1, h2, ?_⟩
  rcases h3 with h0 | ⟨g, pre, rest, e, hg, hr⟩
  · exact .inl h0
  · exact .inr ⟨g, pre, rest, e, hg, (hr.below hw hr.lt).below hb (Nat.lt_of_lt_of_le hr.lt hk)⟩
theorem OwnV.cells {w : World} {g o : Nat} {js : List (Int × Int)} {pre rest : List Value} (h : Row w g 27 (pre ++ (tvals js ++ rest))) (ho : pre.length = o) (j : Nat) (hj : j < js.length) :
    w.cell? ⟨g, o + j * 2, none⟩ = some (.int .i64 (rd js j)) ∧ w.cell? ⟨g, o + j * 2 + 1, none⟩ = some (.int .i64 (rv js j)) := by
  subst ho
  constructor
  · rw [h.cell, List.getElem?_append_right (by omega), Nat.add_sub_cancel_left]; exact (tvals_get js rest j hj).1
  · rw [h.cell, List.getElem?_append_right (by omega), show pre.length + j * 2 + 1 - pre.length = j * 2 + 1 by omega]; exact (tvals_get js rest j hj).2
theorem set_pre (pre L : List Value) (o i : Nat) (u : Value) (ho : pre.length = o) : (pre ++ L).set (o + i) u = pre ++ L.set i u := by
  subst ho
  rw [List.set_append_right _ _ (by omega), Nat.add_sub_cancel_left]
set_option maxHeartbeats 1000000 in
theorem eqV_nil (a1 a2 : Option Addr) (c1 c2 : Nat) (w : World) : Calls Try.prog 7 #[.slice a1 0 c1, .slice a2 0 c2] w (GivesB w (.bool true)) := by
  go_enter Try.func7, Try.ntmps7
  go_wp2_with fail
  refine wp_loop_rounds 1 ?_
  rw [rounds_succ]
  go_wp2_with fail
  go_ret
  exact ⟨rfl, Below.refl _ _⟩
set_option maxHeartbeats 1000000 in
theorem eqV_same (b1 o1 b2 o2 n c1 c2 : Nat) (js : List (Int × Int)) (w : World) (hb1 : b1 < w.heap.size) (h1 : ∀ j, j < js.length → w.cell? ⟨b1, o1 + j * 2, none⟩ = some (.int .i64 (rd js j)) ∧ w.cell? ⟨b1, o1 + j * 2 + 1, none⟩ = some (.int .i64 (rv js j))) (hb2 : b2 < w.heap.size) (h2 : ∀ j, j < js.length → w.cell? ⟨b2, o2 + j * 2, none⟩ = some (.int .i64 (rd js j)) ∧ w.cell? ⟨b2, o2 + j * 2 + 1, none⟩ = some (.int .i64 (rv js j))) (hl : js.length ≤ 1000000000) (hn : n = js.length) :
    Calls Try.prog 7 #[.slice (some ⟨b1, o1, none⟩) n c1, .slice (some ⟨b2, o2, none⟩) n c2] w fun e w' => e = .returned (.bool true) ∧ Below w.heap.size w w' := by
  have hC1 := hid h1
  have hC2 := hid h2
  have hN := hid hn
  rw [← hn] at hl
  clear h1 h2 hn
  have hne : ((n : Int) != (n : Int)) = false := by simp
  go_enter Try.func7, Try.ntmps7
  go_wp2
  go_loopw [5] (fun i wr => ∃ k : Nat, k ≤ n ∧ i = .int .i64 k ∧ Below w.heap.size w wr) (fun i _ => n - (intOf i).toNat)
  case atStart => exact ⟨0, Nat.zero_le _, rfl, Below.refl _ _⟩
  case round =>
    obtain ⟨k, hk, rfl, hB⟩ := hrel
    by_cases hlt : k < n
    · have x1 := (hB.cell (p := ⟨b1, o1 + k * 2, none⟩) hb1).trans (hC1.out k (by rw [← hN.out]; exact hlt)).1
      have x2 := (hB.cell (p := ⟨b1, o1 + k * 2 + 1, none⟩) hb1).trans (hC1.out k (by rw [← hN.out]; exact hlt)).2
      have y1 := (hB.cell (p := ⟨b2, o2 + k * 2, none⟩) hb2).trans (hC2.out k (by rw [← hN.out]; exact hlt)).1
      have y2 := (hB.cell (p := ⟨b2, o2 + k * 2 + 1, none⟩) hb2).trans (hC2.out k (by rw [← hN.out]; exact hlt)).2
      have hlt' : (k : Int) < (n : Int) := by omega
      have hk0 : (0 : Int) ≤ (k : Int) := by omega
      have hzr := hB.size
      obtain ⟨x, hx⟩ : ∃ x, x = rd js k := ⟨_, rfl⟩
      obtain ⟨y, hy⟩ : ∃ y, y = rv js k := ⟨_, rfl⟩
      rw [← hx] at x1 y1
      rw [← hy] at x2 y2
      clear hx hy
      go_wp2_with fail
      go_region_held3 (fun w' => w'.cell? ⟨b1, o1 + k * 2, none⟩ = some (.int .i64 x) ∧ w'.cell? ⟨b1, o1 + k * 2 + 1, none⟩ = some (.int .i64 y) ∧ w'.cell? ⟨b2, o2 + k * 2, none⟩ = some (.int .i64 x) ∧ w'.cell? ⟨b2, o2 + k * 2 + 1, none⟩ = some (.int .i64 y)) (first | exact hq | exact ⟨x1, x2, y1, y2⟩) ((go_at_call 16; have hX := eqRatio_same x y wr.drew; refine hX.mono ?_; clear hX; rintro e w1 ⟨rfl, hB1⟩; have hq := And.intro ((hB1.cell (p := ⟨b1, o1 + k * 2, none⟩) (Nat.lt_of_lt_of_le hb1 hzr)).trans x1) (And.intro ((hB1.cell (p := ⟨b1, o1 + k * 2 + 1, none⟩) (Nat.lt_of_lt_of_le hb1 hzr)).trans x2) (And.intro ((hB1.cell (p := ⟨b2, o2 + k * 2, none⟩) (Nat.lt_of_lt_of_le hb2 hzr)).trans y1) ((hB1.cell (p := ⟨b2, o2 + k * 2 + 1, none⟩) (Nat.lt_of_lt_of_le hb2 hzr)).trans y2)))))
      go_wp2_with fail
      all_goals go_roundw
      case rel => exact ⟨k + 1, by omega, by go_num, hB.trans ((Below.refl wr.heap.size wr).drew.mono hzr |>.trans (hB1.mono hzr))⟩
      case measure => simp [intOf]; omega
    · obtain rfl : k = n := by omega
      go_wp2_with fail
      go_ret
      exact ⟨rfl, hB⟩

theorem eqV_own (b1 b2 : Nat) (v1 v2 : Value) (js : List (Int × Int)) (w : World) (h1 : OwnV w b1 v1 js) (h2 : OwnV w b2 v2 js) :
    Calls Try.prog 7 #[v1, v2] w (GivesB w (.bool true)) := by
  obtain ⟨a1, c1, rfl, hl, k1⟩ := h1
  obtain ⟨a2, c2, rfl, _, k2⟩ := h2
  rcases k1 with hz | ⟨g1, p1, r1, rfl, _, R1⟩
  · subst hz
    exact eqV_nil _ _ _ _ w
  · rcases k2 with hz | ⟨g2, p2, r2, rfl, _, R2⟩
    · subst hz
      exact eqV_nil _ _ _ _ w
    · exact eqV_same g1 _ g2 _ js.length c1 c2 js w R1.lt (fun j hj => OwnV.cells R1 rfl j hj) R2.lt (fun j hj => OwnV.cells R2 rfl j hj) hl rfl
set_option maxHeartbeats 2000000 in
theorem markV_own (base : Nat) (v : Value) (js : List (Int × Int)) (w : World) (h : OwnV w base v js) :
    Calls Try.prog 8 #[v, .int .i64 1] w fun e w' => e = .returned (.int .i64 (1 + 2 * (js.length : Int))) ∧ OwnV w' base v (marksG js.length) ∧ Below base w w' ∧ w'.heap.size = w.heap.size := by
  obtain ⟨a, c, rfl, hl, k1⟩ := h
  rcases k1 with hz | ⟨g, pre, rest, rfl, hg, R⟩
  · subst hz
    simp only [List.length_nil]
    go_enter Try.func8, Try.ntmps8
    go_wp2_with fail
    refine wp_loop_rounds 1 ?_
    rw [rounds_succ]
    go_wp2_with fail
    go_ret
    exact ⟨rfl, OwnV.nil _ _ _ _, Below.refl _ _, rfl⟩
  · obtain ⟨n, hn⟩ : ∃ n, js.length = n := ⟨_, rfl⟩
    obtain ⟨o, ho⟩ : ∃ o, pre.length = o := ⟨_, rfl⟩
    have HO := hid ho
    rw [ho]
    rw [hn] at hl ⊢
    have HN := hid hn
    have R0 : Row w g 27 (pre ++ (tvals (halfG js 0) ++ rest)) := by rw [halfG_zero]; exact R
    clear hn R ho
    go_enter Try.func8, Try.ntmps8
    go_wp2_with fail
    go_loopw [1, 5] (fun m i wr => ∃ k : Nat, k ≤ n ∧ i = .int .i64 k ∧ m = .int .i64 (1 + 2 * (k : Int)) ∧ Row wr g 27 (pre ++ (tvals (halfG js k) ++ rest)) ∧ Below base w wr ∧ wr.heap.size = w.heap.size) (fun _ i _ => n - (intOf i).toNat)
    case atStart => exact ⟨0, Nat.zero_le _, rfl, rfl, R0, Below.refl _ _, rfl⟩
    case round =>
      clear R0
      obtain ⟨k, hk, rfl, rfl, hrow, hB, hsz⟩ := hrel
      have HSZ := hid hsz
      clear hsz
      by_cases hlt : k < n
      · have hlt' : (k : Int) < (n : Int) := by omega
        have hk0 : (0 : Int) ≤ (k : Int) := by omega
        have HS := hid (halfG_set js rest k (by rw [HN.out]; exact hlt))
        have f0 := hrow.frozen (o + k * 2)
        have f1 := hrow.frozen (o + k * 2 + 1)
        have hlen : (pre ++ (tvals (halfG js k) ++ rest)).length = o + (n * 2 + rest.length) := by rw [List.length_append, HO.out, List.length_append, tvals_len, halfG_len _ _ (by rw [HN.out]; exact hk), HN.out]
        obtain ⟨o0, h0⟩ : ∃ u, wr.cell? ⟨g, o + k * 2, none⟩ = some u := ⟨_, (hrow.cell (o + k * 2)).trans (List.getElem?_eq_getElem (by rw [hlen]; omega))⟩
        obtain ⟨o1, h1⟩ : ∃ u, wr.cell? ⟨g, o + k * 2 + 1, none⟩ = some u := ⟨_, (hrow.cell (o + k * 2 + 1)).trans (List.getElem?_eq_getElem (by rw [hlen]; omega))⟩
        have R2 := (hrow.set (o + k * 2) (.int .i64 ((1 + 2 * (k : Int))))).set (o + k * 2 + 1) (.int .i64 ((1 + 2 * (k : Int) + 1)))
        rw [set_pre _ _ _ _ _ HO.out, show o + k * 2 + 1 = o + (k * 2 + 1) by omega, set_pre _ _ _ _ _ HO.out, HS.out] at R2
        have B2 := hid ((hB.setCell (p := ⟨g, o + k * 2, none⟩) hg (.int .i64 ((1 + 2 * (k : Int))))).setCell (p := ⟨g, o + k * 2 + 1, none⟩) hg (.int .i64 ((1 + 2 * (k : Int) + 1))))
        have t1 : IntKind.i64.wrap (1 + 2 * (k : Int)) = 1 + 2 * (k : Int) := IntWalk.i64_in _ (by omega)
        have t2 : IntKind.i64.wrap (1 + 2 * (k : Int) + 1) = 1 + 2 * (k : Int) + 1 := IntWalk.i64_in _ (by omega)
        have R3 := hid R2
        clear R2 hrow hB hlen
        go_wp2_with fail
        go_roundw
        case rel => exact ⟨k + 1, by omega, by go_num, by first | go_num | (congr 1; done) | (congr 1; omega), R3.out, B2.out, by simpa using HSZ.out⟩
        case measure => simp [intOf]; omega
      · obtain rfl : k = n := by omega
        have R3 := hid hrow
        clear hrow
        go_wp2_with fail
        go_ret
        refine ⟨rfl, ⟨some ⟨g, o, none⟩, c, by rw [marksG_len], by rw [marksG_len]; exact hl, .inr ⟨g, pre, rest, by rw [HO.out], hg, ?_⟩⟩, hB, HSZ.out⟩
        have := R3.out
        rw [← HN.out, halfG_all] at this
        rw [← HN.out]
        exact this
set_option maxHeartbeats 2000000 in
theorem heldV_own (base : Nat) (v : Value) (n : Nat) (w : World) (h : OwnV w base v (marksG n)) :
    Calls Try.prog 9 #[v, .int .i64 1] w fun e w' => e = .returned (.int .i64 (1 + 2 * (n : Int))) ∧ ∃ d, w' = w.drewN d := by
  obtain ⟨a, c, rfl, hl, k1⟩ := h
  rw [marksG_len] at hl ⊢
  rcases k1 with hz | ⟨g, pre, rest, rfl, hg, R⟩
  · have h0 : n = 0 := by have := congrArg List.length hz; simpa [marksG_len] using this
    subst h0
    go_enter Try.func9, Try.ntmps9
    go_wp2_with fail
    refine wp_loop_rounds 1 ?_
    rw [rounds_succ]
    go_wp2_with fail
    go_ret
    exact ⟨rfl, 0, rfl⟩
  · obtain ⟨o, ho⟩ : ∃ o, pre.length = o := ⟨_, rfl⟩
    have C := hid (fun j (hj : j < n) => OwnV.cells R ho j (by rw [marksG_len]; exact hj))
    rw [ho]
    clear ho
    clear R
    go_enter Try.func9, Try.ntmps9
    go_wp2_with fail
    go_loopw [1, 5] (fun m i wr => ∃ k : Nat, k ≤ n ∧ i = .int .i64 k ∧ m = .int .i64 (1 + 2 * (k : Int)) ∧ ∃ d, wr = w.drewN d) (fun _ i _ => n - (intOf i).toNat)
    case atStart => exact ⟨0, Nat.zero_le _, rfl, rfl, 0, rfl⟩
    case round =>
      obtain ⟨k, hk, rfl, rfl, d, rfl⟩ := hrel
      by_cases hlt : k < n
      · have hlt' : (k : Int) < (n : Int) := by omega
        have hk0 : (0 : Int) ≤ (k : Int) := by omega
        have cc := C.out k hlt
        rw [(marksG_get n k hlt).1, (marksG_get n k hlt).2] at cc
        have c0 := cc.1
        have c1 := cc.2
        have t1 : IntKind.i64.wrap (1 + 2 * (k : Int)) = 1 + 2 * (k : Int) := IntWalk.i64_in _ (by omega)
        have t2 : IntKind.i64.wrap (1 + 2 * (k : Int) + 1) = 1 + 2 * (k : Int) + 1 := IntWalk.i64_in _ (by omega)
        have b0 : ((1 + 2 * (k : Int)) != (1 + 2 * (k : Int))) = false := by simp
        have b1 : ((1 + 2 * (k : Int) + 1) != (1 + 2 * (k : Int) + 1)) = false := by simp
        clear cc
        go_wp2_with fail
        all_goals (try (go_quiet (fail); go_wp2_with fail))
        go_roundw
        case rel => exact ⟨k + 1, by omega, by go_num, by first | go_num | (congr 1; done) | (congr 1; omega), _, rfl⟩
        case measure => simp [intOf]; omega
      · obtain rfl : k = n := by omega
        go_wp2_with fail
        go_ret
        exact ⟨rfl, d, rfl⟩
end Go.Proofs.Ytgkinoibidkicaa
