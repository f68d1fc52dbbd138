/- Trains that a call has made: compared, written over, looked at. -/
import Derived.Test.YtcbhlljgcndhdaaDoorTrain
import Derived.OwnWalk
import Derived.Deep.QuietTactic
namespace Go.Proofs.YtcbhlljgcndhdaaDoor
open Go.RowKit
def pvals (js : List (Int × Int)) : List Value := (nums js (js.length * 2)).map (Value.int .i16)
theorem pvals_len (js : List (Int × Int)) : (pvals js).length = js.length * 2 := by simp [pvals, nums_len]
/-- v is the train js, in a block of its own from base on -/
def OwnP (w : World) (base : Nat) (v : Value) (js : List (Int × Int)) : Prop :=
  ∃ a cap, v = .slice a js.length cap ∧ js.length ≤ 1048576 ∧ (js = [] ∨ ∃ g rest, a = some ⟨g, 0, none⟩ ∧ base ≤ g ∧ Row w g 36 (pvals js ++ rest))
theorem OwnP.of_owns {w : World} {base n : Nat} {v : Value} {js : List (Int × Int)} (h : w.ownsRow base 36 2 v n (pvals js)) (hl : js.length ≤ 1048576) : OwnP w base v js := by
  have hn : n = js.length := by have := h.1; rw [pvals_len] at this; omega
  rcases h.2 with ⟨rfl, h0⟩ | ⟨g, cap, cur, rfl, h2, h3, h4, h5, h6, h7⟩
  · have : js = [] := List.length_eq_zero_iff.1 (by omega)
    subst this
    exact ⟨none, 0, rfl, by simp, .inl rfl⟩
  · refine ⟨some ⟨g, 0, none⟩, cap, by rw [hn], hl, .inr ⟨g, cur.toList.drop (n * 2), rfl, h2, ?_⟩⟩
    unfold Row
    rw [h3, ← h7, List.take_append_drop]
theorem OwnP.nil (w : World) (base : Nat) (a : Option Addr) (cap : Nat) : OwnP w base (.slice a 0 cap) [] := ⟨a, cap, rfl, by simp, .inl rfl⟩
theorem OwnP.keep {w w' : World} {base : Nat} {v : Value} {js : List (Int × Int)} (h : OwnP w base v js) (hb : Below w.heap.size w w') : OwnP w' base v js := by
  obtain ⟨a, cap, h1, h2, h3⟩ := h
  refine ⟨a, cap, h1, h2, ?_⟩
  rcases h3 with h0 | ⟨g, rest, e, hg, hr⟩
  · exact .inl h0
  · exact .inr ⟨g, rest, e, hg, hr.below hb hr.lt⟩
/-- what is written from k on leaves it, if it had been made before -/
theorem OwnP.low {w w1 w' : World} {base k : Nat} {v : Value} {js : List (Int × Int)} (h : OwnP w base v js) (hw : Below w.heap.size w w1) (hk : w.heap.size ≤ k) (hb : Below k w1 w') : OwnP w' base v js := by
  obtain ⟨a, cap, h1, h2, h3⟩ := h
  refine ⟨a, cap, h1, h2, ?_⟩
  rcases h3 with h0 | ⟨g, rest, e, hg, hr⟩
  · exact .inl h0
  · exact .inr ⟨g, rest, e, hg, (hr.below hw hr.lt).below hb (Nat.lt_of_lt_of_le hr.lt hk)⟩
theorem pvals_get (js : List (Int × Int)) (rest : List Value) (j : Nat) (hj : j < js.length) : (pvals js ++ rest)[j * 2]? = some (.int .i16 (pd js j)) ∧ (pvals js ++ rest)[j * 2 + 1]? = some (.int .i16 (pn js j)) := by
  rw [List.getElem?_append_left (by rw [pvals_len]; omega), List.getElem?_append_left (by rw [pvals_len]; omega)]
  simp only [pvals, List.getElem?_map]
  rw [nums_get _ _ _ (by omega), nums_get _ _ _ (by omega), num_even, num_odd]
  exact ⟨rfl, rfl⟩
theorem OwnP.pst {w : World} {g : Nat} {js : List (Int × Int)} {rest : List Value} (h : Row w g 36 (pvals js ++ rest)) (hl : js.length ≤ 1048576) : Pst w g js :=
  ⟨h.lt, fun j hj => ⟨(h.cell _).trans (pvals_get js rest j hj).1, (h.cell _).trans (pvals_get js rest j hj).2⟩, hl⟩
set_option maxHeartbeats 1000000 in
theorem eqP_nil (a1 a2 : Option Addr) (c1 c2 : Nat) (w : World) : Calls Tryd.prog 6 #[.slice a1 0 c1, .slice a2 0 c2] w (GivesB w (.bool true)) := by
  go_enter Tryd.func6, Tryd.ntmps6
  go_wp2_with fail
  refine wp_loop_rounds 1 ?_
  rw [rounds_succ]
  go_wp2_with fail
  go_ret
  exact ⟨rfl, Below.refl _ _⟩
theorem eqP_own (b1 b2 : Nat) (v1 v2 : Value) (js : List (Int × Int)) (w : World) (h1 : OwnP w b1 v1 js) (h2 : OwnP w b2 v2 js) :
    Calls Tryd.prog 6 #[v1, v2] w (GivesB w (.bool true)) := by
  obtain ⟨a1, c1, rfl, hl, k1⟩ := h1
  obtain ⟨a2, c2, rfl, _, k2⟩ := h2
  rcases k1 with hz | ⟨g1, r1, rfl, _, R1⟩
  · subst hz
    exact eqP_nil _ _ _ _ w
  · rcases k2 with hz | ⟨g2, r2, rfl, _, R2⟩
    · subst hz
      exact eqP_nil _ _ _ _ w
    · exact eqPairs_same g1 g2 js.length c1 c2 js w (OwnP.pst R1 hl) (OwnP.pst R2 hl) rfl
/-- the marks that are written -/
def mk16 (i : Int) : Int := IntKind.i16.wrap i
def marksP (n : Nat) : List (Int × Int) := (List.range n).map fun (j : Nat) => (mk16 (1 + 2 * (j : Int)), mk16 (1 + 2 * (j : Int) + 1))
theorem marksP_len (n : Nat) : (marksP n).length = n := by simp [marksP]
def halfP (js : List (Int × Int)) (k : Nat) : List (Int × Int) := marksP k ++ js.drop k
theorem halfP_len (js : List (Int × Int)) (k : Nat) (h : k ≤ js.length) : (halfP js k).length = js.length := by simp [halfP, marksP]; omega
theorem halfP_zero (js : List (Int × Int)) : halfP js 0 = js := by simp [halfP, marksP]
theorem halfP_all (js : List (Int × Int)) : halfP js js.length = marksP js.length := by simp [halfP]
theorem halfP_get (js : List (Int × Int)) (k j : Nat) : (halfP js k)[j]? = if j < k then some (mk16 (1 + 2 * (j : Int)), mk16 (1 + 2 * (j : Int) + 1)) else js[j]? := by
  by_cases h : j < k
  · rw [if_pos h, halfP, List.getElem?_append_left (by rw [marksP_len]; exact h)]
    simp [marksP, h]
  · rw [if_neg h, halfP, List.getElem?_append_right (by rw [marksP_len]; omega), marksP_len, List.getElem?_drop, show k + (j - k) = j from by omega]
theorem halfP_set (js : List (Int × Int)) (rest : List Value) (k : Nat) (h : k < js.length) :
    ((pvals (halfP js k) ++ rest).set (k * 2) (.int .i16 (mk16 (1 + 2 * (k : Int))))).set (k * 2 + 1) (.int .i16 (mk16 (1 + 2 * (k : Int) + 1))) = pvals (halfP js (k + 1)) ++ rest := by
  have l1 := halfP_len js k (by omega)
  have l2 := halfP_len js (k + 1) (by omega)
  rw [List.set_append_left _ _ (by rw [pvals_len, l1]; omega), List.set_append_left _ _ (by rw [List.length_set, pvals_len, l1]; omega)]
  congr 1
  apply List.ext_getElem?
  intro i
  simp only [List.getElem?_set, List.length_set, pvals_len, l1]
  have G : ∀ (ks : List (Int × Int)) (i : Nat), (pvals ks)[i]? = if i < ks.length * 2 then some (.int .i16 (num ks i)) else none := fun ks i => by
    by_cases hi : i < ks.length * 2
    · rw [if_pos hi]; simp only [pvals, List.getElem?_map]; rw [nums_get _ _ _ hi]; rfl
    · rw [if_neg hi]; exact List.getElem?_eq_none (by rw [pvals_len]; omega)
  rw [G, G, l1, l2]
  by_cases hi : i < js.length * 2
  · rw [if_pos hi, if_pos hi]
    by_cases e1 : k * 2 + 1 = i
    · subst e1
      rw [if_pos rfl, if_pos (by omega), num_odd, pn, halfP_get, if_pos (by omega)]
      rfl
    · rw [if_neg e1]
      by_cases e2 : k * 2 = i
      · subst e2
        rw [if_pos rfl, if_pos (by omega), num_even, pd, halfP_get, if_pos (by omega)]
        rfl
      · rw [if_neg e2]
        have hx : num (halfP js k) i = num (halfP js (k + 1)) i := by
          have g : (halfP js k)[i / 2]? = (halfP js (k + 1))[i / 2]? := by
            rw [halfP_get, halfP_get]
            by_cases h3 : i / 2 < k
            · rw [if_pos h3, if_pos (by omega)]
            · rw [if_neg h3, if_neg (by omega)]
          simp only [num, pd, pn, g]
        rw [hx]
  · rw [if_neg (by omega), if_neg (by omega), if_neg hi]
    rw [if_neg hi]
set_option maxHeartbeats 2000000 in
theorem markP_own (base : Nat) (v : Value) (js : List (Int × Int)) (w : World) (h : OwnP w base v js) :
    Calls Tryd.prog 7 #[v, .int .i64 1] w fun e w' => e = .returned (.int .i64 (1 + 2 * (js.length : Int))) ∧ OwnP w' base v (marksP js.length) ∧ Below base w w' ∧ w'.heap.size = w.heap.size := by
  obtain ⟨a, c, rfl, hl, k1⟩ := h
  rcases k1 with hz | ⟨g, rest, rfl, hg, R⟩
  · subst hz
    simp only [List.length_nil]
    go_enter Tryd.func7, Tryd.ntmps7
    go_wp2_with fail
    refine wp_loop_rounds 1 ?_
    rw [rounds_succ]
    go_wp2_with fail
    go_ret
    exact ⟨rfl, OwnP.nil _ _ _ _, Below.refl _ _, rfl⟩
  · obtain ⟨n, hn⟩ : ∃ n, js.length = n := ⟨_, rfl⟩
    rw [hn] at hl ⊢
    have HN := hid hn
    have R0 : Row w g 36 (pvals (halfP js 0) ++ rest) := by rw [halfP_zero]; exact R
    clear hn R
    go_enter Tryd.func7, Tryd.ntmps7
    go_wp2_with fail
    go_loopw [1, 5] (fun m i wr => ∃ k : Nat, k ≤ n ∧ i = .int .i64 k ∧ m = .int .i64 (1 + 2 * (k : Int)) ∧ Row wr g 36 (pvals (halfP js k) ++ rest) ∧ Below base w wr ∧ wr.heap.size = w.heap.size) (fun _ i _ => n - (intOf i).toNat)
    case atStart => exact ⟨0, Nat.zero_le _, rfl, rfl, R0, Below.refl _ _, rfl⟩
    case round =>
      clear R0
      obtain ⟨k, hk, rfl, rfl, hrow, hB, hsz⟩ := hrel
      have HSZ := hid hsz
      clear hsz
      by_cases hlt : k < n
      · have hlt' : (k : Int) < (n : Int) := by omega
        have hk0 : (0 : Int) ≤ (k : Int) := by omega
        have HS := hid (halfP_set js rest k (by rw [HN.out]; exact hlt))
        have f0 := hrow.frozen (k * 2)
        have f1 := hrow.frozen (k * 2 + 1)
        have hlen : (pvals (halfP js k) ++ rest).length = n * 2 + rest.length := by rw [List.length_append, pvals_len, halfP_len _ _ (by rw [HN.out]; exact hk), HN.out]
        obtain ⟨o0, h0⟩ : ∃ u, wr.cell? ⟨g, k * 2, none⟩ = some u := ⟨_, (hrow.cell (k * 2)).trans (List.getElem?_eq_getElem (by rw [hlen]; omega))⟩
        obtain ⟨o1, h1⟩ : ∃ u, wr.cell? ⟨g, k * 2 + 1, none⟩ = some u := ⟨_, (hrow.cell (k * 2 + 1)).trans (List.getElem?_eq_getElem (by rw [hlen]; omega))⟩
        have R2 := (hrow.set (k * 2) (.int .i16 (mk16 (1 + 2 * (k : Int))))).set (k * 2 + 1) (.int .i16 (mk16 (1 + 2 * (k : Int) + 1)))
        rw [HS.out] at R2
        have B2 := hid ((hB.setCell (p := ⟨g, k * 2, none⟩) hg (.int .i16 (mk16 (1 + 2 * (k : Int))))).setCell (p := ⟨g, k * 2 + 1, none⟩) hg (.int .i16 (mk16 (1 + 2 * (k : Int) + 1))))
        have t1 : IntKind.i16.wrap (1 + 2 * (k : Int)) = mk16 (1 + 2 * (k : Int)) := rfl
        have t2 : IntKind.i16.wrap (1 + 2 * (k : Int) + 1) = mk16 (1 + 2 * (k : Int) + 1) := rfl
        have R3 := hid R2
        clear R2 hrow hB hlen
        go_wp2_with fail
        go_roundw
        case rel => exact ⟨k + 1, by omega, by go_num, by first | go_num | (congr 1; done) | (congr 1; omega), R3.out, B2.out, by simpa using HSZ.out⟩
        case measure => simp [intOf]; omega
      · obtain rfl : k = n := by omega
        have R3 := hid hrow
        clear hrow
        go_wp2_with fail
        go_ret
        refine ⟨rfl, ⟨some ⟨g, 0, none⟩, c, by rw [marksP_len], by rw [marksP_len]; exact hl, .inr ⟨g, rest, rfl, hg, ?_⟩⟩, hB, HSZ.out⟩
        have := R3.out
        rw [← HN.out, halfP_all] at this
        rw [← HN.out]
        exact this
theorem marksP_get (n k : Nat) (h : k < n) : pd (marksP n) k = mk16 (1 + 2 * (k : Int)) ∧ pn (marksP n) k = mk16 (1 + 2 * (k : Int) + 1) := by
  simp [pd, pn, marksP, h]
set_option maxHeartbeats 2000000 in
theorem heldP_own (base : Nat) (v : Value) (n : Nat) (w : World) (h : OwnP w base v (marksP n)) :
    Calls Tryd.prog 8 #[v, .int .i64 1] w fun e w' => e = .returned (.int .i64 (1 + 2 * (n : Int))) ∧ ∃ d, w' = w.drewN d := by
  obtain ⟨a, c, rfl, hl, k1⟩ := h
  rw [marksP_len] at hl ⊢
  rcases k1 with hz | ⟨g, rest, rfl, hg, R⟩
  · have h0 : n = 0 := by have := congrArg List.length hz; simpa [marksP_len] using this
    subst h0
    go_enter Tryd.func8, Tryd.ntmps8
    go_wp2_with fail
    refine wp_loop_rounds 1 ?_
    rw [rounds_succ]
    go_wp2_with fail
    go_ret
    exact ⟨rfl, 0, rfl⟩
  · have C := hid (fun j (hj : j < n) => (OwnP.pst R (by rw [marksP_len]; exact hl)).2.1 j (by rw [marksP_len]; exact hj))
    clear R
    go_enter Tryd.func8, Tryd.ntmps8
    go_wp2_with fail
    go_loopw [1, 5] (fun m i wr => ∃ k : Nat, k ≤ n ∧ i = .int .i64 k ∧ m = .int .i64 (1 + 2 * (k : Int)) ∧ ∃ d, wr = w.drewN d) (fun _ i _ => n - (intOf i).toNat)
    case atStart => exact ⟨0, Nat.zero_le _, rfl, rfl, 0, rfl⟩
    case round =>
      obtain ⟨k, hk, rfl, rfl, d, rfl⟩ := hrel
      by_cases hlt : k < n
      · have hlt' : (k : Int) < (n : Int) := by omega
        have hk0 : (0 : Int) ≤ (k : Int) := by omega
        have cc := C.out k hlt
        rw [(marksP_get n k hlt).1, (marksP_get n k hlt).2] at cc
        have c0 := cc.1
        have c1 := cc.2
        have t1 : IntKind.i16.wrap (1 + 2 * (k : Int)) = mk16 (1 + 2 * (k : Int)) := rfl
        have t2 : IntKind.i16.wrap (1 + 2 * (k : Int) + 1) = mk16 (1 + 2 * (k : Int) + 1) := rfl
        have b0 : (mk16 (1 + 2 * (k : Int)) != mk16 (1 + 2 * (k : Int))) = false := by simp
        have b1 : (mk16 (1 + 2 * (k : Int) + 1) != mk16 (1 + 2 * (k : Int) + 1)) = false := by simp
        clear cc
        go_wp2_with fail
        all_goals (try (go_quiet (fail); go_wp2_with fail))
        go_roundw
        case rel => exact ⟨k + 1, by omega, by go_num, by first | go_num | (congr 1; done) | (congr 1; omega), _, rfl⟩
        case measure => simp [intOf]; omega
      · obtain rfl : k = n := by omega
        go_wp2_with fail
        go_ret
        exact ⟨rfl, d, rfl⟩
end Go.Proofs.YtcbhlljgcndhdaaDoor
