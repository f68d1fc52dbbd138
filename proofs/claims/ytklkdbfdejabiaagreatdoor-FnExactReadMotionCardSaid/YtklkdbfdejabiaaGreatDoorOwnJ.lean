/- Joints that a call has made: compared, written over, looked at. -/
import Derived.Test.YtklkdbfdejabiaaGreatDoorMotion
import Derived.Test.YtklkdbfdejabiaaGreatDoorOwnB
import Derived.OwnWalk
import Derived.Deep.QuietTactic
namespace Go.Proofs.YtklkdbfdejabiaaGreatDoor
open Go.RowKit
def jvals (js : List (Int × Int)) : List Value := (List.range (js.length * 2)).map (jcell js)
theorem jvals_len (js : List (Int × Int)) : (jvals js).length = js.length * 2 := by simp [jvals]
theorem jcell_even (js : List (Int × Int)) (k : Nat) : jcell js (k * 2) = .int .i8 (jk js k) := by rw [jcell, if_pos (by omega), show k * 2 / 2 = k from by omega]
theorem jcell_odd (js : List (Int × Int)) (k : Nat) : jcell js (k * 2 + 1) = .int .i16 (jf js k) := by rw [jcell, if_neg (by omega), show (k * 2 + 1) / 2 = k from by omega]
theorem jvals_at (js : List (Int × Int)) (i : Nat) : (jvals js)[i]? = if i < js.length * 2 then some (jcell js i) else none := by
  by_cases hi : i < js.length * 2
  · rw [if_pos hi]; simp [jvals, hi]
  · rw [if_neg hi]; exact List.getElem?_eq_none (by rw [jvals_len]; omega)
theorem jvals_snoc (l : List (Int × Int)) (a b : Int) : jvals (l ++ [(a, b)]) = jvals l ++ [.int .i8 a, .int .i16 b] := by
  apply List.ext_getElem?
  intro i
  rw [jvals_at]
  by_cases h1 : i < l.length * 2
  · rw [if_pos (by simp; omega), List.getElem?_append_left (by rw [jvals_len]; exact h1), jvals_at, if_pos h1]
    have e : (l ++ [(a, b)])[i / 2]? = l[i / 2]? := List.getElem?_append_left (by omega)
    simp only [jcell, jk, jf, e]
  · rw [List.getElem?_append_right (by rw [jvals_len]; omega), jvals_len]
    by_cases h2 : i = l.length * 2
    · subst h2
      rw [if_pos (by simp), jcell_even]
      simp [jk]
    · by_cases h3 : i = l.length * 2 + 1
      · subst h3
        rw [if_pos (by simp; omega), jcell_odd]
        simp [jf]
      · rw [if_neg (by simp; omega)]
        symm
        exact List.getElem?_eq_none (by simp; omega)
/-- v is the train js, in a block of its own from base on -/
def OwnJ (w : World) (base : Nat) (v : Value) (js : List (Int × Int)) : Prop :=
  ∃ a cap, v = .slice a js.length cap ∧ js.length ≤ 1048576 ∧ (js = [] ∨ ∃ g rest, a = some ⟨g, 0, none⟩ ∧ base ≤ g ∧ Row w g 39 (jvals js ++ rest))
theorem OwnJ.of_owns {w : World} {base n : Nat} {v : Value} {js : List (Int × Int)} (h : w.ownsRow base 39 2 v n (jvals js)) (hl : js.length ≤ 1048576) : OwnJ w base v js := by
  have hn : n = js.length := by have := h.1; rw [jvals_len] at this; omega
  rcases h.2 with ⟨rfl, h0⟩ | ⟨g, cap, cur, rfl, h2, h3, h4, h5, h6, h7⟩
  · have : js = [] := List.length_eq_zero_iff.1 (by omega)
    subst this
    exact ⟨none, 0, rfl, by simp, .inl rfl⟩
  · refine ⟨some ⟨g, 0, none⟩, cap, by rw [hn], hl, .inr ⟨g, cur.toList.drop (n * 2), rfl, h2, ?_⟩⟩
    unfold Row
    rw [h3, ← h7, List.take_append_drop]
theorem OwnJ.nil (w : World) (base : Nat) (a : Option Addr) (cap : Nat) : OwnJ w base (.slice a 0 cap) [] := ⟨a, cap, rfl, by simp, .inl rfl⟩
theorem OwnJ.keep {w w' : World} {base : Nat} {v : Value} {js : List (Int × Int)} (h : OwnJ w base v js) (hb : Below w.heap.size w w') : OwnJ w' base v js := by
  obtain ⟨a, cap, h1, h2, h3⟩ := h
  refine ⟨a, cap, h1, h2, ?_⟩
  rcases h3 with h0 | ⟨g, rest, e, hg, hr⟩
  · exact .inl h0
  · exact .inr ⟨g, rest, e, hg, hr.below hb hr.lt⟩
/-- what is written from k on leaves it, if it had been made before -/
theorem OwnJ.low {w w1 w' : World} {base k : Nat} {v : Value} {js : List (Int × Int)} (h : OwnJ w base v js) (hw : Below w.heap.size w w1) (hk : w.heap.size ≤ k) (hb : Below k w1 w') : OwnJ w' base v js := by
  obtain ⟨a, cap, h1, h2, h3⟩ := h
  refine ⟨a, cap, h1, h2, ?_⟩
  rcases h3 with h0 | ⟨g, rest, e, hg, hr⟩
  · exact .inl h0
  · exact .inr ⟨g, rest, e, hg, (hr.below hw hr.lt).below hb (Nat.lt_of_lt_of_le hr.lt hk)⟩
theorem jvals_get (js : List (Int × Int)) (rest : List Value) (j : Nat) (hj : j < js.length) : (jvals js ++ rest)[j * 2]? = some (.int .i8 (jk js j)) ∧ (jvals js ++ rest)[j * 2 + 1]? = some (.int .i16 (jf js j)) := by
  rw [List.getElem?_append_left (by rw [jvals_len]; omega), List.getElem?_append_left (by rw [jvals_len]; omega), jvals_at, jvals_at, if_pos (by omega), if_pos (by omega), jcell_even, jcell_odd]
  exact ⟨rfl, rfl⟩
theorem OwnJ.jst {w : World} {g : Nat} {js : List (Int × Int)} {rest : List Value} (h : Row w g 39 (jvals js ++ rest)) (hl : js.length ≤ 1048576) : Jst w g js :=
  ⟨h.lt, fun j hj => ⟨(h.cell _).trans (jvals_get js rest j hj).1, (h.cell _).trans (jvals_get js rest j hj).2⟩, hl⟩
set_option maxHeartbeats 1000000 in
theorem eqJ_nil (a1 a2 : Option Addr) (c1 c2 : Nat) (w : World) : Calls Tryz.prog 18 #[.slice a1 0 c1, .slice a2 0 c2] w fun e w' => e = .returned (.bool true) ∧ Below w.heap.size w w' := by
  go_enter Tryz.func18, Tryz.ntmps18
  go_wp2_with fail
  refine wp_loop_rounds 1 ?_
  rw [rounds_succ]
  go_wp2_with fail
  go_ret
  exact ⟨rfl, Below.refl _ _⟩
theorem eqJ_own (b1 b2 : Nat) (v1 v2 : Value) (js : List (Int × Int)) (w : World) (h1 : OwnJ w b1 v1 js) (h2 : OwnJ w b2 v2 js) :
    Calls Tryz.prog 18 #[v1, v2] w fun e w' => e = .returned (.bool true) ∧ Below w.heap.size w w' := by
  obtain ⟨a1, c1, rfl, hl, k1⟩ := h1
  obtain ⟨a2, c2, rfl, _, k2⟩ := h2
  rcases k1 with hz | ⟨g1, r1, rfl, _, R1⟩
  · subst hz
    exact eqJ_nil _ _ _ _ w
  · rcases k2 with hz | ⟨g2, r2, rfl, _, R2⟩
    · subst hz
      exact eqJ_nil _ _ _ _ w
    · exact eqJoints_same g1 g2 js.length c1 c2 js w (OwnJ.jst R1 hl) (OwnJ.jst R2 hl) rfl
/-- the marks that are written -/
def mJ8 (i : Int) : Int := IntKind.i8.wrap i
def mJ16 (i : Int) : Int := IntKind.i16.wrap i
def marksJ (k0 : Int) (n : Nat) : List (Int × Int) := (List.range n).map fun (j : Nat) => (mJ8 (k0 + 2 * (j : Int)), mJ16 (k0 + 2 * (j : Int) + 1))
theorem marksJ_len (k0 : Int) (n : Nat) : (marksJ k0 n).length = n := by simp [marksJ]
def halfJ (k0 : Int) (js : List (Int × Int)) (k : Nat) : List (Int × Int) := marksJ k0 k ++ js.drop k
theorem halfJ_len (k0 : Int) (js : List (Int × Int)) (k : Nat) (h : k ≤ js.length) : (halfJ k0 js k).length = js.length := by simp [halfJ, marksJ]; omega
theorem halfJ_zero (k0 : Int) (js : List (Int × Int)) : halfJ k0 js 0 = js := by simp [halfJ, marksJ]
theorem halfJ_all (k0 : Int) (js : List (Int × Int)) : halfJ k0 js js.length = marksJ k0 js.length := by simp [halfJ]
theorem halfJ_get (k0 : Int) (js : List (Int × Int)) (k j : Nat) : (halfJ k0 js k)[j]? = if j < k then some (mJ8 (k0 + 2 * (j : Int)), mJ16 (k0 + 2 * (j : Int) + 1)) else js[j]? := by
  by_cases h : j < k
  · rw [if_pos h, halfJ, List.getElem?_append_left (by rw [marksJ_len]; exact h)]
    simp [marksJ, h]
  · rw [if_neg h, halfJ, List.getElem?_append_right (by rw [marksJ_len]; omega), marksJ_len, List.getElem?_drop, show k + (j - k) = j from by omega]
theorem halfJ_set (k0 : Int) (js : List (Int × Int)) (rest : List Value) (k : Nat) (h : k < js.length) :
    ((jvals (halfJ k0 js k) ++ rest).set (k * 2) (.int .i8 (mJ8 (k0 + 2 * (k : Int))))).set (k * 2 + 1) (.int .i16 (mJ16 (k0 + 2 * (k : Int) + 1))) = jvals (halfJ k0 js (k + 1)) ++ rest := by
  have l1 := halfJ_len k0 js k (by omega)
  have l2 := halfJ_len k0 js (k + 1) (by omega)
  rw [List.set_append_left _ _ (by rw [jvals_len, l1]; omega), List.set_append_left _ _ (by rw [List.length_set, jvals_len, l1]; omega)]
  congr 1
  apply List.ext_getElem?
  intro i
  simp only [List.getElem?_set, List.length_set, jvals_len, l1]
  rw [jvals_at, jvals_at, l1, l2]
  by_cases hi : i < js.length * 2
  · rw [if_pos hi, if_pos hi]
    by_cases e1 : k * 2 + 1 = i
    · subst e1
      rw [if_pos rfl, if_pos (by omega), jcell_odd, jf, halfJ_get, if_pos (by omega)]
      rfl
    · rw [if_neg e1]
      by_cases e2 : k * 2 = i
      · subst e2
        rw [if_pos rfl, if_pos (by omega), jcell_even, jk, halfJ_get, if_pos (by omega)]
        rfl
      · rw [if_neg e2]
        have hx : jcell (halfJ k0 js k) i = jcell (halfJ k0 js (k + 1)) i := by
          have g : (halfJ k0 js k)[i / 2]? = (halfJ k0 js (k + 1))[i / 2]? := by
            rw [halfJ_get, halfJ_get]
            by_cases h3 : i / 2 < k
            · rw [if_pos h3, if_pos (by omega)]
            · rw [if_neg h3, if_neg (by omega)]
          simp only [jcell, jk, jf, g]
        rw [hx]
  · rw [if_neg (by omega), if_neg (by omega), if_neg hi]
    rw [if_neg hi]
set_option maxHeartbeats 2000000 in
theorem markJ_own (base : Nat) (v : Value) (js : List (Int × Int)) (k0 : Int) (hk0 : 0 ≤ k0 ∧ k0 ≤ 10000000) (w : World) (h : OwnJ w base v js) :
    Calls Tryz.prog 20 #[v, .int .i64 k0] w fun e w' => e = .returned (.int .i64 (k0 + 2 * (js.length : Int))) ∧ OwnJ w' base v (marksJ k0 js.length) ∧ Below base w w' ∧ w'.heap.size = w.heap.size ∧ (∀ q T xs, T ≠ 39 → Row w q T xs → Row w' q T xs) := by
  obtain ⟨a, c, rfl, hl, k1⟩ := h
  rcases k1 with hz | ⟨g, rest, rfl, hg, R⟩
  · subst hz
    simp only [List.length_nil]
    go_enter Tryz.func20, Tryz.ntmps20
    go_wp2_with fail
    refine wp_loop_rounds 1 ?_
    rw [rounds_succ]
    go_wp2_with fail
    go_ret
    exact ⟨by simp, OwnJ.nil _ _ _ _, Below.refl _ _, rfl, fun _ _ _ _ h => h⟩
  · obtain ⟨n, hn⟩ : ∃ n, js.length = n := ⟨_, rfl⟩
    rw [hn] at hl ⊢
    have HN := hid hn
    have NEQ := hid (fun q T xs (hT : T ≠ 39) (hr : Row w q T xs) => show q ≠ g from fun e => by subst e; exact hT (row_type hr R))
    have R0 : Row w g 39 (jvals (halfJ k0 js 0) ++ rest) := by rw [halfJ_zero]; exact R
    clear hn R
    go_enter Tryz.func20, Tryz.ntmps20
    go_wp2_with fail
    go_loopw [1, 5] (fun m i wr => ∃ (k : Nat) (z : Int), k ≤ n ∧ i = .int .i64 k ∧ m = .int .i64 z ∧ z = k0 + 2 * (k : Int) ∧ Row wr g 39 (jvals (halfJ k0 js k) ++ rest) ∧ Below base w wr ∧ wr.heap.size = w.heap.size ∧ (∀ q, q ≠ g → wr.heap[q]? = w.heap[q]?)) (fun _ i _ => n - (intOf i).toNat)
    case atStart => exact ⟨0, k0, Nat.zero_le _, rfl, rfl, by simp, R0, Below.refl _ _, rfl, fun _ _ => rfl⟩
    case round =>
      clear R0
      obtain ⟨k, z, hk, rfl, rfl, hz, hrow, hB, hsz, hkk⟩ := hrel
      have HKK := hid hkk
      clear hkk
      have HZ := hid hz
      have HSZ := hid hsz
      clear hsz
      by_cases hlt : k < n
      · have hlt' : (k : Int) < (n : Int) := by omega
        have hk1 : (0 : Int) ≤ (k : Int) := by omega
        have zb : 0 ≤ z ∧ z ≤ 20000000 := by omega
        have s1 : IntKind.i64.wrap (z + 1) = z + 1 := IntWalk.i64_in _ (by omega)
        have s2 : IntKind.i64.wrap (z + 1 + 1) = z + 1 + 1 := IntWalk.i64_in _ (by omega)
        have HS := hid (halfJ_set k0 js rest k (by rw [HN.out]; exact hlt))
        have f0 := hrow.frozen (k * 2)
        have f1 := hrow.frozen (k * 2 + 1)
        have hlen : (jvals (halfJ k0 js k) ++ rest).length = n * 2 + rest.length := by rw [List.length_append, jvals_len, halfJ_len _ _ _ (by rw [HN.out]; exact hk), HN.out]
        obtain ⟨o0, h0⟩ : ∃ u, wr.cell? ⟨g, k * 2, none⟩ = some u := ⟨_, (hrow.cell (k * 2)).trans (List.getElem?_eq_getElem (by rw [hlen]; omega))⟩
        obtain ⟨o1, h1⟩ : ∃ u, wr.cell? ⟨g, k * 2 + 1, none⟩ = some u := ⟨_, (hrow.cell (k * 2 + 1)).trans (List.getElem?_eq_getElem (by rw [hlen]; omega))⟩
        have R2 := (hrow.set (k * 2) (.int .i8 (mJ8 (k0 + 2 * (k : Int))))).set (k * 2 + 1) (.int .i16 (mJ16 (k0 + 2 * (k : Int) + 1)))
        rw [HS.out] at R2
        have B2 := hid ((hB.setCell (p := ⟨g, k * 2, none⟩) hg (.int .i8 (mJ8 (k0 + 2 * (k : Int))))).setCell (p := ⟨g, k * 2 + 1, none⟩) hg (.int .i16 (mJ16 (k0 + 2 * (k : Int) + 1))))
        have t1 : IntKind.i8.wrap z = mJ8 (k0 + 2 * (k : Int)) := by rw [hz]; rfl
        have t2 : IntKind.i16.wrap (z + 1) = mJ16 (k0 + 2 * (k : Int) + 1) := by rw [hz]; rfl
        clear hz
        have R3 := hid R2
        clear R2 hrow hB hlen
        go_wp2_with fail
        go_roundw
        case rel => exact ⟨k + 1, z + 1 + 1, by omega, by go_num, rfl, by have := HZ.out; omega, R3.out, B2.out, by simpa using HSZ.out, fun q hq => (Below.heap_setCell _ ⟨g, k * 2 + 1, none⟩ _ q (fun e => hq e)).trans ((Below.heap_setCell wr ⟨g, k * 2, none⟩ _ q (fun e => hq e)).trans (HKK.out q hq))⟩
        case measure => simp [intOf]; omega
      · obtain rfl : k = n := by omega
        clear hz
        have R3 := hid hrow
        clear hrow
        go_wp2_with fail
        go_ret
        refine ⟨by rw [← HZ.out]; rfl, ⟨some ⟨g, 0, none⟩, c, by rw [marksJ_len], by rw [marksJ_len]; exact hl, .inr ⟨g, rest, rfl, hg, ?_⟩⟩, hB, HSZ.out, fun q T xs hT hr => (HKK.out q (NEQ.out q T xs hT hr)).trans hr⟩
        have := R3.out
        rw [← HN.out, halfJ_all] at this
        rw [← HN.out]
        exact this
theorem marksJ_get (k0 : Int) (n k : Nat) (h : k < n) : jk (marksJ k0 n) k = mJ8 (k0 + 2 * (k : Int)) ∧ jf (marksJ k0 n) k = mJ16 (k0 + 2 * (k : Int) + 1) := by
  simp [jk, jf, marksJ, h]
set_option maxHeartbeats 2000000 in
theorem heldJ_own (base : Nat) (v : Value) (n : Nat) (k0 : Int) (hk0 : 0 ≤ k0 ∧ k0 ≤ 10000000) (w : World) (h : OwnJ w base v (marksJ k0 n)) :
    Calls Tryz.prog 22 #[v, .int .i64 k0] w fun e w' => e = .returned (.int .i64 (k0 + 2 * (n : Int))) ∧ ∃ d, w' = w.drewN d := by
  obtain ⟨a, c, rfl, hl, k1⟩ := h
  rw [marksJ_len] at hl ⊢
  rcases k1 with hz | ⟨g, rest, rfl, hg, R⟩
  · have h0 : n = 0 := by have := congrArg List.length hz; simpa [marksJ_len] using this
    subst h0
    go_enter Tryz.func22, Tryz.ntmps22
    go_wp2_with fail
    refine wp_loop_rounds 1 ?_
    rw [rounds_succ]
    go_wp2_with fail
    go_ret
    exact ⟨by simp, 0, rfl⟩
  · have C := hid (fun j (hj : j < n) => (OwnJ.jst R (by rw [marksJ_len]; exact hl)).2.1 j (by rw [marksJ_len]; exact hj))
    clear R
    go_enter Tryz.func22, Tryz.ntmps22
    go_wp2_with fail
    go_loopw [1, 5] (fun m i wr => ∃ (k : Nat) (z : Int), k ≤ n ∧ i = .int .i64 k ∧ m = .int .i64 z ∧ z = k0 + 2 * (k : Int) ∧ ∃ d, wr = w.drewN d) (fun _ i _ => n - (intOf i).toNat)
    case atStart => exact ⟨0, k0, Nat.zero_le _, rfl, rfl, by simp, 0, rfl⟩
    case round =>
      obtain ⟨k, z, hk, rfl, rfl, hz, d, rfl⟩ := hrel
      have HZ := hid hz
      by_cases hlt : k < n
      · have hlt' : (k : Int) < (n : Int) := by omega
        have hk1 : (0 : Int) ≤ (k : Int) := by omega
        have zb : 0 ≤ z ∧ z ≤ 20000000 := by omega
        have s1 : IntKind.i64.wrap (z + 1) = z + 1 := IntWalk.i64_in _ (by omega)
        have s2 : IntKind.i64.wrap (z + 1 + 1) = z + 1 + 1 := IntWalk.i64_in _ (by omega)
        have cc := C.out k hlt
        rw [(marksJ_get k0 n k hlt).1, (marksJ_get k0 n k hlt).2] at cc
        have c0 := cc.1
        have c1 := cc.2
        have t1 : IntKind.i8.wrap z = mJ8 (k0 + 2 * (k : Int)) := by rw [hz]; rfl
        have t2 : IntKind.i16.wrap (z + 1) = mJ16 (k0 + 2 * (k : Int) + 1) := by rw [hz]; rfl
        clear hz
        have b0 : (mJ8 (k0 + 2 * (k : Int)) != mJ8 (k0 + 2 * (k : Int))) = false := by simp
        have b1 : (mJ16 (k0 + 2 * (k : Int) + 1) != mJ16 (k0 + 2 * (k : Int) + 1)) = false := by simp
        clear cc
        go_wp2_with fail
        all_goals (try (go_quiet (fail); go_wp2_with fail))
        go_roundw
        case rel => exact ⟨k + 1, z + 1 + 1, by omega, by go_num, rfl, by have := HZ.out; omega, _, rfl⟩
        case measure => simp [intOf]; omega
      · obtain rfl : k = n := by omega
        clear hz
        go_wp2_with fail
        go_ret
        exact ⟨by rw [← HZ.out]; rfl, d, rfl⟩
theorem owns_jst {w : World} {base n : Nat} {v : Value} {js : List (Int × Int)} (h : w.ownsRow base 39 2 v n (jvals js)) (hn : 1 ≤ n) (hl : js.length ≤ 1048576) : ∃ g cp, v = .slice (some ⟨g, 0, none⟩) n cp ∧ base ≤ g ∧ Jst w g js := by
  rcases h.2 with ⟨_, h2⟩ | ⟨g, cap, cur, h2, h3, h4, h5, h6, h7, h8⟩
  · omega
  · have hr : Row w g 39 (jvals js ++ cur.toList.drop (n * 2)) := by
      unfold Row
      rw [h4, ← h8, List.take_append_drop]
    exact ⟨g, cap, h2, h3, OwnJ.jst hr hl⟩
end Go.Proofs.YtklkdbfdejabiaaGreatDoor
