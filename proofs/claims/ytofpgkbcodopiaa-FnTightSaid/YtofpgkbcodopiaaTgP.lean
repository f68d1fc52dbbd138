/- FnTight: what the functions answer over a log that is drawn. -/
import Derived.Test.YtofpgkbcodopiaaTgM
import Derived.Test.YtofpgkbcodopiaaPoM
import Derived.Test.YtofpgkbcodopiaaTvals
import Derived.Test.YtofpgkbcodopiaaLawsTI
import Derived.Test.YtofpgkbcodopiaaCsS
namespace Go.Proofs.Ytofpgkbcodopiaa
open Go.RowKit
set_option linter.unusedVariables false
set_option linter.unusedSimpArgs false
/-- a log that is drawn is not nil, even where it is empty -/
theorem own_rstN {w : World} {base n : Nat} {v : Value} {js : List (Int × Int)} (h : w.ownsRow base 38 2 v n (tvals js)) (hv : v.ownBlock ≠ none) (hl : js.length ≤ 1048576) : ∃ g cp, v = .slice (some ⟨g, 0, none⟩) n cp ∧ n ≤ cp ∧ Rst w g js := by
  have hn : js.length = n := by have := h.1; rw [tvals_len] at this; omega
  rcases h.2 with ⟨rfl, h2⟩ | ⟨g, cap, cur, h2, h3, h4, h5, h6, h7, h8⟩
  · exact absurd rfl hv
  · have hr : Row w g 38 (tvals js ++ cur.toList.drop (n * 2)) := by
      unfold Row
      rw [h4, ← h8, List.take_append_drop]
    exact ⟨g, cap, h2, h5, hr.lt, fun j hj => ⟨(hr.cell _).trans (tvals_get js _ j hj).1, (hr.cell _).trans (tvals_get js _ j hj).2⟩, hl⟩
theorem okG_drawn {Z : List Int} {js : List (Int × Int)} {d : Int} (hZ : okL Z = true) (hl : js.length ≤ 8) (h : LogP (szL Z) js d) : okG Z js = true := by
  obtain ⟨h1, h2, h3, h4⟩ := h
  refine okG_yes hZ (by omega) (fun j hj => ?_) (fun j hj => h2 j hj)
  have := h1 j hj
  unfold okRd
  exact decide_eq_true ⟨this.1, by omega, this.2.2.1, this.2.2.2⟩
/-- the flow of a log that is drawn -/
theorem ti_drawn {Z : List Int} {js : List (Int × Int)} (hg : okG Z js = true) (hz : szL Z ≤ 1000) : ∃ L F : Int, tiR Z js 1000 = ((L, F), 0) ∧ (0 ≤ L ∧ L ≤ F ∧ F ≤ 1000) ∧ (∀ x : Fin (js.length - 1), susI (szL Z) js L F x.1 = false) ∧ (0 < F → (∃ x : Fin (js.length - 1), susI (szL Z) js 0 (F - 1) x.1 = true) ∧ tiR Z js (F - 1) = ((0, 0), 6)) ∧ (L < F → ∃ x : Fin (js.length - 1), susI (szL Z) js (L + 1) F x.1 = true) := by
  have hd : ∀ x : Fin (js.length - 1), 1 ≤ dyI js x.1 := fun x => (okG_dy hg x).1
  obtain ⟨_, _, _, z1, z2⟩ := okL_out (okG_out hg).1
  have hlt := hiP_lt (js := js) z1 hd
  have hge := hiP_ge (szL Z) js (List.finRange (js.length - 1))
  have e := tiR_yes (most := 1000) hg (by omega) (show hiP (szL Z) js (List.finRange (js.length - 1)) ≤ 1000 by omega)
  have hb := loP_bd (js := js) hge ⟨z1, z2⟩ hd (fun x => hiP_all (szL Z) js x) (List.finRange (js.length - 1))
  refine ⟨_, _, e, ⟨hb.1, hb.2, by omega⟩, fun x => tight_none z1 hd x, fun h => ⟨tight_hi z1 hd h, tiR_none hg (by omega) (by omega)⟩, fun h => tight_lo z1 hd h⟩
theorem susP_eq (z : Int) (js : List (Int × Int)) (lo hi : Int) (k : Nat) : suspP z js lo hi k = susI z js lo hi k := rfl
theorem own_sl {w : World} {base : Nat} {v : Value} {zs : List Int} (h : OwnI w base v zs) : ∃ a cp, v = .slice a zs.length cp := by
  obtain ⟨a, cp, h1, _⟩ := h
  exact ⟨a, cp, h1⟩
/-- with a flow that leaves no interval suspect -/
theorem sus_none (bS nS capS : Nat) (zs : List Int) (hnS : nS = zs.length) (b n cap : Nat) (js : List (Int × Int)) (hn : n = js.length) (lo hi : Int) (hg : okG zs js = true) (hf : okF lo hi = true) (h : ∀ x : Fin (js.length - 1), susI (szL zs) js lo hi x.1 = false) (w : World) (hS : Stk w bS zs) (hR : Rst w b js) :
    Calls Try.prog 8 #[.slice (some ⟨bS, 0, none⟩) nS capS, .slice (some ⟨b, 0, none⟩) n cap, .agg #[.int .i64 lo, .int .i64 hi]] w fun e w' => (∃ a cp, e = .returned (.tuple #[.slice a 0 cp, .int .i64 0])) ∧ Below w.heap.size w w' := by
  have := implSusp_any bS nS capS zs hnS b n cap js hn lo hi w hS hR
  rw [hf, endsR_yes hg] at this
  refine this.mono ?_
  rintro e w' ⟨v, rfl, ho, hB⟩
  obtain ⟨a, cp, rfl⟩ := own_sl ho
  refine ⟨⟨a, cp, ?_⟩, hB⟩
  simp only
  rw [endsP_none (suspP (szL zs) js lo hi) (fun x => h x)]
/-- with a flow that makes some interval suspect -/
theorem sus_some (bS nS capS : Nat) (zs : List Int) (hnS : nS = zs.length) (b n cap : Nat) (js : List (Int × Int)) (hn : n = js.length) (lo hi : Int) (hg : okG zs js = true) (hf : okF lo hi = true) (h : ∃ x : Fin (js.length - 1), susI (szL zs) js lo hi x.1 = true) (w : World) (hS : Stk w bS zs) (hR : Rst w b js) :
    Calls Try.prog 8 #[.slice (some ⟨bS, 0, none⟩) nS capS, .slice (some ⟨b, 0, none⟩) n cap, .agg #[.int .i64 lo, .int .i64 hi]] w fun e w' => (∃ a m cp, e = .returned (.tuple #[.slice a (m + 1) cp, .int .i64 0]) ∧ m ≤ 1048576) ∧ Below w.heap.size w w' := by
  obtain ⟨x, hx⟩ := h
  have hp := endsP_some (suspP (szL zs) js lo hi) x hx
  have hle := endsP_len (suspP (szL zs) js lo hi) (List.finRange (js.length - 1))
  rw [List.length_finRange] at hle
  have := implSusp_any bS nS capS zs hnS b n cap js hn lo hi w hS hR
  rw [hf, endsR_yes hg] at this
  refine this.mono ?_
  rintro e w' ⟨v, rfl, ho, hB⟩
  obtain ⟨a, cp, rfl⟩ := own_sl ho
  obtain ⟨m, hm⟩ : ∃ m, (endsP (suspP (szL zs) js lo hi) (List.finRange (js.length - 1))).length = m + 1 := ⟨_, (Nat.sub_add_cancel hp).symm⟩
  have h40 := (okG_out hg).2.1
  refine ⟨⟨a, m, cp, ?_, by omega⟩, hB⟩
  simp only
  rw [hm]
set_option maxHeartbeats 1000000 in
theorem has_nilN (a : Option Addr) (cap : Nat) (x : Int) (w : World) : Calls Try.prog 36 #[.slice a 0 cap, .int .i64 x] w fun e w' => e = .returned (.bool false) ∧ w = w' := by
  go_enter Try.func36, Try.ntmps36
  go_wp2_with fail
  refine wp_loop_rounds 1 ?_
  rw [rounds_succ]
  go_wp2_with fail
  go_ret
  exact ⟨rfl, rfl⟩
theorem Row.lstR {w : World} {g : Nat} {ks : List Int} {rest : List Value} (h : Row w g 2 (ks.map (Value.int .i64) ++ rest)) (hz : ∀ z ∈ ks, -9223372036854775808 ≤ z ∧ z ≤ 9223372036854775807) (hl : ks.length ≤ 1048576) : Lst w g ks :=
  ⟨h.lt, fun j hj => by rw [h.cell, List.getElem?_append_left (by simpa using hj)]; simp [hj], hz, hl⟩
/-- whether a list holds a number -/
theorem a2Has_any (base : Nat) (v : Value) (ks : List Int) (hz : ∀ z ∈ ks, -9223372036854775808 ≤ z ∧ z ≤ 9223372036854775807) (hl : ks.length ≤ 1048576) (x : Int) (w : World) (h : OwnI w base v ks) :
    Calls Try.prog 10 #[v, .int .i64 x] w fun e w' => e = .returned (.bool (hasL ks x)) ∧ w = w' := by
  obtain ⟨a, cp, rfl, _, h3⟩ := h
  have H : Hid (Calls Try.prog 36 #[.slice a ks.length cp, .int .i64 x] w fun e w' => e = .returned (.bool (hasL ks x)) ∧ w = w') := by
    rcases h3 with rfl | ⟨g, rest, rfl, _, hr⟩
    · exact hid (has_nilN a cp x w)
    · exact hid (has_any g ks.length cp ks rfl x w (hr.lstR hz hl))
  obtain ⟨m, hm⟩ : ∃ m, ks.length = m := ⟨_, rfl⟩
  obtain ⟨r, hr⟩ : ∃ r, hasL ks x = r := ⟨_, rfl⟩
  rw [hm, hr] at H
  rw [hm, hr]
  clear h3 hz hl hm hr
  go_enter Try.func10, Try.ntmps10
  go_wp2_with fail
  with_reducible refine H.out.mono ?_
  rintro e w1 ⟨rfl, hw⟩
  subst hw
  go_wp2_with fail
  go_ret
  exact ⟨rfl, rfl⟩
/-- what GoesBack finds -/
theorem down_any (bS nS capS : Nat) (zs : List Int) (hnS : nS = zs.length) (b n cap : Nat) (js : List (Int × Int)) (hn : n = js.length) (hg : okG zs js = true) (w : World) (hS : Stk w bS zs) (hR : Rst w b js) :
    Calls Try.prog 9 #[.slice (some ⟨bS, 0, none⟩) nS capS, .slice (some ⟨b, 0, none⟩) n cap] w fun e w' => ∃ v, e = .returned (.tuple #[v, .int .i64 0]) ∧ OwnI w' w.heap.size v (endsP (backP js) (List.finRange (js.length - 1))) ∧ Below w.heap.size w w' := by
  have := implBackL_any bS nS capS zs hnS b n cap js hn w hS hR
  rw [endsR_yes hg] at this
  exact this
theorem endsP_in {m : Nat} (P : Nat → Bool) (hm : m ≤ 40) : (∀ z ∈ endsP P (List.finRange m), -9223372036854775808 ≤ z ∧ z ≤ 9223372036854775807) ∧ (endsP P (List.finRange m)).length ≤ 1048576 := by
  constructor
  · intro z hz
    unfold endsP at hz
    obtain ⟨y, _, rfl⟩ := List.mem_map.1 hz
    have := y.2
    omega
  · have := endsP_len P (List.finRange m)
    rw [List.length_finRange] at this
    omega
end Go.Proofs.Ytofpgkbcodopiaa
