/- impl.LeastStack within its range; the two as one. -/
import Derived.Test.YtobephnmbpoopaaLsW
import Derived.Test.YtobephnmbpoopaaOwnB
import Derived.Deep.DeepCutAuto
namespace Go.Proofs.Ytobephnmbpoopaa
open Go.RowKit
set_option linter.unusedVariables false
set_option linter.unusedSimpArgs false
theorem base_fits {size : Int} {n : Nat} {b : Int} (h : baseIs size n b) (hb : b ≤ 100) (hn : 1 ≤ n) : size ≤ b ^ (n - 1) * b := by
  rcases h.2.2 with h2 | h2
  · omega
  · rw [show n = (n - 1) + 1 by omega, Int.pow_succ] at h2
    simpa using h2
set_option maxRecDepth 100000 in
set_option maxHeartbeats 2000000 in
theorem implLeastStack_in (size : Int) (n : Nat) (hs : 1 ≤ size) (hs2 : size ≤ 1000000000000) (hn : 1 ≤ n) (h8 : n ≤ 8) (b : Int) (hbi : baseIs size n b) (h100 : b ≤ 100) (w : World) : Calls Try.prog 6 #[.int .i64 size, .int .i64 (n : Int)] w (LsG size n w) := by
  have HB := hid (leastBase_any size n h8 w)
  have HBI := hid hbi
  have h2 : 2 ≤ b := hbi.1
  obtain ⟨m, hm⟩ : ∃ m, n - 1 = m := ⟨_, rfl⟩
  have hfit := base_fits hbi h100 hn
  rw [hm] at hfit
  have HPW := hid (fun W => power_any b ⟨h2, h100⟩ m (by omega) W)
  have hP1 := (powW (b := b) ⟨h2, h100⟩ (k := m) (by omega)).1
  have hP2 := (powW (b := b) ⟨h2, h100⟩ (k := m) (by omega)).2
  obtain ⟨P, hP⟩ : ∃ y, b ^ m = y := ⟨_, rfl⟩
  rw [hP] at HPW hP1 hP2 hfit
  have HTL := hid (lastW_le hP1 h2 hfit)
  obtain ⟨t, ht⟩ : ∃ t, lastW size P = t := ⟨_, rfl⟩
  rw [ht] at HTL
  have HEE := hid (show lsL b n (lastW size (b ^ (n - 1))) = lsL b n t from by rw [hm, hP, ht])
  have HT := hid ht
  have HM := hid hm
  obtain ⟨D, hD⟩ : ∃ y, (size + P - 1).tdiv P = y := ⟨_, rfl⟩
  have hDt : max 2 D = t := by
    rw [← ht, ← hD]; unfold lastW
    rw [Int.tdiv_eq_ediv_of_nonneg (by omega)]
  have hD0 : 0 ≤ D := by rw [← hD]; exact Int.tdiv_nonneg (by omega) (by omega)
  have hDe : (size + P - 1) / P = D := by rw [← hD, Int.tdiv_eq_ediv_of_nonneg (by omega)]
  have hDb : D ≤ 100 := by have := HTL.out; omega
  have wD : IntKind.i64.wrap D = D := IntWalk.i64_in _ (by omega)
  have MX : ∀ w, Sem.run Try.prog (Builtin.max_ #[2, 2] 2 #[.int .i64 2, .int .i64 D]) w = .ok (.int .i64 t) w := fun w => by
    have : (if D > 2 then D else 2) = max 2 D := by split <;> omega
    rw [← hDt, ← this]; rfl
  have wS : IntKind.i64.wrap (size + P) = size + P := IntWalk.i64_in _ (by omega)
  have wX : IntKind.i64.wrap (size + P - 1) = size + P - 1 := IntWalk.i64_in _ (by omega)
  have hmx : (if 2 < D then D else 2) = t := by rw [← hDt]; split <;> omega
  have nP : P ≠ 0 := by omega
  have wt : IntKind.u8.wrap t = t := by have := HTL.out; simp only [IntKind.wrap, IntKind.signed, IntKind.bits]; simp; omega
  have wb : IntKind.u8.wrap b = b := by simp only [IntKind.wrap, IntKind.signed, IntKind.bits]; simp; omega
  have qw : IntKind.i64.wrap ((n : Int) - 1) = (m : Int) := by rw [show (n : Int) - 1 = (m : Int) by omega]; exact IntWalk.i64_in _ (by omega)
  have wn : IntKind.i64.wrap (n : Int) = (n : Int) := IntWalk.i64_in _ (by omega)
  have q0 : (0 : Int) ≤ (m : Int) := by omega
  have q1 : (m : Int) < (n : Int) := by omega
  have a1 : ¬ size < 1 := by omega
  have a2 : ¬ 1000000000000 < size := by omega
  have a3 : ¬ (n : Int) < 1 := by omega
  have a4 : ¬ (8 : Int) < (n : Int) := by omega
  have a5 : ¬ 100 < b := by omega
  have HRP := hid (fun (W : World) (g0 : Nat) (h0 : Row W g0 5 [.int .u8 b]) => repeat_any b ⟨h2, h100⟩ n g0 hn h8 W h0)
  have HN := hid (And.intro hn (And.intro h8 (And.intro h2 h100)))
  clear hbi hs hs2 hn h8 hm hP hfit ht hP1 hP2 hD0 hDb hDt
  go_enter Try.func6, Try.ntmps6
  go_wp2_with fail
  refine HB.out.mono ?_
  rintro e w1 ⟨⟨b', rfl, hbb, _⟩, hw⟩
  subst hw
  obtain rfl := base_uniq hbb HBI.out
  clear hbb
  have R1 := Row.new w1 5 [.int .u8 b']
  have B1 := hid (show Below w1.heap.size w1 (w1.alloc (.cells #[.int .u8 b'] 5)) from (Below.refl _ _).alloc (Nat.le_refl _) _)
  have HR1 := hid R1
  clear R1
  go_wp2_with fail
  refine (HRP.out _ _ HR1.out).mono ?_
  rintro e w2 ⟨v, rfl, hO, hB2⟩
  obtain ⟨g, cp, rst, rfl, hg, hr, hS⟩ := stk_rep hO HN.out.1 HN.out.2.1 HN.out.2.2
  have hsz : (w1.alloc (.cells #[.int .u8 b'] 5)).heap.size = w1.heap.size + 1 := by simp
  have HO := hid (owns_low hO (show w1.heap.size ≤ (w1.alloc (.cells #[.int .u8 b'] 5)).heap.size by omega))
  have HB2 := hid (B1.out.trans (hB2.mono (show w1.heap.size ≤ (w1.alloc (.cells #[.int .u8 b'] 5)).heap.size by omega)))
  have HG := hid (show w1.heap.size ≤ g by omega)
  have HR := hid hr
  have qc : n ≤ cp := by
    rcases hO.2 with ⟨h, _⟩ | ⟨g', cap', cur, h, h3, h4, h5, h6, h7, h8'⟩
    · cases h
    · injection h with _ _ e3; omega
  clear hO hB2 hg hr hS hsz
  go_wp2_with fail
  refine (HPW.out _).mono ?_
  rintro e w3 ⟨rfl, hw⟩
  subst hw
  have hmn : m < n := by omega
  have y0 : w3.cell? ⟨g, m, none⟩ = some (.int .u8 b') := by rw [HR.out.cell m, List.getElem?_append_left (by simp; omega), List.getElem?_map]; simp [hmn]
  have f0 := HR.out.frozen m
  have o5 := rep_set HO.out HN.out.1 (t := t)
  rw [HM.out] at o5
  obtain ⟨W5, hW5⟩ : ∃ y, y = w3.setCell ⟨g, m, none⟩ (.int .u8 t) := ⟨_, rfl⟩
  have b5 : Below w1.heap.size w1 W5 := by rw [hW5]; exact HB2.out.setCell HG.out _
  rw [← hW5] at o5
  have s5 : Stk W5 g (lsL b' n t) := stk_set o5 (fun z hz => by
    unfold lsL at hz
    simp at hz
    have h1 := HTL.out; have h2 := HN.out
    rcases hz with ⟨_, rfl⟩ | rfl <;> omega) (by rw [lsL_len b' n t HN.out.1]; have := HN.out; omega)
  have HOK := hid (validStack_any g n cp (lsL b' n t) W5 s5 (lsL_len b' n t HN.out.1).symm)
  obtain ⟨r, hr⟩ : ∃ r, okL (lsL b' n t) = r := ⟨_, rfl⟩
  rw [hr] at HOK
  have HRR := hid hr; have H5 := hid b5; have HO5 := hid o5; have HV := hid hW5
  clear hr b5 o5 s5 hW5
  go_upto_region 9 with fail
  rw [← HV.out]
  go_wp2_with fail
  refine HOK.out.mono ?_
  rintro e w6 ⟨rfl, hw⟩
  subst hw
  have HLL := lsL_len b' n t HN.out.1
  cases r
  · go_wp2_with fail
    exact bodyPost_ret (v := .tuple #[.slice none 0 0, .int .i64 3]) (by simp [results, Try.results6, go_sem]) rfl ⟨b', _, 3, HBI.out, by omega, rfl, H5.out, .inr ⟨by omega, .inl ⟨by rw [HEE.out, HRR.out], rfl, .inl ⟨rfl, _, _, rfl⟩⟩⟩⟩
  · go_wp2_with fail
    exact bodyPost_ret (v := .tuple #[.slice (some ⟨g, 0, none⟩) n cp, .int .i64 0]) (by simp [results, Try.results6, go_sem]) rfl ⟨b', _, 0, HBI.out, by omega, rfl, H5.out, .inr ⟨by omega, .inr ⟨by rw [HEE.out, HRR.out], rfl, .inr (by rw [HEE.out, HLL]; exact HO5.out)⟩⟩⟩
/-- what both give -/
def LsR (r : List Int × Int) (w : World) (e : Ending) (w' : World) : Prop := ∃ v, e = .returned (.tuple #[v, .int .i64 r.2]) ∧ OwnB w' w.heap.size v r.1 ∧ Below w.heap.size w w'
theorem OwR.b {w : World} {base : Nat} {v : Value} {E : List Int} (h : OwR w base v E) (hl : E.length ≤ 8) : OwnB w base v E := by
  rcases h with ⟨rfl, a, cp, rfl⟩ | h
  · exact OwnB.nil _ _ _ _
  · exact OwnB.of_owns h (by omega)
theorem LsG.r {size : Int} {n : Nat} {w : World} {b : Int} (hn : 1 ≤ n) (h8 : n ≤ 8) (hb : baseIs size n b) {e : Ending} {w' : World} (h : LsG size n w e w') : LsR (if b = 101 then ([], 3) else if okL (lsL b n (lastW size (b ^ (n - 1)))) = true then (lsL b n (lastW size (b ^ (n - 1))), 0) else ([], 3)) w e w' := by
  obtain ⟨b', v, c, hb', h1, rfl, hB, h⟩ := h
  obtain rfl := base_uniq hb' hb
  rcases h with ⟨h3, rfl, ho⟩ | ⟨h3, ⟨h4, rfl, ho⟩ | ⟨h4, rfl, ho⟩⟩
  · rw [if_pos h3]; exact ⟨v, rfl, ho.b (by simp), hB⟩
  · rw [if_neg (by omega), if_neg (by simp [h4])]; exact ⟨v, rfl, ho.b (by simp), hB⟩
  · rw [if_neg (by omega), if_pos h4]; exact ⟨v, rfl, ho.b (by rw [lsL_len _ _ _ hn]; omega), hB⟩
theorem LsN.r {w : World} {e : Ending} {w' : World} (h : LsN w e w') : LsR ([], 2) w e w' := by
  obtain ⟨v, rfl, ho, hB⟩ := h
  exact ⟨v, rfl, ho.b (by simp), hB⟩
theorem base_ex (size : Int) (n : Nat) : ∃ b, baseIs size n b ∧ b ≤ 101 := by
  have step : ∀ k : Nat, ∀ b : Int, 2 ≤ b → b ≤ 101 → 101 - b = k → (∀ c : Int, 2 ≤ c → c < b → c ≤ 100 ∧ c ^ n < size) → ∃ b, baseIs size n b ∧ b ≤ 101 := by
    intro k
    induction k with
    | zero => intro b h2 h3 hk hA; exact ⟨b, ⟨h2, hA, .inl (by omega)⟩, h3⟩
    | succ k ih =>
      intro b h2 h3 hk hA
      by_cases hc : b ^ n < size
      · exact ih (b + 1) (by omega) (by omega) (by omega) (base_next hA (by omega) hc)
      · exact ⟨b, ⟨h2, hA, .inr (by omega)⟩, h3⟩
  exact step 99 2 (by omega) (by omega) (by omega) (base_first size n)
/-- both answers as one pair -/
theorem both_any (size n : Int) : ∃ E : List Int, ∃ c : Int, (∀ w, Calls Try.prog 7 #[.int .i64 size, .int .i64 n] w (LsR (E, c) w)) ∧ (∀ w, Calls Try.prog 6 #[.int .i64 size, .int .i64 n] w (LsR (E, c) w)) := by
  by_cases h : (1 ≤ size ∧ size ≤ 1000000000000) ∧ 1 ≤ n ∧ n ≤ 8
  · obtain ⟨m, rfl⟩ : ∃ m : Nat, n = m := ⟨n.toNat, by omega⟩
    have h1 : 1 ≤ m := by omega
    have h8 : m ≤ 8 := by omega
    obtain ⟨b, hb, hb1⟩ := base_ex size m
    refine ⟨_, _, fun w => (specLeastStack_in size m h.1.1 h.1.2 h1 h8 w).mono fun _ _ k => k.r h1 h8 hb, fun w => ?_⟩
    by_cases h100 : b ≤ 100
    · exact (implLeastStack_in size m h.1.1 h.1.2 h1 h8 b hb h100 w).mono fun _ _ k => k.r h1 h8 hb
    · obtain rfl : b = 101 := by omega
      exact (implLeastStack_great size m h.1.1 h.1.2 h1 h8 hb w).mono fun _ _ k => k.r h1 h8 hb
  · exact ⟨[], 2, fun w => (specLeastStack_out size n h w).mono fun _ _ k => k.r, fun w => (implLeastStack_out size n h w).mono fun _ _ k => k.r⟩
end Go.Proofs.Ytobephnmbpoopaa
