/- spec.LeastStack, within its range. -/
import Derived.Test.YtobephnmbpoopaaLsS
namespace Go.Proofs.Ytobephnmbpoopaa
open Go.RowKit
set_option linter.unusedVariables false
set_option linter.unusedSimpArgs false
theorem owns_low {w : World} {b' base size n : Nat} {e : TypeId} {v : Value} {xs : List Value} (h : w.ownsRow base e size v n xs) (hb : b' ≤ base) : w.ownsRow b' e size v n xs := by
  obtain ⟨h1, h2 | ⟨g, cap, cur, h2, h3, r⟩⟩ := h
  · exact ⟨h1, .inl h2⟩
  · exact ⟨h1, .inr ⟨g, cap, cur, h2, by omega, r⟩⟩
theorem stk_set {w : World} {base g n cp : Nat} {zs : List Int} (h : w.ownsRow base 5 1 (.slice (some ⟨g, 0, none⟩) n cp) n (zs.map (Value.int .u8))) (hz : ∀ z ∈ zs, 0 ≤ z ∧ z ≤ 255) (hl : zs.length ≤ 1048576) : Stk w g zs := by
  rcases h.2 with ⟨h2, _⟩ | ⟨g', cap, cur, h2, h3, h4, h5, h6, h7, h8⟩
  · cases h2
  · injection h2 with e1 e2 e3
    injection e1 with e1
    injection e1 with e1
    subst e1
    have hr : Row w g 5 (zs.map (Value.int .u8) ++ cur.toList.drop (n * 1)) := by
      unfold Row
      rw [h4, ← h8, List.take_append_drop]
    refine ⟨hr.lt, fun j hj => ?_, hz, hl⟩
    rw [hr.cell j, List.getElem?_append_left (by simpa using hj), List.getElem?_map, List.getElem?_eq_getElem hj]
    rfl
theorem last_less {P size t : Int} (hs : size ≤ 1000000000000) (hP : 1 ≤ P) (ht : 2 ≤ t) : size ≤ min P 1000000000001 * (t - 1) ↔ size ≤ P * (t - 1) := by
  by_cases c : P ≤ 1000000000001
  · rw [Int.min_eq_left c]
  · rw [Int.min_eq_right (by omega)]
    have h2 : P * 1 ≤ P * (t - 1) := Int.mul_le_mul_of_nonneg_left (by omega) (by omega)
    constructor <;> intro _ <;> omega
set_option maxRecDepth 100000 in
set_option maxHeartbeats 1500000 in
theorem specLeastStack_in (size : Int) (n : Nat) (hs : 1 ≤ size) (hs2 : size ≤ 1000000000000) (hn : 1 ≤ n) (h8 : n ≤ 8) (w : World) : Calls Try.prog 7 #[.int .i64 size, .int .i64 (n : Int)] w (LsG size n w) := by
  have HI1 := hid (l00In_yes size 1 1000000000000 hs hs2)
  have HI2 := hid (l00In_yes (n : Int) 1 8 (by omega) (by omega))
  go_enter Try.func7, Try.ntmps7
  go_wp2_with fail
  refine (HI1.out _).mono ?_
  rintro e w1 ⟨rfl, hw⟩
  subst hw
  go_wp2_with fail
  refine (HI2.out _).mono ?_
  rintro e w1' ⟨rfl, hw⟩
  subst hw
  go_wp2_with fail
  go_loopw [6] (fun i wr => ∃ b : Int, i = .int .i64 b ∧ 2 ≤ b ∧ b ≤ 101 ∧ (∀ c : Int, 2 ≤ c → c < b → c ≤ 100 ∧ c ^ n < size) ∧ Below w1'.heap.size w1' wr) (fun i _ => (101 - intOf i).toNat)
  case atStart => exact ⟨2, rfl, by omega, by omega, base_first size n, Below.refl _ _⟩
  case round =>
    obtain ⟨b, rfl, h2, h101, hA, hB⟩ := hrel
    by_cases h100 : b ≤ 100
    · have HAL := hid (fun W => l01Alike_any b ⟨h2, h100⟩ n h8 W)
      have wb : IntKind.i64.wrap (b + 1) = b + 1 := IntWalk.i64_in _ (by omega)
      have HA := hid hA; have HB := hid hB; have hzr := hB.size
      clear hA hB
      go_wp2_with fail
      refine (HAL.out _).mono ?_
      rintro e w2 ⟨v, rfl, hO, hB2⟩
      obtain ⟨g, cp, rst, rfl, hg, hr, hS⟩ := stk_rep hO hn h8 ⟨h2, h100⟩
      have HRS := hid (rep_size g n n cp b w2 hS (Nat.le_refl _) ⟨h2, h100⟩)
      have HB2 := hid (HB.out.trans (hB2.mono hzr))
      have HL := hid (rep_less (b := b) (m := n) hs2)
      obtain ⟨M, hM⟩ : ∃ y, min (b ^ n) 1000000000001 = y := ⟨_, rfl⟩
      rw [hM] at HRS HL
      clear hM hO hr hS hB2
      by_cases hless : M < size
      · go_wp2_with fail
        refine HRS.out.mono ?_
        rintro e w3 ⟨rfl, hw⟩
        subst hw
        go_wp2_with fail
        go_roundw
        case rel => exact ⟨b + 1, rfl, by omega, by omega, base_next HA.out h100 (HL.out.1 hless), HB2.out⟩
        case measure => simp [intOf]; omega
      · have HBI := hid (show baseIs size n b from ⟨h2, HA.out, .inr (by have : ¬ b ^ n < size := fun h => hless (HL.out.2 h); omega)⟩)
        go_wp2_with fail
        refine HRS.out.mono ?_
        rintro e w3 ⟨rfl, hw⟩
        subst hw
        go_wp2_with fail
        clear hless HRS HL
        refine (HAL.out _).mono ?_
        rintro e w4 ⟨v4, rfl, hO4, hB4⟩
        obtain ⟨g4, cp4, rst4, rfl, hg4, hr4, hS4⟩ := stk_rep hO4 hn h8 ⟨h2, h100⟩
        obtain ⟨m, hm⟩ : ∃ m, n - 1 = m := ⟨_, rfl⟩
        have HRS := hid (rep_size g4 n m cp4 b w4 hS4 (by omega) ⟨h2, h100⟩)
        have hP1 := (powW (b := b) ⟨h2, h100⟩ (k := m) (by omega)).1
        have HBP := hid (show size ≤ b ^ m * b from by
          rcases HBI.out.2.2 with h | h
          · omega
          · rw [show n = m + 1 by omega, Int.pow_succ] at h; exact h)
        obtain ⟨P, hP⟩ : ∃ y, b ^ m = y := ⟨_, rfl⟩
        rw [hP] at HRS hP1 HBP
        have HP := hid hP
        obtain ⟨M, hM⟩ : ∃ y, min P 1000000000001 = y := ⟨_, rfl⟩
        rw [hM] at HRS
        have hM1 : 1 ≤ M ∧ M ≤ 1000000000001 := by omega
        have HLL := hid (fun t (ht : 2 ≤ t) => last_less (P := P) (size := size) (t := t) hs2 hP1 ht)
        rw [hM] at HLL
        have HB4 := hid (HB2.out.trans (hB4.mono HB2.out.size))
        have HO4 := hid hO4; have HR4 := hid hr4
        have HG4 := hid (show w1'.heap.size ≤ g4 from Nat.le_trans HB2.out.size hg4)
        have qw : IntKind.i64.wrap ((n : Int) - 1) = (m : Int) := by rw [show (n : Int) - 1 = (m : Int) by omega]; exact IntWalk.i64_in _ (by omega)
        have q0 : (0 : Int) ≤ (m : Int) := by omega
        have q1 : (m : Int) < (n : Int) := by omega
        have qc : n ≤ cp4 := by
          rcases HO4.out.2 with ⟨h, _⟩ | ⟨g', cap', cur, h, h3, h4, h5, h6, h7, h8'⟩
          · cases h
          · injection h with _ _ e3; omega
        have qc2 : (m : Int) ≤ (cp4 : Int) := by omega
        have HM := hid hm; have HZ := hid HB2.out.size
        clear hm hP hM hO4 hr4 hS4 hB4 hg4 HB2 HAL wb
        go_wp2_with fail
        go_loopw [8] (fun i wr => ∃ t : Int, i = .int .i64 t ∧ 2 ≤ t ∧ t ≤ b ∧ size ≤ P * t ∧ w4 = wr) (fun i _ => (intOf i).toNat)
        case atStart => exact ⟨b, rfl, h2, by omega, HBP.out, rfl⟩
        case round =>
          obtain ⟨t, rfl, ht2, htb, hst, rfl⟩ := hrel
          by_cases ht : 2 < t
          · have wt : IntKind.i64.wrap (t - 1) = t - 1 := IntWalk.i64_in _ (by omega)
            have hX1 : 0 ≤ M * (t - 1) := Int.mul_nonneg (by omega) (by omega)
            have hX2 : M * (t - 1) ≤ 1000000000001 * 100 := Int.mul_le_mul hM1.2 (by omega) (by omega) (by omega)
            have HL1 := hid (HLL.out t ht2)
            have wm : IntKind.i64.wrap (M * (t - 1)) = M * (t - 1) := IntWalk.i64_in _ (by omega)
            obtain ⟨X, hX⟩ : ∃ y, M * (t - 1) = y := ⟨_, rfl⟩
            rw [hX] at HL1
            by_cases hx : size ≤ X
            · have HST := hid (HL1.out.1 hx)
              rw [hX] at wm
              go_wp2_with fail
              refine HRS.out.mono ?_
              rintro e w6 ⟨rfl, hw⟩
              subst hw
              rw [← hX] at wm hx
              go_wp2_with fail
              go_roundw
              case rel => exact ⟨t - 1, rfl, by omega, by omega, HST.out, by first | rfl | trivial⟩
              case measure => simp [intOf]; omega
            · have HE : t = 2 ∨ P * (t - 1) < size := .inr (by have : ¬ size ≤ P * (t - 1) := fun h => hx (HL1.out.2 h); omega)
              have TLE := ht2
              rw [hX] at wm
              go_wp2_with fail
              refine HRS.out.mono ?_
              rintro e w6 ⟨rfl, hw⟩
              subst hw
              rw [← hX] at wm hx
              have hT : t = lastW size P := last_is hP1 TLE hst HE
              have HEE := hid (show lsL b n (lastW size (b ^ (n - 1))) = lsL b n t from by rw [HM.out, HP.out, ← hT])
              have wu : IntKind.u8.wrap t = t := by simp only [IntKind.wrap, IntKind.signed, IntKind.bits]; simp; omega
              have hmn : m < n := by have := HM.out; omega
              have y0 : w4.cell? ⟨g4, m, none⟩ = some (.int .u8 b) := by rw [HR4.out.cell m, List.getElem?_append_left (by simp; omega), List.getElem?_map]; simp [hmn]
              have f0 := HR4.out.frozen m
              have o5 := rep_set HO4.out hn (t := t)
              rw [HM.out] at o5
              obtain ⟨W5, hW5⟩ : ∃ y, y = w4.setCell ⟨g4, m, none⟩ (.int .u8 t) := ⟨_, rfl⟩
              have b5 : Below w1'.heap.size w1' W5 := by rw [hW5]; exact HB4.out.setCell HG4.out _
              rw [← hW5] at o5
              have s5 : Stk W5 g4 (lsL b n t) := stk_set o5 (fun z hz => by
                unfold lsL at hz
                simp at hz
                rcases hz with ⟨_, rfl⟩ | rfl <;> omega) (by rw [lsL_len b n t hn]; omega)
              have HOK := hid (l01Ok_any g4 n cp4 (lsL b n t) W5 s5 (lsL_len b n t hn).symm)
              obtain ⟨r, hr⟩ : ∃ r, okL (lsL b n t) = r := ⟨_, rfl⟩
              rw [hr] at HOK
              have HR := hid hr; have H5 := hid b5; have HO5 := hid o5; have HV := hid hW5
              clear hr b5 o5 s5 hW5 hT
              go_wp2_with fail
              rw [← HV.out]
              refine HOK.out.mono ?_
              rintro e w6 ⟨rfl, hw⟩
              subst hw
              cases r
              · go_wp2_with fail
                exact bodyPost_ret (v := .tuple #[.slice (some ⟨W5.heap.size, 0, none⟩) 0 0, .int .i64 3]) (by simp [results, Try.results7, go_sem]) rfl ⟨b, _, 3, HBI.out, h101, rfl, H5.out.alloc H5.out.size _, .inr ⟨h100, .inl ⟨by rw [HEE.out, HR.out], rfl, .inl ⟨rfl, _, _, rfl⟩⟩⟩⟩
              · go_wp2_with fail
                exact bodyPost_ret (v := .tuple #[.slice (some ⟨g4, 0, none⟩) n cp4, .int .i64 0]) (by simp [results, Try.results7, go_sem]) rfl ⟨b, _, 0, HBI.out, h101, rfl, H5.out, .inr ⟨h100, .inr ⟨by rw [HEE.out, HR.out], rfl, .inr (by rw [HEE.out, lsL_len b n t hn]; exact owns_low HO5.out HZ.out)⟩⟩⟩
          · have HE : t = 2 ∨ P * (t - 1) < size := .inl (by omega)
            have TLE := ht2
            have hT : t = lastW size P := last_is hP1 TLE hst HE
            have HEE := hid (show lsL b n (lastW size (b ^ (n - 1))) = lsL b n t from by rw [HM.out, HP.out, ← hT])
            have wu : IntKind.u8.wrap t = t := by simp only [IntKind.wrap, IntKind.signed, IntKind.bits]; simp; omega
            have hmn : m < n := by have := HM.out; omega
            have y0 : w4.cell? ⟨g4, m, none⟩ = some (.int .u8 b) := by rw [HR4.out.cell m, List.getElem?_append_left (by simp; omega), List.getElem?_map]; simp [hmn]
            have f0 := HR4.out.frozen m
            have o5 := rep_set HO4.out hn (t := t)
            rw [HM.out] at o5
            obtain ⟨W5, hW5⟩ : ∃ y, y = w4.setCell ⟨g4, m, none⟩ (.int .u8 t) := ⟨_, rfl⟩
            have b5 : Below w1'.heap.size w1' W5 := by rw [hW5]; exact HB4.out.setCell HG4.out _
            rw [← hW5] at o5
            have s5 : Stk W5 g4 (lsL b n t) := stk_set o5 (fun z hz => by
              unfold lsL at hz
              simp at hz
              rcases hz with ⟨_, rfl⟩ | rfl <;> omega) (by rw [lsL_len b n t hn]; omega)
            have HOK := hid (l01Ok_any g4 n cp4 (lsL b n t) W5 s5 (lsL_len b n t hn).symm)
            obtain ⟨r, hr⟩ : ∃ r, okL (lsL b n t) = r := ⟨_, rfl⟩
            rw [hr] at HOK
            have HR := hid hr; have H5 := hid b5; have HO5 := hid o5; have HV := hid hW5
            clear hr b5 o5 s5 hW5 hT
            go_wp2_with fail
            rw [← HV.out]
            refine HOK.out.mono ?_
            rintro e w6 ⟨rfl, hw⟩
            subst hw
            cases r
            · go_wp2_with fail
              exact bodyPost_ret (v := .tuple #[.slice (some ⟨W5.heap.size, 0, none⟩) 0 0, .int .i64 3]) (by simp [results, Try.results7, go_sem]) rfl ⟨b, _, 3, HBI.out, h101, rfl, H5.out.alloc H5.out.size _, .inr ⟨h100, .inl ⟨by rw [HEE.out, HR.out], rfl, .inl ⟨rfl, _, _, rfl⟩⟩⟩⟩
            · go_wp2_with fail
              exact bodyPost_ret (v := .tuple #[.slice (some ⟨g4, 0, none⟩) n cp4, .int .i64 0]) (by simp [results, Try.results7, go_sem]) rfl ⟨b, _, 0, HBI.out, h101, rfl, H5.out, .inr ⟨h100, .inr ⟨by rw [HEE.out, HR.out], rfl, .inr (by rw [HEE.out, lsL_len b n t hn]; exact owns_low HO5.out HZ.out)⟩⟩⟩
    · have hb : b = 101 := by omega
      subst hb
      have HBI := hid (show baseIs size n 101 from ⟨h2, hA, .inl (by omega)⟩)
      have HB := hid hB
      clear hA hB
      go_wp2_with fail
      exact bodyPost_ret (v := .tuple #[.slice (some ⟨wr.heap.size, 0, none⟩) 0 0, .int .i64 3]) (by simp [results, Try.results7, go_sem]) rfl ⟨101, _, 3, HBI.out, by omega, rfl, HB.out.alloc HB.out.size _, .inl ⟨rfl, rfl, .inl ⟨rfl, _, _, rfl⟩⟩⟩
end Go.Proofs.Ytobephnmbpoopaa
