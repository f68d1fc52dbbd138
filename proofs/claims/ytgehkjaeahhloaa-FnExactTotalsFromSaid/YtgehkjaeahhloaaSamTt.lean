/- SameTotals: the program, the model, the law; the sizes of totals. -/
import Derived.Test.YtgehkjaeahhloaaTots
import Derived.Test.YtgehkjaeahhloaaSamG
namespace Go.Proofs.Ytgehkjaeahhloaa
open Go.RowKit Go.ChangeShapes Go.WideShapes Go.ChangeAt
theorem total_under : Try.prog.underlying 99 = some (.struct (Try.prog.fieldsOf 99)) := by rw [Program.fieldsOf, Try.underlying99]
theorem total_neq (a b c d : Int) (w : World) : Sem.run Try.prog (binOp .neq 99 (.agg #[.int .i64 a, .int .i64 b]) (.agg #[.int .i64 c, .int .i64 d])) w = .ok (.bool (!(a == c && b == d))) w := by
  have k : Try.prog.underlying 2 = some (.int .i64) := Try.underlying2
  obtain ⟨fs, hf, hu⟩ : ∃ fs, Try.prog.fieldsOf 99 = fs ∧ Try.prog.underlying 99 = some (.struct fs) := ⟨_, rfl, total_under⟩
  have hfs := Option.some.inj (Try.underlying99.symm.trans hu)
  simp only [TypeDesc.struct.injEq] at hfs
  subst hfs
  rw [run_neq_struct, run_equalIn_struct w 9999 99 _ _ total_under (by kernel_rfl), hf]
  by_cases h1 : a = c
  · subst h1
    by_cases h2 : b = d
    · subst h2
      simp [Op.eqFields, go_sem, run_equalIn_int _ _ _ _ _ _ _ k]
    · simp [Op.eqFields, go_sem, run_equalIn_int _ _ _ _ _ _ _ k, h2]
  · simp [Op.eqFields, go_sem, run_equalIn_int _ _ _ _ _ _ _ k, h1]
theorem szTots_ok (a : Option Addr) (len cap : Nat) (w : World) (h : len ≤ 1048576) : Calls Try.prog 28 #[.slice a len cap, .int .i64 1048576] w fun e w' => e = .returned (.int .i64 (1048576 - len)) ∧ w = w' := by
  have h1 : (0 : Int) ≤ 1048576 - (len : Int) := by omega
  go_enter Try.func28, Try.ntmps28
  go_wp2
  go_ret
  exact ⟨rfl, rfl⟩
theorem szTots_no (a : Option Addr) (len cap : Nat) (w : World) (h : 1048576 < len) (hl : len ≤ 9223372036854775807) : Calls Try.prog 28 #[.slice a len cap, .int .i64 1048576] w fun e w' => e = .returned (.int .i64 (-1)) ∧ w = w' := by
  have h1 : 1048576 - (len : Int) < 0 := by omega
  go_enter Try.func28, Try.ntmps28
  go_wp2
  go_ret
  exact ⟨rfl, rfl⟩
theorem szTots_left (a : Option Addr) (len cap : Nat) (l : Int) (w : World) (h0 : 0 ≤ l ∧ l ≤ 1048576) (h : (len : Int) ≤ l) : Calls Try.prog 28 #[.slice a len cap, .int .i64 l] w fun e w' => e = .returned (.int .i64 (l - len)) ∧ w = w' := by
  obtain ⟨l0, l1⟩ := h0
  have h1 : (0 : Int) ≤ l - (len : Int) := by omega
  have h2 : (0 : Int) ≤ (len : Int) := by omega
  go_enter Try.func28, Try.ntmps28
  go_wp2
  go_ret
  exact ⟨rfl, rfl⟩
theorem szTots_left_no (a : Option Addr) (len cap : Nat) (l : Int) (w : World) (h0 : 0 ≤ l ∧ l ≤ 1048576) (h : l < (len : Int)) (hl : len ≤ 9223372036854775807) : Calls Try.prog 28 #[.slice a len cap, .int .i64 l] w fun e w' => e = .returned (.int .i64 (-1)) ∧ w = w' := by
  obtain ⟨l0, l1⟩ := h0
  have h1 : l - (len : Int) < 0 := by omega
  have h2 : (0 : Int) ≤ (len : Int) := by omega
  go_enter Try.func28, Try.ntmps28
  go_wp2
  go_ret
  exact ⟨rfl, rfl⟩
set_option maxHeartbeats 2000000 in
theorem equalT_any (b1 b2 n1 n2 c1 c2 : Nat) (js ks : List (Int × Int)) (w : World) (h1 : Rst w b1 js) (h2 : Rst w b2 ks) (hn1 : n1 = js.length) (hn2 : n2 = ks.length) :
    Calls Try.prog 77 #[.slice (some ⟨b1, 0, none⟩) n1 c1, .slice (some ⟨b2, 0, none⟩) n2 c2] w (GivesB w (.bool (samG js ks))) := by
  by_cases hl : n1 = n2
  · subst hl
    have hle := h1.2.2
    rw [← hn1] at hle
    have hC1 := hid h1.2.1
    have hC2 := hid h2.2.1
    have hN1 := hid hn1
    have hN2 := hid hn2
    have hg : Try.prog.eqGuardType Try.prog.depth 99 = false := by kernel_rfl
    have hne : ((n1 : Int) != (n1 : Int)) = false := by simp
    clear h1 h2 hn1 hn2
    go_enter Try.func77, Try.ntmps77
    go_wp2_with fail
    go_loopw [13] (fun i wr => ∃ k : Nat, k ≤ n1 ∧ i = .int .i64 k ∧ samGo js ks k ∧ ∃ d, wr = w.drewN d) (fun i _ => n1 - (intOf i).toNat)
    case atStart => exact ⟨0, Nat.zero_le _, rfl, fun j h => by omega, 0, rfl⟩
    case round =>
      obtain ⟨k, hk, rfl, hok, d, rfl⟩ := hrel
      have HK := hid hok
      clear hok
      by_cases hlt : k < n1
      · have cc := hC1.out k (by rw [← hN1.out]; exact hlt)
        have dd := hC2.out k (by rw [← hN2.out]; exact hlt)
        have x1 := cc.1
        have x2 := cc.2
        have y1 := dd.1
        have y2 := dd.2
        have hlt' : (k : Int) < (n1 : Int) := by omega
        have hk0 : (0 : Int) ≤ (k : Int) := by omega
        obtain ⟨x, hx⟩ : ∃ z, rd js k = z := ⟨_, rfl⟩
        obtain ⟨y, hy⟩ : ∃ z, rv js k = z := ⟨_, rfl⟩
        obtain ⟨u, hu⟩ : ∃ z, rd ks k = z := ⟨_, rfl⟩
        obtain ⟨v, hv⟩ : ∃ z, rv ks k = z := ⟨_, rfl⟩
        rw [hx] at x1
        rw [hy] at x2
        rw [hu] at y1
        rw [hv] at y2
        have HH := hid (And.intro hx (And.intro hy (And.intro hu hv)))
        clear cc dd hx hy hu hv
        by_cases he : x = u ∧ y = v
        · have hE : ∀ w, Sem.run Try.prog (binOp .neq 99 (.agg #[.int .i64 x, .int .i64 y]) (.agg #[.int .i64 u, .int .i64 v])) w = .ok (.bool false) w := fun w => by
            rw [total_neq]; simp [he.1, he.2]
          have HE := hid he
          clear he
          go_wp2_with fail
          go_quiet (fail)
          go_wp2_with fail
          go_roundw
          case rel => exact ⟨k + 1, by omega, by go_num, samGo_succ HK.out (by rw [HH.out.1, HH.out.2.1, HH.out.2.2.1, HH.out.2.2.2]; exact HE.out), _, rfl⟩
          case measure => simp [intOf]; omega
        · have hE : ∀ w, Sem.run Try.prog (binOp .neq 99 (.agg #[.int .i64 x, .int .i64 y]) (.agg #[.int .i64 u, .int .i64 v])) w = .ok (.bool true) w := fun w => by
            have e : (x == u && y == v) = false := by
              by_cases h1 : x = u
              · have h2 : ¬ y = v := fun h => he ⟨h1, h⟩
                simp [h2]
              · simp [h1]
            rw [total_neq, e]
            rfl
          have HF := hid (samG_bad (js := js) (ks := ks) k (by rw [← hN1.out]; exact hlt) (by rw [HH.out.1, HH.out.2.1, HH.out.2.2.1, HH.out.2.2.2]; exact he))
          clear he
          go_wp2_with fail
          go_quiet (fail)
          go_wp2_with fail
          go_ret
          exact ⟨by rw [HF.out]; rfl, below_drewN (below_drewN (Below.refl _ _) _) _⟩
      · obtain rfl : k = n1 := by omega
        have HF := hid (samG_yes (js := js) (ks := ks) (by rw [← hN1.out, ← hN2.out]) (by rw [← hN1.out]; exact HK.out))
        go_wp2_with fail
        go_ret
        exact ⟨by rw [HF.out]; rfl, below_drewN (Below.refl _ _) _⟩
  · have hne : ((n1 : Int) != (n2 : Int)) = true := by
      simp only [bne_iff_ne, ne_eq]; omega
    have HF := hid (samG_len (js := js) (ks := ks) (by omega))
    clear h1 h2 hn1 hn2 hl
    go_enter Try.func77, Try.ntmps77
    go_wp2_with fail
    go_ret
    exact ⟨by rw [HF.out]; rfl, Below.refl _ _⟩
set_option maxHeartbeats 2000000 in
theorem specSameT_any (b1 b2 n1 n2 c1 c2 : Nat) (js ks : List (Int × Int)) (w : World) (h1 : Rst w b1 js) (h2 : Rst w b2 ks) (hn1 : n1 = js.length) (hn2 : n2 = ks.length) :
    Calls Try.prog 33 #[.slice (some ⟨b1, 0, none⟩) n1 c1, .slice (some ⟨b2, 0, none⟩) n2 c2] w (GivesB w (.bool (samG js ks))) := by
  by_cases hl : n1 = n2
  · subst hl
    have hle := h1.2.2
    rw [← hn1] at hle
    have hC1 := hid h1.2.1
    have hC2 := hid h2.2.1
    have hN1 := hid hn1
    have hN2 := hid hn2
    have hg : Try.prog.eqGuardType Try.prog.depth 99 = false := by kernel_rfl
    have hne : ((n1 : Int) != (n1 : Int)) = false := by simp
    clear h1 h2 hn1 hn2
    go_enter Try.func33, Try.ntmps33
    go_wp2_with fail
    go_loopw [5] (fun i wr => ∃ k : Nat, k ≤ n1 ∧ i = .int .i64 k ∧ samGo js ks k ∧ ∃ d, wr = w.drewN d) (fun i _ => n1 - (intOf i).toNat)
    case atStart => exact ⟨0, Nat.zero_le _, rfl, fun j h => by omega, 0, rfl⟩
    case round =>
      obtain ⟨k, hk, rfl, hok, d, rfl⟩ := hrel
      have HK := hid hok
      clear hok
      by_cases hlt : k < n1
      · have cc := hC1.out k (by rw [← hN1.out]; exact hlt)
        have dd := hC2.out k (by rw [← hN2.out]; exact hlt)
        have x1 := cc.1
        have x2 := cc.2
        have y1 := dd.1
        have y2 := dd.2
        have hlt' : (k : Int) < (n1 : Int) := by omega
        have hk0 : (0 : Int) ≤ (k : Int) := by omega
        obtain ⟨x, hx⟩ : ∃ z, rd js k = z := ⟨_, rfl⟩
        obtain ⟨y, hy⟩ : ∃ z, rv js k = z := ⟨_, rfl⟩
        obtain ⟨u, hu⟩ : ∃ z, rd ks k = z := ⟨_, rfl⟩
        obtain ⟨v, hv⟩ : ∃ z, rv ks k = z := ⟨_, rfl⟩
        rw [hx] at x1
        rw [hy] at x2
        rw [hu] at y1
        rw [hv] at y2
        have HH := hid (And.intro hx (And.intro hy (And.intro hu hv)))
        clear cc dd hx hy hu hv
        by_cases he : x = u ∧ y = v
        · have hE : ∀ w, Sem.run Try.prog (binOp .neq 99 (.agg #[.int .i64 x, .int .i64 y]) (.agg #[.int .i64 u, .int .i64 v])) w = .ok (.bool false) w := fun w => by
            rw [total_neq]; simp [he.1, he.2]
          have HE := hid he
          clear he
          go_wp2_with fail
          go_quiet (fail)
          go_wp2_with fail
          go_roundw
          case rel => exact ⟨k + 1, by omega, by go_num, samGo_succ HK.out (by rw [HH.out.1, HH.out.2.1, HH.out.2.2.1, HH.out.2.2.2]; exact HE.out), _, rfl⟩
          case measure => simp [intOf]; omega
        · have hE : ∀ w, Sem.run Try.prog (binOp .neq 99 (.agg #[.int .i64 x, .int .i64 y]) (.agg #[.int .i64 u, .int .i64 v])) w = .ok (.bool true) w := fun w => by
            have e : (x == u && y == v) = false := by
              by_cases h1 : x = u
              · have h2 : ¬ y = v := fun h => he ⟨h1, h⟩
                simp [h2]
              · simp [h1]
            rw [total_neq, e]
            rfl
          have HF := hid (samG_bad (js := js) (ks := ks) k (by rw [← hN1.out]; exact hlt) (by rw [HH.out.1, HH.out.2.1, HH.out.2.2.1, HH.out.2.2.2]; exact he))
          clear he
          go_wp2_with fail
          go_quiet (fail)
          go_wp2_with fail
          go_ret
          exact ⟨by rw [HF.out]; rfl, below_drewN (below_drewN (Below.refl _ _) _) _⟩
      · obtain rfl : k = n1 := by omega
        have HF := hid (samG_yes (js := js) (ks := ks) (by rw [← hN1.out, ← hN2.out]) (by rw [← hN1.out]; exact HK.out))
        go_wp2_with fail
        go_ret
        exact ⟨by rw [HF.out]; rfl, below_drewN (Below.refl _ _) _⟩
  · have hne : ((n1 : Int) != (n2 : Int)) = true := by
      simp only [bne_iff_ne, ne_eq]; omega
    have HF := hid (samG_len (js := js) (ks := ks) (by omega))
    clear h1 h2 hn1 hn2 hl
    go_enter Try.func33, Try.ntmps33
    go_wp2_with fail
    go_ret
    exact ⟨by rw [HF.out]; rfl, Below.refl _ _⟩
theorem implSameT_any (b1 b2 n1 n2 c1 c2 : Nat) (js ks : List (Int × Int)) (w : World) (h1 : Rst w b1 js) (h2 : Rst w b2 ks) (hn1 : n1 = js.length) (hn2 : n2 = ks.length) :
    Calls Try.prog 34 #[.slice (some ⟨b1, 0, none⟩) n1 c1, .slice (some ⟨b2, 0, none⟩) n2 c2] w (GivesB w (.bool (samG js ks))) := by
  have H := hid (equalT_any b1 b2 n1 n2 c1 c2 js ks w h1 h2 hn1 hn2)
  clear h1 h2 hn1 hn2
  go_enter Try.func34, Try.ntmps34
  go_wp2_with fail
  refine H.out.mono ?_
  rintro e w1 ⟨rfl, hB⟩
  go_wp2_with fail
  go_ret
  exact ⟨rfl, hB⟩
set_option maxHeartbeats 4000000 in
theorem law_FnExactSameTotals (a : Option Addr) (len cap : Nat) (js : List (Int × Int)) (a' : Option Addr) (len' cap' : Nat) (ks : List (Int × Int)) (w : World) (hl : len ≤ 9223372036854775807) (h : InR w a len js) (hl' : len' ≤ 9223372036854775807) (h' : InR w a' len' ks) :
    Calls Try.prog 9 #[.slice a len cap, .slice a' len' cap'] w fun e w' => e = .returned (.bool true) ∧ Below w.heap.size w w' := by
  by_cases hs : 1048576 < len
  · clear h h'
    go_enter Try.func9, Try.ntmps9
    go_wp2_with (go_at_call 28; refine (szTots_no a len cap _ hs hl).mono ?_; rintro e w' ⟨rfl, rfl⟩)
    go_ret
    exact ⟨rfl, Below.refl _ _⟩
  have hle : len ≤ 1048576 := by omega
  have HZ := hid (fun w => szTots_ok a len cap w hle)
  have hz : (0 : Int) ≤ 1048576 - (len : Int) := by omega
  by_cases hs' : 1048576 - len < len'
  · have HZ2 := hid (fun w => szTots_left_no a' len' cap' (1048576 - (len : Int)) w (by omega) (by omega) hl')
    clear h h' hs hs'
    go_enter Try.func9, Try.ntmps9
    go_wp2_with fail
    refine (HZ.out _).mono ?_
    rintro e w' ⟨rfl, rfl⟩
    go_wp2_with fail
    refine (HZ2.out _).mono ?_
    rintro e w' ⟨rfl, rfl⟩
    go_wp2_with fail
    go_ret
    exact ⟨rfl, Below.refl _ _⟩
  have hle' : len' ≤ 1048576 := by omega
  have HZ2 := hid (fun w => szTots_left a' len' cap' (1048576 - (len : Int)) w (by omega) (by omega))
  have hz2 : (0 : Int) ≤ 1048576 - (len : Int) - (len' : Int) := by omega
  have hI := hid h
  have hJ := hid h'
  have hn : Hid (len = js.length) := hid h.1.symm
  have hm : Hid (len' = ks.length) := hid h'.1.symm
  have HS := hid (fun b b' w1 (h : Rst w1 b js) (k : Rst w1 b' ks) => specSameT_any b b' len len' len len' js ks w1 h k hn.out hm.out)
  have HM := hid (fun b b' w1 (h : Rst w1 b js) (k : Rst w1 b' ks) => implSameT_any b b' len len' len len' js ks w1 h k hn.out hm.out)
  obtain ⟨r0, e0⟩ : ∃ r, samG js ks = r := ⟨_, rfl⟩
  rw [e0] at HS HM
  clear h h' hs hs' hl hl' e0
  cases r0
  all_goals
    go_enter Try.func9, Try.ntmps9
    go_wp2_with fail
    refine (HZ.out _).mono ?_
    rintro e w' ⟨rfl, rfl⟩
    go_wp2_with fail
    refine (HZ2.out _).mono ?_
    rintro e w' ⟨rfl, rfl⟩
    go_wp2_with fail
    refine (toTots_any a len cap js _ hI.out hle).mono ?_
    rintro e w1 ⟨rfl, hB1, hS1, hg1⟩
    have hI1 := hid (hJ.out.below hB1 (Nat.le_refl _))
    have hz1 := hB1.size
    go_wp2_with fail
    refine (toTots_any a' len' cap' ks _ hI1.out hle').mono ?_
    rintro e w2 ⟨rfl, hB2, hT2, hg2⟩
    have hS2 := hS1.below hB2 hg1
    have b2 := hid (hB1.trans (hB2.mono hz1))
    go_wp2_with fail
    refine (HS.out _ _ w2 hS2 hT2).mono ?_
    rintro e w3 ⟨rfl, hB3⟩
    have b3 := hid (b2.out.trans (hB3.mono b2.out.size))
    have hI3 := hid (hI.out.below b3.out (Nat.le_refl _))
    have hz3 := b3.out.size
    clear hB1 hB2 hB3 hS1 hS2 hT2
    go_wp2_with fail
    refine (toTots_any a len cap js _ hI3.out hle).mono ?_
    rintro e w4 ⟨rfl, hB4, hS4, hg4⟩
    have b4 := hid (b3.out.trans (hB4.mono hz3))
    have hJ4 := hid (hJ.out.below b4.out (Nat.le_refl _))
    have hz4 := b4.out.size
    go_wp2_with fail
    refine (toTots_any a' len' cap' ks _ hJ4.out hle').mono ?_
    rintro e w5 ⟨rfl, hB5, hT5, hg5⟩
    have b5 := hid (b4.out.trans (hB5.mono hz4))
    have hS5 := hS4.below hB5 hg4
    have hz5 := b5.out.size
    go_wp2_with fail
    refine (HM.out _ _ w5 hS5 hT5).mono ?_
    rintro e w6 ⟨rfl, hB6⟩
    have b6 := hid (b5.out.trans (hB6.mono hz5))
    have hS6 := hid (hS5.below hB6 hS5.1)
    have hT6 := hid (hT5.below hB6 hT5.1)
    have hI6 := hid (hI.out.below b6.out (Nat.le_refl _))
    have hz6 := b6.out.size
    clear hB4 hB5 hB6 hS4 hS5 hT5
    go_wp2_with fail
    refine (toTots_any a len cap js _ hI6.out hle).mono ?_
    rintro e w7 ⟨rfl, hB7, hS7, hg7⟩
    have b7 := hid (b6.out.trans (hB7.mono hz6))
    have hS7' := hid (hS6.out.below hB7 hS6.out.1)
    have hT7' := hid (hT6.out.below hB7 hT6.out.1)
    go_wp2_with fail
    refine (eqTots_same _ _ len len len js w7 hS7'.out hS7 hn.out).mono ?_
    rintro e w8 ⟨rfl, hB8⟩
    have b8 := hid (b7.out.trans (hB8.mono b7.out.size))
    have hT8 := hid (hT7'.out.below hB8 hT7'.out.1)
    have hJ8 := hid (hJ.out.below b8.out (Nat.le_refl _))
    clear hB7 hB8 hS7
    go_wp2_with fail
    refine (toTots_any a' len' cap' ks _ hJ8.out hle').mono ?_
    rintro e w9 ⟨rfl, hB9, hT9, hg9⟩
    have b9 := hid (b8.out.trans (hB9.mono b8.out.size))
    have hT9' := hid (hT8.out.below hB9 hT8.out.1)
    go_wp2_with fail
    refine (eqTots_same _ _ len' len' len' ks w9 hT9'.out hT9 hm.out).mono ?_
    rintro e w10 ⟨rfl, hB10⟩
    go_wp2_with fail
    go_ret
    exact ⟨rfl, b9.out.trans (hB10.mono b9.out.size)⟩
end Go.Proofs.Ytgehkjaeahhloaa
