/- Which totals are valid; the program's and the model's. -/
import Derived.Test.YtdfbenjccjaejaaDoorTotM
import Derived.Test.YtdfbenjccjaejaaDoorTots
import Derived.Test.YtdfbenjccjaejaaDoorValid
import Derived.Test.YtdfbenjccjaejaaDoorRatio
import Derived.Deep.QuietTactic
namespace Go.Proofs.YtdfbenjccjaejaaDoor
open Go.RowKit
theorem positive_any (n : Int) (w : World) : Calls Tryd.prog 17 #[.int .i64 n] w fun e w' => e = .returned (.bool (decide (0 ≤ n) && decide (n ≤ 1000000000000))) ∧ w = w' := by
  have H := hid (inr_any n 0 1000000000000)
  go_enter Tryd.func17, Tryd.ntmps17
  go_wp2_with fail
  refine (H.out _).mono ?_
  rintro e w' ⟨rfl, rfl⟩
  go_wp2_with fail
  go_ret
  exact ⟨rfl, rfl⟩
theorem isCount_any (n : Int) (w : World) : Calls Tryd.prog 30 #[.int .i64 n] w fun e w' => e = .returned (.bool (decide (0 ≤ n) && decide (n ≤ 1000000000000))) ∧ w = w' := by
  by_cases h : 0 ≤ n
  · have h1 : decide (0 ≤ n) = true := by simpa using h
    go_enter Tryd.func30, Tryd.ntmps30
    go_wp2
    go_ret
    exact ⟨by simp [h], rfl⟩
  · have h1 : decide (0 ≤ n) = false := by simpa using h
    go_enter Tryd.func30, Tryd.ntmps30
    go_wp2
    go_ret
    exact ⟨by simp, rfl⟩
theorem isLogDay_any (n : Int) (w : World) : Calls Tryd.prog 29 #[.int .i64 n] w fun e w' => e = .returned (.bool (decide (0 ≤ n) && decide (n ≤ 100000))) ∧ w = w' := by
  by_cases h : 0 ≤ n
  · have h1 : decide (0 ≤ n) = true := by simpa using h
    go_enter Tryd.func29, Tryd.ntmps29
    go_wp2
    go_ret
    exact ⟨by simp [h], rfl⟩
  · have h1 : decide (0 ≤ n) = false := by simpa using h
    go_enter Tryd.func29, Tryd.ntmps29
    go_wp2
    go_ret
    exact ⟨by simp, rfl⟩
theorem in_yes {n lo hi : Int} (h : lo ≤ n ∧ n ≤ hi) : (decide (lo ≤ n) && decide (n ≤ hi)) = true := by simp [h.1, h.2]
theorem in_no {n lo hi : Int} (h : ¬ (lo ≤ n ∧ n ≤ hi)) : (decide (lo ≤ n) && decide (n ≤ hi)) = false := by
  simp only [Bool.and_eq_false_iff, decide_eq_false_iff_not]; omega
set_option maxHeartbeats 4000000 in
theorem l06Totals_any (b n cap : Nat) (js : List (Int × Int)) (hn : n = js.length) (w : World) (hR : Rst w b js) :
    Calls Tryd.prog 11 #[.slice (some ⟨b, 0, none⟩) n cap] w (GivesB w (.bool (okTs js))) := by
  have hle := hR.2.2
  rw [← hn] at hle
  have hC := hid hR.2.1
  have hbl := hR.1
  have hN := hid hn
  clear hR hn
  by_cases h60 : 60 < n
  · rw [okTs_long (by rw [← hN.out]; exact h60)]
    have hg : (60 : Int) < (n : Int) := by omega
    go_enter Tryd.func11, Tryd.ntmps11
    go_wp2_with fail
    go_ret
    exact ⟨rfl, Below.refl _ _⟩
  have hg : (n : Int) ≤ 60 := by omega
  have H1 := hid (fun n lo hi w => inr_any n lo hi w)
  have H2 := hid (fun n w => positive_any n w)
  go_enter Tryd.func11, Tryd.ntmps11
  go_wp2_with fail
  go_loopw [3] (fun i wr => ∃ k : Nat, k ≤ n ∧ i = .int .i64 k ∧ tdTo js k ∧ uwTo js k ∧ Below w.heap.size w wr) (fun i _ => n - (intOf i).toNat)
  case atStart => exact ⟨0, Nat.zero_le _, rfl, tdTo_zero _, uwTo_zero _, Below.refl _ _⟩
  case round =>
    obtain ⟨k, hk, rfl, ht, hu, hB⟩ := hrel
    have HT := hid ht
    have HU := hid hu
    clear ht hu
    have BH := hid hB
    have hsz := hB.size
    have BX := hid hB
    by_cases hlt : k < n
    · have cc := hC.out k (by rw [← hN.out]; exact hlt)
      have x1 := (hB.cell (p := ⟨b, k * 2, none⟩) hbl).trans cc.1
      have x2 := (hB.cell (p := ⟨b, k * 2 + 1, none⟩) hbl).trans cc.2
      have hlt' : (k : Int) < (n : Int) := by omega
      have hk0 : (0 : Int) ≤ (k : Int) := by omega
      obtain ⟨x, hx⟩ : ∃ z, rd js k = z := ⟨_, rfl⟩
      obtain ⟨y, hy⟩ : ∃ z, rv js k = z := ⟨_, rfl⟩
      rw [hx] at x1
      rw [hy] at x2
      have HX := hid hx
      have HY := hid hy
      clear cc hx hy
      by_cases hd : 0 ≤ x ∧ x ≤ 100000
      · have e1 := in_yes hd
        by_cases hc : 0 ≤ y ∧ y ≤ 1000000000000
        · have e2 := in_yes hc
          have HT1 := hid (tdTo_succ HT.out (by rw [HX.out, HY.out]; exact okTd_of hd.1 hd.2 hc.1 hc.2))
          clear hd hc
          by_cases hk1 : k = 0
          · have hkz : ¬ (0 : Int) < (k : Int) := by omega
            have hkz' : (k : Int) ≤ 0 := by omega
            have hkd : decide (0 < k) = false := decide_eq_false (by omega)
            have HU1 := hid (show uwTo js (k + 1) by rw [hk1]; exact uwTo_one js)
            clear hk1
            go_wp2_with fail
            refine (H1.out _ _ _ _).mono ?_
            rw [e1]
            rintro e w' ⟨rfl, rfl⟩
            go_wp2_with fail
            refine (H2.out _ _).mono ?_
            rw [e2]
            rintro e w' ⟨rfl, rfl⟩
            go_wp2_with fail
            go_quiet (fail)
            go_wp2_with fail
            go_roundw
            case rel => exact ⟨k + 1, by omega, by go_num, HT1.out, HU1.out, below_drewN BX.out _⟩
            case measure => simp [intOf]; omega
          · obtain ⟨m, hc⟩ : ∃ m, k = m + 1 := ⟨k - 1, by omega⟩
            have dd := hC.out m (by rw [← hN.out]; omega)
            have y1 := (BX.out.cell (p := ⟨b, m * 2, none⟩) hbl).trans dd.1
            have y2 := (BX.out.cell (p := ⟨b, m * 2 + 1, none⟩) hbl).trans dd.2
            obtain ⟨u, hu⟩ : ∃ z, rd js m = z := ⟨_, rfl⟩
            obtain ⟨v, hv⟩ : ∃ z, rv js m = z := ⟨_, rfl⟩
            rw [hu] at y1
            rw [hv] at y2
            have HV := hid (And.intro hu hv)
            clear dd hu hv
            have hk1 : (0 : Int) < (k : Int) := by omega
            have hk2 : 0 < k := by omega
            have hkd : decide (0 < k) = true := decide_eq_true hk2
            have ec : (k : Int) - 1 = (m : Int) := by omega
            have hcn : m < n := by omega
            have hcn' : (m : Int) < (n : Int) := by omega
            have hc0 : (0 : Int) ≤ (m : Int) := by omega
            have tc : IntKind.i64.wrap (m : Int) = (m : Int) := IntWalk.i64_in _ (by omega)
            have HC := hid hc
            have HKM := hid (show m + 1 < n by omega)
            have HX2 := hid (show rd js (m + 1) = x by rw [← hc]; exact HX.out)
            have HY2 := hid (show rv js (m + 1) = y by rw [← hc]; exact HY.out)
            have HU2 := hid (show uwTo js (m + 1) by rw [← hc]; exact HU.out)
            clear hc
            by_cases hx : x ≤ u
            · have HF := hid (okTs_up (js := js) m (by rw [← hN.out]; exact HKM.out) (.inl (by rw [HX2.out, HV.out.1]; exact hx)))
              go_wp2_with fail
              refine (H1.out _ _ _ _).mono ?_
              rw [e1]
              rintro e w' ⟨rfl, rfl⟩
              go_wp2_with fail
              refine (H2.out _ _).mono ?_
              rw [e2]
              rintro e w' ⟨rfl, rfl⟩
              go_wp2_with fail
              go_quiet (fail)
              go_wp2_with fail
              go_ret
              exact ⟨by rw [HF.out]; rfl, below_drewN BX.out _⟩
            have hx' : u < x := by omega
            by_cases hy : y < v
            · have HF := hid (okTs_up (js := js) m (by rw [← hN.out]; exact HKM.out) (.inr (by rw [HY2.out, HV.out.2]; exact hy)))
              go_wp2_with fail
              refine (H1.out _ _ _ _).mono ?_
              rw [e1]
              rintro e w' ⟨rfl, rfl⟩
              go_wp2_with fail
              refine (H2.out _ _).mono ?_
              rw [e2]
              rintro e w' ⟨rfl, rfl⟩
              go_wp2_with fail
              go_quiet (fail)
              go_wp2_with fail
              go_ret
              exact ⟨by rw [HF.out]; rfl, below_drewN BX.out _⟩
            have hy' : v ≤ y := by omega
            have HU1 := hid (show uwTo js (k + 1) by rw [HC.out]; exact uwTo_succ HU2.out (by rw [HX2.out, HY2.out, HV.out.1, HV.out.2]; exact ⟨hx', hy'⟩))
            go_wp2_with fail
            refine (H1.out _ _ _ _).mono ?_
            rw [e1]
            rintro e w' ⟨rfl, rfl⟩
            go_wp2_with fail
            refine (H2.out _ _).mono ?_
            rw [e2]
            rintro e w' ⟨rfl, rfl⟩
            go_wp2_with fail
            go_quiet (fail)
            go_wp2_with fail
            go_roundw
            case rel => exact ⟨k + 1, by omega, by go_num, HT1.out, HU1.out, below_drewN BX.out _⟩
            case measure => simp [intOf]; omega
        · have e2 := in_no hc
          have HF := hid (okTs_td (js := js) k (by rw [← hN.out]; exact hlt) (by rw [HX.out, HY.out]; exact okTd_no (by omega)))
          clear hd hc
          go_wp2_with fail
          refine (H1.out _ _ _ _).mono ?_
          rw [e1]
          rintro e w' ⟨rfl, rfl⟩
          go_wp2_with fail
          refine (H2.out _ _).mono ?_
          rw [e2]
          rintro e w' ⟨rfl, rfl⟩
          go_wp2_with fail
          go_ret
          exact ⟨by rw [HF.out]; rfl, BX.out⟩
      · have e1 := in_no hd
        have HF := hid (okTs_td (js := js) k (by rw [← hN.out]; exact hlt) (by rw [HX.out, HY.out]; exact okTd_no (by omega)))
        clear hd
        go_wp2_with fail
        refine (H1.out _ _ _ _).mono ?_
        rw [e1]
        rintro e w' ⟨rfl, rfl⟩
        go_wp2_with fail
        go_ret
        exact ⟨by rw [HF.out]; rfl, BX.out⟩
    · obtain rfl : k = n := by omega
      have HF := hid (okTs_yes (js := js) (by rw [← hN.out]; omega) (by rw [← hN.out]; exact HT.out) (by rw [← hN.out]; exact HU.out))
      go_wp2_with fail
      go_ret
      exact ⟨by rw [HF.out]; rfl, BH.out⟩
set_option maxHeartbeats 4000000 in
theorem implTotals_any (b n cap : Nat) (js : List (Int × Int)) (hn : n = js.length) (w : World) (hR : Rst w b js) :
    Calls Tryd.prog 21 #[.slice (some ⟨b, 0, none⟩) n cap] w (GivesB w (.bool (okTs js))) := by
  have hle := hR.2.2
  rw [← hn] at hle
  have hC := hid hR.2.1
  have hbl := hR.1
  have hN := hid hn
  clear hR hn
  by_cases h60 : 60 < n
  · rw [okTs_long (by rw [← hN.out]; exact h60)]
    have hg : (60 : Int) < (n : Int) := by omega
    go_enter Tryd.func21, Tryd.ntmps21
    go_wp2_with fail
    go_ret
    exact ⟨rfl, Below.refl _ _⟩
  have hg : (n : Int) ≤ 60 := by omega
  have H1 := hid (fun n w => isLogDay_any n w)
  have H2 := hid (fun n w => isCount_any n w)
  go_enter Tryd.func21, Tryd.ntmps21
  go_wp2_with fail
  go_loopw [10] (fun i wr => ∃ k : Nat, k ≤ n ∧ i = .int .i64 k ∧ tdTo js k ∧ uwTo js k ∧ Below w.heap.size w wr) (fun i _ => n - (intOf i).toNat)
  case atStart => exact ⟨0, Nat.zero_le _, rfl, tdTo_zero _, uwTo_zero _, Below.refl _ _⟩
  case round =>
    obtain ⟨k, hk, rfl, ht, hu, hB⟩ := hrel
    have HT := hid ht
    have HU := hid hu
    clear ht hu
    have BH := hid hB
    have hsz := hB.size
    by_cases hlt : k < n
    · have cc := hC.out k (by rw [← hN.out]; exact hlt)
      have x1 := (hB.cell (p := ⟨b, k * 2, none⟩) hbl).trans cc.1
      have x2 := (hB.cell (p := ⟨b, k * 2 + 1, none⟩) hbl).trans cc.2
      have hlt' : (k : Int) < (n : Int) := by omega
      have hk0 : (0 : Int) ≤ (k : Int) := by omega
      obtain ⟨x, hx⟩ : ∃ z, rd js k = z := ⟨_, rfl⟩
      obtain ⟨y, hy⟩ : ∃ z, rv js k = z := ⟨_, rfl⟩
      rw [hx] at x1
      rw [hy] at x2
      have HX := hid hx
      have HY := hid hy
      clear cc hx hy
      obtain ⟨X, hX⟩ : ∃ X, X = wr.alloc (.cells #[.int .i64 x, .int .i64 y] 33) := ⟨_, rfl⟩
      have rX : Row X wr.heap.size 33 [.int .i64 x, .int .i64 y] := by rw [hX]; exact Row.new wr _ _
      have bX : Below wr.heap.size wr X := by rw [hX]; exact (Below.refl _ _).alloc (Nat.le_refl _) _
      have BX := hid (hB.trans (bX.mono hsz))
      have HXr := hid rX
      have c0 := rX.cell 0; have c1 := rX.cell 1
      simp only [List.getElem?_cons_zero, List.getElem?_cons_succ] at c0 c1
      clear rX
      have xs : X.heap.size = wr.heap.size + 1 := by rw [hX]; simp
      have XS := hid xs
      clear xs
      by_cases hd : 0 ≤ x ∧ x ≤ 100000
      · have e1 := in_yes hd
        by_cases hc : 0 ≤ y ∧ y ≤ 1000000000000
        · have e2 := in_yes hc
          have HT1 := hid (tdTo_succ HT.out (by rw [HX.out, HY.out]; exact okTd_of hd.1 hd.2 hc.1 hc.2))
          clear hd hc
          by_cases hk1 : k = 0
          · have hkz : ¬ (0 : Int) < (k : Int) := by omega
            have hkz' : (k : Int) ≤ 0 := by omega
            have hkd : decide (0 < k) = false := decide_eq_false (by omega)
            have HU1 := hid (show uwTo js (k + 1) by rw [hk1]; exact uwTo_one js)
            clear hk1
            go_wp2_with fail
            rw [← hX]
            clear hX
            go_wp2_with fail
            refine (H1.out _ _).mono ?_
            rw [e1]
            rintro e w' ⟨rfl, rfl⟩
            go_wp2_with fail
            refine (H2.out _ _).mono ?_
            rw [e2]
            rintro e w' ⟨rfl, rfl⟩
            go_wp2_with fail
            go_quiet (fail)
            go_wp2_with fail
            have BB := hid (below_drewN BX.out 1)
            go_roundw
            case rel => exact ⟨k + 1, by omega, by go_num, HT1.out, HU1.out, below_drewN BX.out _⟩
            case measure => simp [intOf]; omega
          · obtain ⟨m, hc⟩ : ∃ m, k = m + 1 := ⟨k - 1, by omega⟩
            have dd := hC.out m (by rw [← hN.out]; omega)
            have y1 := (BX.out.cell (p := ⟨b, m * 2, none⟩) hbl).trans dd.1
            have y2 := (BX.out.cell (p := ⟨b, m * 2 + 1, none⟩) hbl).trans dd.2
            obtain ⟨u, hu⟩ : ∃ z, rd js m = z := ⟨_, rfl⟩
            obtain ⟨v, hv⟩ : ∃ z, rv js m = z := ⟨_, rfl⟩
            rw [hu] at y1
            rw [hv] at y2
            have HV := hid (And.intro hu hv)
            clear dd hu hv
            have hk1 : (0 : Int) < (k : Int) := by omega
            have hk2 : 0 < k := by omega
            have hkd : decide (0 < k) = true := decide_eq_true hk2
            have ec : (k : Int) - 1 = (m : Int) := by omega
            have hcn : m < n := by omega
            have hcn' : (m : Int) < (n : Int) := by omega
            have hc0 : (0 : Int) ≤ (m : Int) := by omega
            have tc : IntKind.i64.wrap (m : Int) = (m : Int) := IntWalk.i64_in _ (by omega)
            have HC := hid hc
            have HKM := hid (show m + 1 < n by omega)
            have HX2 := hid (show rd js (m + 1) = x by rw [← hc]; exact HX.out)
            have HY2 := hid (show rv js (m + 1) = y by rw [← hc]; exact HY.out)
            have HU2 := hid (show uwTo js (m + 1) by rw [← hc]; exact HU.out)
            clear hc
            by_cases hx : x ≤ u
            · have HF := hid (okTs_up (js := js) m (by rw [← hN.out]; exact HKM.out) (.inl (by rw [HX2.out, HV.out.1]; exact hx)))
              go_wp2_with fail
              rw [← hX]
              clear hX
              go_wp2_with fail
              refine (H1.out _ _).mono ?_
              rw [e1]
              rintro e w' ⟨rfl, rfl⟩
              go_wp2_with fail
              refine (H2.out _ _).mono ?_
              rw [e2]
              rintro e w' ⟨rfl, rfl⟩
              go_wp2_with fail
              go_quiet (fail)
              go_wp2_with fail
              go_ret
              exact ⟨by rw [HF.out]; rfl, below_drewN BX.out _⟩
            have hx' : u < x := by omega
            by_cases hy : y < v
            · have HF := hid (okTs_up (js := js) m (by rw [← hN.out]; exact HKM.out) (.inr (by rw [HY2.out, HV.out.2]; exact hy)))
              go_wp2_with fail
              rw [← hX]
              clear hX
              go_wp2_with fail
              refine (H1.out _ _).mono ?_
              rw [e1]
              rintro e w' ⟨rfl, rfl⟩
              go_wp2_with fail
              refine (H2.out _ _).mono ?_
              rw [e2]
              rintro e w' ⟨rfl, rfl⟩
              go_wp2_with fail
              go_quiet (fail)
              go_wp2_with fail
              go_ret
              exact ⟨by rw [HF.out]; rfl, below_drewN BX.out _⟩
            have hy' : v ≤ y := by omega
            have HU1 := hid (show uwTo js (k + 1) by rw [HC.out]; exact uwTo_succ HU2.out (by rw [HX2.out, HY2.out, HV.out.1, HV.out.2]; exact ⟨hx', hy'⟩))
            go_wp2_with fail
            rw [← hX]
            clear hX
            go_wp2_with fail
            refine (H1.out _ _).mono ?_
            rw [e1]
            rintro e w' ⟨rfl, rfl⟩
            go_wp2_with fail
            refine (H2.out _ _).mono ?_
            rw [e2]
            rintro e w' ⟨rfl, rfl⟩
            go_wp2_with fail
            go_quiet (fail)
            go_wp2_with fail
            go_roundw
            case rel => exact ⟨k + 1, by omega, by go_num, HT1.out, HU1.out, below_drewN BX.out _⟩
            case measure => simp [intOf]; omega
        · have e2 := in_no hc
          have HF := hid (okTs_td (js := js) k (by rw [← hN.out]; exact hlt) (by rw [HX.out, HY.out]; exact okTd_no (by omega)))
          clear hd hc
          go_wp2_with fail
          rw [← hX]
          clear hX
          go_wp2_with fail
          refine (H1.out _ _).mono ?_
          rw [e1]
          rintro e w' ⟨rfl, rfl⟩
          go_wp2_with fail
          refine (H2.out _ _).mono ?_
          rw [e2]
          rintro e w' ⟨rfl, rfl⟩
          go_wp2_with fail
          go_ret
          exact ⟨by rw [HF.out]; rfl, BX.out⟩
      · have e1 := in_no hd
        have HF := hid (okTs_td (js := js) k (by rw [← hN.out]; exact hlt) (by rw [HX.out, HY.out]; exact okTd_no (by omega)))
        clear hd
        go_wp2_with fail
        rw [← hX]
        clear hX
        go_wp2_with fail
        refine (H1.out _ _).mono ?_
        rw [e1]
        rintro e w' ⟨rfl, rfl⟩
        go_wp2_with fail
        go_ret
        exact ⟨by rw [HF.out]; rfl, BX.out⟩
    · obtain rfl : k = n := by omega
      have HF := hid (okTs_yes (js := js) (by rw [← hN.out]; omega) (by rw [← hN.out]; exact HT.out) (by rw [← hN.out]; exact HU.out))
      go_wp2_with fail
      go_ret
      exact ⟨by rw [HF.out]; rfl, BH.out⟩
end Go.Proofs.YtdfbenjccjaejaaDoor
