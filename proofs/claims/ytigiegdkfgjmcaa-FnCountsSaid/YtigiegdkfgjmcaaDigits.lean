/- Validity of digits: the program's and the model's answers are okV of the bases and the digits. -/
import Derived.Test.YtigiegdkfgjmcaaValid
import Derived.Test.YtigiegdkfgjmcaaOpen
namespace Go.Proofs.Ytigiegdkfgjmcaa
open Go.RowKit

/-- an array of eight bytes is read at a place -/
theorem index_oct (d0 d1 d2 d3 d4 d5 d6 d7 : Int) (k : Nat) (hk : k < 8) (w : World) :
    (Instr.index 28 (.agg #[.int .u8 d0, .int .u8 d1, .int .u8 d2, .int .u8 d3, .int .u8 d4, .int .u8 d5, .int .u8 d6, .int .u8 d7]) (.int .i64 (k : Int))).run Try.prog w
      = .ok (.int .u8 (([d0, d1, d2, d3, d4, d5, d6, d7] : List Int)[k]?.getD 0)) w := by
  have i0 : (Instr.index 28 (.agg #[.int .u8 d0, .int .u8 d1, .int .u8 d2, .int .u8 d3, .int .u8 d4, .int .u8 d5, .int .u8 d6, .int .u8 d7]) (.int .i64 ((0 : Nat) : Int))).run Try.prog w = .ok (.int .u8 d0) w := by kernel_rfl
  have i1 : (Instr.index 28 (.agg #[.int .u8 d0, .int .u8 d1, .int .u8 d2, .int .u8 d3, .int .u8 d4, .int .u8 d5, .int .u8 d6, .int .u8 d7]) (.int .i64 ((1 : Nat) : Int))).run Try.prog w = .ok (.int .u8 d1) w := by kernel_rfl
  have i2 : (Instr.index 28 (.agg #[.int .u8 d0, .int .u8 d1, .int .u8 d2, .int .u8 d3, .int .u8 d4, .int .u8 d5, .int .u8 d6, .int .u8 d7]) (.int .i64 ((2 : Nat) : Int))).run Try.prog w = .ok (.int .u8 d2) w := by kernel_rfl
  have i3 : (Instr.index 28 (.agg #[.int .u8 d0, .int .u8 d1, .int .u8 d2, .int .u8 d3, .int .u8 d4, .int .u8 d5, .int .u8 d6, .int .u8 d7]) (.int .i64 ((3 : Nat) : Int))).run Try.prog w = .ok (.int .u8 d3) w := by kernel_rfl
  have i4 : (Instr.index 28 (.agg #[.int .u8 d0, .int .u8 d1, .int .u8 d2, .int .u8 d3, .int .u8 d4, .int .u8 d5, .int .u8 d6, .int .u8 d7]) (.int .i64 ((4 : Nat) : Int))).run Try.prog w = .ok (.int .u8 d4) w := by kernel_rfl
  have i5 : (Instr.index 28 (.agg #[.int .u8 d0, .int .u8 d1, .int .u8 d2, .int .u8 d3, .int .u8 d4, .int .u8 d5, .int .u8 d6, .int .u8 d7]) (.int .i64 ((5 : Nat) : Int))).run Try.prog w = .ok (.int .u8 d5) w := by kernel_rfl
  have i6 : (Instr.index 28 (.agg #[.int .u8 d0, .int .u8 d1, .int .u8 d2, .int .u8 d3, .int .u8 d4, .int .u8 d5, .int .u8 d6, .int .u8 d7]) (.int .i64 ((6 : Nat) : Int))).run Try.prog w = .ok (.int .u8 d6) w := by kernel_rfl
  have i7 : (Instr.index 28 (.agg #[.int .u8 d0, .int .u8 d1, .int .u8 d2, .int .u8 d3, .int .u8 d4, .int .u8 d5, .int .u8 d6, .int .u8 d7]) (.int .i64 ((7 : Nat) : Int))).run Try.prog w = .ok (.int .u8 d7) w := by kernel_rfl
  have h : k = 0 ∨ k = 1 ∨ k = 2 ∨ k = 3 ∨ k = 4 ∨ k = 5 ∨ k = 6 ∨ k = 7 := by omega
  clear hk
  rcases h with rfl | rfl | rfl | rfl | rfl | rfl | rfl | rfl
  · exact i0
  · exact i1
  · exact i2
  · exact i3
  · exact i4
  · exact i5
  · exact i6
  · exact i7
theorem oct_bd {d0 d1 d2 d3 d4 d5 d6 d7 : Int} (h : Oct d0 d1 d2 d3 d4 d5 d6 d7) (k : Nat) (hk : k < 8) :
    0 ≤ ([d0, d1, d2, d3, d4, d5, d6, d7] : List Int)[k]?.getD 0 ∧ ([d0, d1, d2, d3, d4, d5, d6, d7] : List Int)[k]?.getD 0 ≤ 255 := by
  obtain ⟨h0, h1, h2, h3, h4, h5, h6, h7⟩ := h
  match k, hk with
  | 0, _ => exact h0
  | 1, _ => exact h1
  | 2, _ => exact h2
  | 3, _ => exact h3
  | 4, _ => exact h4
  | 5, _ => exact h5
  | 6, _ => exact h6
  | 7, _ => exact h7

set_option maxHeartbeats 2000000 in
theorem validDigits_any (b n cap : Nat) (zs : List Int) (d0 d1 d2 d3 d4 d5 d6 d7 : Int) (w : World) (h : Stk w b zs) (hn : n = zs.length) (ho : Oct d0 d1 d2 d3 d4 d5 d6 d7) :
    Calls Try.prog 29 #[.slice (some ⟨b, 0, none⟩) n cap, .agg #[.int .u8 d0, .int .u8 d1, .int .u8 d2, .int .u8 d3, .int .u8 d4, .int .u8 d5, .int .u8 d6, .int .u8 d7]] w
      fun e w' => e = .returned (.bool (okV zs [d0, d1, d2, d3, d4, d5, d6, d7])) ∧ Below w.heap.size w w' := by
  have hS := hid h
  have hZ := hid h.2.2.1
  have hl := h.2.2.2
  rw [← hn] at hl
  have hN := hid hn
  have hO := hid (fun k hk => oct_bd ho k hk)
  have hB0 := fun (o : Obj) => (Below.refl w.heap.size w).alloc (Nat.le_refl _) o
  have hS1 := hid (fun (o : Obj) => h.below (hB0 o) h.1)
  have hC := hid (fun (o : Obj) => (h.below (hB0 o) h.1).2.1)
  have hB := hid hB0
  clear h hn ho hB0
  cases hv : okL zs with
  | false =>
    have hf := hid (okV_no (ds := [d0, d1, d2, d3, d4, d5, d6, d7]) hv)
    have hv' := hid hv
    clear hv
    go_enter Try.func29, Try.ntmps29
    go_wp2_with (go_at_call 48; refine (validStack_any _ _ _ zs _ (hS1.out _) hN.out).mono ?_; rw [hv'.out]; rintro e w' ⟨rfl, rfl⟩)
    go_ret
    exact ⟨by rw [hf.out]; rfl, hB.out _⟩
  | true =>
    have hf := hid (okV_yes (ds := [d0, d1, d2, d3, d4, d5, d6, d7]) hv)
    have hv' := hid hv
    clear hv
    go_enter Try.func29, Try.ntmps29
    go_wp2_with (go_at_call 48; refine (validStack_any _ _ _ zs _ (hS1.out _) hN.out).mono ?_; rw [hv'.out]; rintro e w' ⟨rfl, rfl⟩)
    go_loop [11] (fun i => ∃ k : Nat, k ≤ 8 ∧ i = .int .i64 k ∧ okTo zs [d0, d1, d2, d3, d4, d5, d6, d7] k) (fun i => 8 - (intOf i).toNat)
    case atStart => exact ⟨0, Nat.zero_le _, rfl, okTo_zero _ _⟩
    case round =>
      obtain ⟨k, hk, rfl, hT⟩ := hrel
      by_cases hlt : k < 8
      · have hix := fun w => index_oct d0 d1 d2 d3 d4 d5 d6 d7 k hlt w
        have hdb := hO.out k hlt
        have hTL := hid (fun a b => okTo_low hT (k := k) a b)
        have hTH := hid (fun a b => okTo_high hT (k := k) a b)
        have hFL := hid (fun a b => okD_low (zs := zs) (ds := [d0, d1, d2, d3, d4, d5, d6, d7]) k hlt a b)
        have hFH := hid (fun a b => okD_high (zs := zs) (ds := [d0, d1, d2, d3, d4, d5, d6, d7]) k hlt a b)
        clear hT
        obtain ⟨d, hd⟩ : ∃ d, d = ([d0, d1, d2, d3, d4, d5, d6, d7] : List Int)[k]?.getD 0 := ⟨_, rfl⟩
        rw [← hd] at hdb hTL hTH hFL hFH
        simp only [← hd] at hix
        clear hd
        by_cases hw : k < n
        · have hx := hC.out (.cells #[.int .u8 d0, .int .u8 d1, .int .u8 d2, .int .u8 d3, .int .u8 d4, .int .u8 d5, .int .u8 d6, .int .u8 d7] 28) k (by rw [← hN.out]; exact hw)
          have hzb := hZ.out (zs[k]?.getD 0) (by simp [show k < zs.length from by rw [← hN.out]; exact hw])
          have hw' : k < zs.length := by rw [← hN.out]; exact hw
          have hTL' := hid (hTL.out hw')
          have hFL' := hid (hFL.out hw')
          clear hTL hTH hFL hFH hw'
          obtain ⟨z, hz⟩ : ∃ z, z = zs[k]?.getD 0 := ⟨_, rfl⟩
          rw [← hz] at hx hzb hTL' hFL'
          clear hz
          by_cases hdz : d < z
          · have hT' := hid (hTL'.out hdz)
            have hge : (decide (z ≤ d)) = false := by simp; omega
            go_wp2
            go_round
            case rel => exact ⟨k + 1, by omega, by go_num, hT'.out⟩
            case measure => simp [intOf]; omega
          · have hF' := hid (hf.out.trans (hFL'.out (by omega)))
            have hge : (decide (z ≤ d)) = true := by simp; omega
            go_wp2
            go_ret
            exact ⟨by rw [hF'.out]; rfl, hB.out _⟩
        · have hw' : zs.length ≤ k := by rw [← hN.out]; omega
          have hTH' := hid (hTH.out hw')
          have hFH' := hid (hFH.out hw')
          clear hTL hTH hFL hFH hw'
          by_cases hdz : d = 0
          · have hT' := hid (hTH'.out hdz)
            subst hdz
            go_wp2
            go_round
            case rel => exact ⟨k + 1, by omega, by go_num, hT'.out⟩
            case measure => simp [intOf]; omega
          · have hF' := hid (hf.out.trans (hFH'.out hdz))
            have hne : (d != 0) = true := by rw [bne_iff_ne]; exact hdz
            clear hdz
            go_wp2
            go_ret
            exact ⟨by rw [hF'.out]; rfl, hB.out _⟩
      · obtain rfl : k = 8 := by omega
        have hF' := hid (hf.out.trans (okD_of hT))
        clear hT
        go_wp2
        go_ret
        exact ⟨by rw [hF'.out]; rfl, hB.out _⟩

set_option maxHeartbeats 4000000 in
theorem l01Digits_any (b n cap : Nat) (zs : List Int) (d0 d1 d2 d3 d4 d5 d6 d7 : Int) (w : World) (h : Stk w b zs) (hn : n = zs.length) (ho : Oct d0 d1 d2 d3 d4 d5 d6 d7) :
    Calls Try.prog 54 #[.slice (some ⟨b, 0, none⟩) n cap, .agg #[.int .u8 d0, .int .u8 d1, .int .u8 d2, .int .u8 d3, .int .u8 d4, .int .u8 d5, .int .u8 d6, .int .u8 d7]] w
      fun e w' => e = .returned (.bool (okD zs [d0, d1, d2, d3, d4, d5, d6, d7])) ∧ Below w.heap.size w w' := by
  have hZ := hid h.2.2.1
  have hl := h.2.2.2
  rw [← hn] at hl
  have hN := hid hn
  have hO := hid (fun k hk => oct_bd ho k hk)
  have hB0 := fun (o : Obj) => (Below.refl w.heap.size w).alloc (Nat.le_refl _) o
  have hC := hid (fun (o : Obj) => (h.below (hB0 o) h.1).2.1)
  have hB := hid hB0
  have hR := hid ((Row.new w 28 [.int .u8 d0, .int .u8 d1, .int .u8 d2, .int .u8 d3, .int .u8 d4, .int .u8 d5, .int .u8 d6, .int .u8 d7]).cell)
  clear h hn ho hB0
  go_enter Try.func54, Try.ntmps54
  go_wp2
  go_loopw [5] (fun i wr => ∃ k : Nat, k ≤ 8 ∧ i = .int .i64 k ∧ okTo zs [d0, d1, d2, d3, d4, d5, d6, d7] k ∧ ∃ q, wr = (w.alloc (.cells #[.int .u8 d0, .int .u8 d1, .int .u8 d2, .int .u8 d3, .int .u8 d4, .int .u8 d5, .int .u8 d6, .int .u8 d7] 28)).drewN q) (fun i _ => 8 - (intOf i).toNat)
  case atStart => exact ⟨0, Nat.zero_le _, rfl, okTo_zero _ _, 0, rfl⟩
  case round =>
    obtain ⟨k, hk, rfl, hT, q, rfl⟩ := hrel
    by_cases hlt : k < 8
    · have hc := hR.out k
      rw [show ([Value.int .u8 d0, .int .u8 d1, .int .u8 d2, .int .u8 d3, .int .u8 d4, .int .u8 d5, .int .u8 d6, .int .u8 d7] : List Value)[k]? = some (.int .u8 (([d0, d1, d2, d3, d4, d5, d6, d7] : List Int)[k]?.getD 0)) from by
        have h : k = 0 ∨ k = 1 ∨ k = 2 ∨ k = 3 ∨ k = 4 ∨ k = 5 ∨ k = 6 ∨ k = 7 := by omega
        rcases h with rfl | rfl | rfl | rfl | rfl | rfl | rfl | rfl <;> rfl] at hc
      have hdb := hO.out k hlt
      have hTL := hid (fun a b => okTo_low hT (k := k) a b)
      have hTH := hid (fun a b => okTo_high hT (k := k) a b)
      have hFL := hid (fun a b => okD_low (zs := zs) (ds := [d0, d1, d2, d3, d4, d5, d6, d7]) k hlt a b)
      have hFH := hid (fun a b => okD_high (zs := zs) (ds := [d0, d1, d2, d3, d4, d5, d6, d7]) k hlt a b)
      clear hT
      obtain ⟨d, hd⟩ : ∃ d, d = ([d0, d1, d2, d3, d4, d5, d6, d7] : List Int)[k]?.getD 0 := ⟨_, rfl⟩
      rw [← hd] at hdb hTL hTH hFL hFH hc
      clear hd
      by_cases hw : k < n
      · have hx := hC.out (.cells #[.int .u8 d0, .int .u8 d1, .int .u8 d2, .int .u8 d3, .int .u8 d4, .int .u8 d5, .int .u8 d6, .int .u8 d7] 28) k (by rw [← hN.out]; exact hw)
        have hzb := hZ.out (zs[k]?.getD 0) (by simp [show k < zs.length from by rw [← hN.out]; exact hw])
        have hw' : k < zs.length := by rw [← hN.out]; exact hw
        have hTL' := hid (hTL.out hw')
        have hFL' := hid (hFL.out hw')
        clear hTL hTH hFL hFH hw'
        obtain ⟨z, hz⟩ : ∃ z, z = zs[k]?.getD 0 := ⟨_, rfl⟩
        rw [← hz] at hx hzb hTL' hFL'
        clear hz
        have g1 : decide (k < n) = true := by simp; omega
        have g2 : decide (n ≤ k) = false := by simp; omega
        have g3 : (k : Int) < (n : Int) := by omega
        by_cases hdz : d < z
        · have hT' := hid (hTL'.out hdz)
          have hge : (decide (z ≤ d)) = false := by simp; omega
          go_wp2
          go_quiet (fail)
          go_wp2
          all_goals go_roundw
          case rel => exact ⟨k + 1, by omega, by go_num, hT'.out, _, rfl⟩
          case measure => simp [intOf]; omega
        · have hF' := hid (hFL'.out (by omega))
          have hge : (decide (z ≤ d)) = true := by simp; omega
          go_wp2
          go_quiet (fail)
          go_wp2
          go_ret
          exact ⟨by rw [hF'.out]; rfl, below_drewN (below_drewN (hB.out _) q) _⟩
      · have hw' : zs.length ≤ k := by rw [← hN.out]; omega
        have hTH' := hid (hTH.out hw')
        have hFH' := hid (hFH.out hw')
        clear hTL hTH hFL hFH hw'
        have g1 : decide (k < n) = false := by simp; omega
        have g2 : decide (n ≤ k) = true := by simp; omega
        have g3 : (n : Int) ≤ (k : Int) := by omega
        by_cases hdz : d = 0
        · have hT' := hid (hTH'.out hdz)
          subst hdz
          have hne : ((0 : Int) != 0) = false := by simp
          go_wp2
          go_quiet (fail)
          go_wp2
          all_goals go_roundw
          case rel => exact ⟨k + 1, by omega, by go_num, hT'.out, _, rfl⟩
          case measure => simp [intOf]; omega
        · have hF' := hid (hFH'.out hdz)
          have hne : (d != 0) = true := by rw [bne_iff_ne]; exact hdz
          clear hdz
          go_wp2
          go_quiet (fail)
          go_wp2
          go_ret
          exact ⟨by rw [hF'.out]; rfl, below_drewN (below_drewN (hB.out _) q) _⟩
    · obtain rfl : k = 8 := by omega
      have hF' := hid (okD_of hT)
      clear hT
      go_wp2
      go_ret
      exact ⟨by rw [hF'.out]; rfl, below_drewN (hB.out _) q⟩

set_option maxHeartbeats 1000000 in
theorem specValidDigits_any (b n cap : Nat) (zs : List Int) (d0 d1 d2 d3 d4 d5 d6 d7 : Int) (w : World) (h : Stk w b zs) (hn : n = zs.length) (ho : Oct d0 d1 d2 d3 d4 d5 d6 d7) :
    Calls Try.prog 36 #[.slice (some ⟨b, 0, none⟩) n cap, .agg #[.int .u8 d0, .int .u8 d1, .int .u8 d2, .int .u8 d3, .int .u8 d4, .int .u8 d5, .int .u8 d6, .int .u8 d7]] w
      fun e w' => e = .returned (.bool (okV zs [d0, d1, d2, d3, d4, d5, d6, d7])) ∧ Below w.heap.size w w' := by
  have hN := hid hn
  have hO := hid ho
  have hB0 := fun (o : Obj) => (Below.refl w.heap.size w).alloc (Nat.le_refl _) o
  have hS1 := hid (fun (o : Obj) => h.below (hB0 o) h.1)
  have hB := hid hB0
  clear h hn ho hB0
  cases hv : okL zs with
  | false =>
    have hf := hid (okV_no (ds := [d0, d1, d2, d3, d4, d5, d6, d7]) hv)
    have hv' := hid hv
    clear hv
    go_enter Try.func36, Try.ntmps36
    go_wp2_with (go_at_call 26; refine (l01Ok_any _ _ _ zs _ (hS1.out _) hN.out).mono ?_; rw [hv'.out]; rintro e w' ⟨rfl, rfl⟩)
    go_ret
    exact ⟨by rw [hf.out]; rfl, hB.out _⟩
  | true =>
    have hf := hid (okV_yes (ds := [d0, d1, d2, d3, d4, d5, d6, d7]) hv)
    have hv' := hid hv
    clear hv
    go_enter Try.func36, Try.ntmps36
    go_wp2_with (first | (go_at_call 26; refine (l01Ok_any _ _ _ zs _ (hS1.out _) hN.out).mono ?_; rw [hv'.out]; rintro e w' ⟨rfl, rfl⟩) | (go_at_call 54; refine (l01Digits_any _ _ _ zs _ _ _ _ _ _ _ _ _ (hS1.out _) hN.out hO.out).mono ?_; rintro e w' ⟨rfl, hB2⟩))
    go_ret
    exact ⟨by rw [hf.out]; rfl, (hB.out _).trans (hB2.mono (by simp))⟩
end Go.Proofs.Ytigiegdkfgjmcaa
