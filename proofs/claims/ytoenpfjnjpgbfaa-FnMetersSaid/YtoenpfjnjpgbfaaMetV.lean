/- Meters that are valid: the program's and the model's answers. -/
import Derived.Test.YtoenpfjnjpgbfaaMet
import Derived.Test.YtoenpfjnjpgbfaaCount
import Derived.Test.YtoenpfjnjpgbfaaTotV
import Derived.Deep.QuietTactic
namespace Go.Proofs.Ytoenpfjnjpgbfaa
open Go.RowKit
theorem quiet_me {P : Program} {f : FuncId} {args : Array Value} {w : World} {n : Nat} {v : Value}
    (h : Calls P f args (w.drewN n) fun e w' => e = .returned v ∧ w.drewN n = w') : Calls P f args (w.drewN n) fun e w'' => e = .returned v ∧ ∃ m, w'' = w.drewN m :=
  h.mono fun _ _ ⟨he, hm⟩ => ⟨he, n, hm.symm⟩
theorem l01Size_me (b n cap : Nat) (zs : List Int) (hn : n = zs.length) (hv : okL zs = true) (w : World) (h : Stk w b zs) :
    Calls Try.prog 17 #[.slice (some ⟨b, 0, none⟩) n cap] w fun e w' => e = .returned (.int .i64 (szL zs)) ∧ w = w' := by
  obtain ⟨_, _, hin, _, hs⟩ := okL_out hv
  have := l01Size_any b n cap zs w h (by omega) (by rw [hn]; exact hin)
  rwa [hn, List.take_length, show szC zs = szL zs from by unfold szC; omega, ← hn] at this
/-- a meter that is valid -/
def okMe (zs : List Int) (x y s : Int) : Bool := okL zs && ((decide (1 ≤ x) && decide (x ≤ 1000)) && ((decide (1 ≤ y) && decide (y ≤ 1000)) && (decide (0 ≤ s) && decide (s ≤ szL zs - 1))))
theorem okMe_out {zs : List Int} {x y s : Int} (h : okMe zs x y s = true) : okL zs = true ∧ 1 ≤ x ∧ x ≤ 1000 ∧ 1 ≤ y ∧ y ≤ 1000 ∧ 0 ≤ s ∧ s < szL zs := by
  simp only [okMe, Bool.and_eq_true, decide_eq_true_eq] at h
  obtain ⟨h0, ⟨h1, h2⟩, ⟨h3, h4⟩, h5, h6⟩ := h
  exact ⟨h0, h1, h2, h3, h4, h5, by omega⟩
theorem okMe_no {zs : List Int} {x y s : Int} (h : ¬ (1 ≤ x ∧ x ≤ 1000 ∧ 1 ≤ y ∧ y ≤ 1000 ∧ 0 ≤ s ∧ s < szL zs)) : okMe zs x y s = false := by
  cases e : okMe zs x y s with
  | false => rfl
  | true => exact absurd (okMe_out e).2 h
theorem okMe_yes {zs : List Int} {x y s : Int} (h0 : okL zs = true) (h : 1 ≤ x ∧ x ≤ 1000 ∧ 1 ≤ y ∧ y ≤ 1000 ∧ 0 ≤ s ∧ s < szL zs) : okMe zs x y s = true := by
  obtain ⟨h1, h2, h3, h4, h5, h6⟩ := h
  simp only [okMe, Bool.and_eq_true, decide_eq_true_eq]
  exact ⟨h0, ⟨h1, h2⟩, ⟨h3, h4⟩, h5, by omega⟩
theorem okMe_stack {zs : List Int} {x y s : Int} (h : okL zs = false) : okMe zs x y s = false := by simp [okMe, h]
set_option maxHeartbeats 2000000 in
theorem l06Ok_any (g B n cap : Nat) (zs : List Int) (x y s : Int) (w : World) (hS : Stk w B zs) (hn : n = zs.length) (hR : Row w g 26 [.slice (some ⟨B, 0, none⟩) n cap, .int .i64 x, .int .i64 y, .int .i64 s]) :
    Calls Try.prog 32 #[.pointer (some ⟨g, 0, none⟩)] w fun e w' => e = .returned (.bool (okMe zs x y s)) ∧ ∃ d, w' = w.drewN d := by
  have c0 := hR.cell 0; have c1 := hR.cell 1; have c2 := hR.cell 2; have c3 := hR.cell 3
  simp only [List.getElem?_cons_zero, List.getElem?_cons_succ] at c0 c1 c2 c3
  have HK := hid (fun k => hS.below (below_drewN (Below.refl w.heap.size w) k) hS.1)
  have HV := hid (fun k => l01Ok_any B n cap zs _ (HK.out k) hn)
  have HN := hid hn
  clear hR hS hn
  cases hv : okL zs with
  | false =>
    rw [okMe_stack hv]
    rw [hv] at HV
    clear hv
    go_enter Try.func32, Try.ntmps32
    go_wp2_with fail
    go_quiet ((go_at_call 16; exact quiet_me (HV.out _)))
    go_wp2_with fail
    go_ret
    exact ⟨rfl, _, rfl⟩
  | true =>
    rw [hv] at HV
    have H1 := hid (fun w => inr_any x 1 1000 w)
    have H2 := hid (fun w => inr_any y 1 1000 w)
    have H3 := hid (fun w => inr_any s 0 (szL zs - 1) w)
    have HZ := hid (fun k => l01Size_me B n cap zs HN.out hv _ (HK.out k))
    have e : okMe zs x y s = ((decide (1 ≤ x) && decide (x ≤ 1000)) && ((decide (1 ≤ y) && decide (y ≤ 1000)) && (decide (0 ≤ s) && decide (s ≤ szL zs - 1)))) := by rw [okMe, hv, Bool.true_and]
    obtain ⟨_, _, _, z1, z2⟩ := okL_out hv
    rw [e]
    obtain ⟨r1, h1⟩ : ∃ r, (decide (1 ≤ x) && decide (x ≤ 1000)) = r := ⟨_, rfl⟩
    obtain ⟨r2, h2⟩ : ∃ r, (decide (1 ≤ y) && decide (y ≤ 1000)) = r := ⟨_, rfl⟩
    obtain ⟨r3, h3⟩ : ∃ r, (decide (0 ≤ s) && decide (s ≤ szL zs - 1)) = r := ⟨_, rfl⟩
    rw [h1] at H1 ⊢
    rw [h2] at H2 ⊢
    rw [h3] at H3 ⊢
    obtain ⟨z, hz⟩ : ∃ z, szL zs = z := ⟨_, rfl⟩
    rw [hz] at H3 HZ z1 z2
    have tz : IntKind.i64.wrap (z - 1) = z - 1 := IntWalk.i64_in _ (by omega)
    clear h1 h2 h3 hz e hv
    cases r1
    · go_enter Try.func32, Try.ntmps32
      go_wp2_with fail
      go_quiet ((first | (go_at_call 16; exact quiet_me (HV.out _)) | (go_at_call 26; with_reducible exact quiet_me (H1.out _))))
      go_wp2_with fail
      go_ret
      exact ⟨rfl, _, rfl⟩
    · cases r2
      · go_enter Try.func32, Try.ntmps32
        go_wp2_with fail
        go_quiet ((first | (go_at_call 16; exact quiet_me (HV.out _)) | (go_at_call 26; with_reducible exact quiet_me (H1.out _)) | (go_at_call 26; with_reducible exact quiet_me (H2.out _))))
        go_wp2_with fail
        go_ret
        exact ⟨rfl, _, rfl⟩
      · go_enter Try.func32, Try.ntmps32
        go_wp2_with fail
        go_quiet ((first | (go_at_call 16; exact quiet_me (HV.out _)) | (go_at_call 17; exact quiet_me (HZ.out _)) | (go_at_call 26; with_reducible exact quiet_me (H1.out _)) | (go_at_call 26; with_reducible exact quiet_me (H2.out _)) | (go_at_call 26; with_reducible exact quiet_me (H3.out _))))
        go_wp2_with fail
        go_ret
        exact ⟨rfl, _, rfl⟩
set_option maxHeartbeats 2000000 in
theorem implValidMeter_any (B n cap : Nat) (zs : List Int) (x y s : Int) (w : World) (hS : Stk w B zs) (hn : n = zs.length) :
    Calls Try.prog 13 #[.agg #[.slice (some ⟨B, 0, none⟩) n cap, .int .i64 x, .int .i64 y, .int .i64 s]] w (GivesB w (.bool (okMe zs x y s))) := by
  obtain ⟨W, hW⟩ : ∃ W, W = w.alloc (.cells #[.slice (some ⟨B, 0, none⟩) n cap, .int .i64 x, .int .i64 y, .int .i64 s] 26) := ⟨_, rfl⟩
  have bel : Below w.heap.size w W := by rw [hW]; exact box4_belM _ _ _ _ _ _
  have r0 : Row W w.heap.size 26 [.slice (some ⟨B, 0, none⟩) n cap, .int .i64 x, .int .i64 y, .int .i64 s] := by rw [hW]; exact Row.new _ _ _
  have hK := hS.below bel hS.1
  have c0 := r0.cell 0; have c1 := r0.cell 1; have c2 := r0.cell 2; have c3 := r0.cell 3
  simp only [List.getElem?_cons_zero, List.getElem?_cons_succ] at c0 c1 c2 c3
  have HV := hid (validStack_any B n cap zs W hK hn)
  have HY := hid (fun h0 h => hasValue_yes B n cap zs s W hK hn h0 h)
  have HX := hid (fun h0 h => hasValue_no B n cap zs s W hK hn h0 h)
  have BE := hid bel
  have HW := hid hW
  clear bel hW hK hS hn r0
  cases hv : okL zs with
  | false =>
    rw [okMe_stack hv]
    rw [hv] at HV
    clear hv
    go_enter Try.func13, Try.ntmps13
    go_wp2_with fail
    rw [← HW.out]
    refine HV.out.mono ?_
    rintro e w1 ⟨rfl, rfl⟩
    go_wp2_with fail
    go_ret
    exact ⟨rfl, BE.out⟩
  | true =>
    rw [hv] at HV
    have HYY := hid (HY.out hv)
    have HXX := hid (HX.out hv)
    have HOK := hid hv
    clear hv
    obtain ⟨m, hm⟩ : ∃ m, min x y = m := ⟨_, rfl⟩
    obtain ⟨M, hM⟩ : ∃ m, max x y = m := ⟨_, rfl⟩
    have MN : ∀ w, Sem.run Try.prog (Builtin.min_ #[2, 2] 2 #[.int .i64 x, .int .i64 y]) w = .ok (.int .i64 m) w := fun w => by
      have : (if y < x then y else x) = min x y := by split <;> omega
      rw [← hm, ← this]; rfl
    have MX : ∀ w, Sem.run Try.prog (Builtin.max_ #[2, 2] 2 #[.int .i64 x, .int .i64 y]) w = .ok (.int .i64 M) w := fun w => by
      have : (if y > x then y else x) = max x y := by split <;> omega
      rw [← hM, ← this]; rfl
    by_cases q1 : 1 ≤ m
    · by_cases q2 : M ≤ 1000
      · by_cases q3 : 0 ≤ s ∧ s < szL zs
        · rw [okMe_yes HOK.out (by omega)]
          have HC := hid (HYY.out q3)
          clear q3 hm hM
          go_enter Try.func13, Try.ntmps13
          go_wp2_with fail
          rw [← HW.out]
          refine HV.out.mono ?_
          rintro e w1 ⟨rfl, rfl⟩
          go_wp2_with fail
          refine HC.out.mono ?_
          rintro e w1 ⟨rfl, hB⟩
          go_wp2_with fail
          go_ret
          exact ⟨rfl, BE.out.trans (hB.mono BE.out.size)⟩
        · rw [okMe_no (by omega)]
          have HC := hid (HXX.out q3)
          clear q3 hm hM
          go_enter Try.func13, Try.ntmps13
          go_wp2_with fail
          rw [← HW.out]
          refine HV.out.mono ?_
          rintro e w1 ⟨rfl, rfl⟩
          go_wp2_with fail
          refine HC.out.mono ?_
          rintro e w1 ⟨rfl, hB⟩
          go_wp2_with fail
          go_ret
          exact ⟨rfl, BE.out.trans (hB.mono BE.out.size)⟩
      · rw [okMe_no (by omega)]
        have q4 : decide (M ≤ 1000) = false := decide_eq_false q2
        clear hm hM
        go_enter Try.func13, Try.ntmps13
        go_wp2_with fail
        rw [← HW.out]
        refine HV.out.mono ?_
        rintro e w1 ⟨rfl, rfl⟩
        go_wp2_with fail
        go_ret
        exact ⟨rfl, BE.out⟩
    · rw [okMe_no (by omega)]
      have q4 : decide (1 ≤ m) = false := decide_eq_false q1
      clear hm hM
      go_enter Try.func13, Try.ntmps13
      go_wp2_with fail
      rw [← HW.out]
      refine HV.out.mono ?_
      rintro e w1 ⟨rfl, rfl⟩
      go_wp2_with fail
      go_ret
      exact ⟨rfl, BE.out⟩
end Go.Proofs.Ytoenpfjnjpgbfaa
