/- How much has been counted up to a day, with a code; the model's and the program's answers. -/
import Derived.Test.YtbefbkklompcjaaDoorCbd
import Derived.Test.YtbefbkklompcjaaDoorAs
namespace Go.Proofs.YtbefbkklompcjaaDoor
open Go.RowKit
set_option linter.unusedVariables false
def coR (js : List (Int × Int)) (day : Int) : Int × Int :=
  if okTs js = true then (if 0 ≤ day ∧ day ≤ 100000 then (if hasOn js day then (onI js day, 0) else (0, 6)) else (0, 2)) else (0, 1)
theorem coR_no {js : List (Int × Int)} {day : Int} (h : okTs js = false) : coR js day = (0, 1) := by simp [coR, h]
theorem coR_range {js : List (Int × Int)} {day : Int} (h : okTs js = true) (k : ¬ (0 ≤ day ∧ day ≤ 100000)) : coR js day = (0, 2) := by rw [coR, if_pos h, if_neg k]
theorem coR_none {js : List (Int × Int)} {day : Int} (h : okTs js = true) (k : 0 ≤ day ∧ day ≤ 100000) (o : ¬ hasOn js day) : coR js day = (0, 6) := by rw [coR, if_pos h, if_pos k, if_neg o]
theorem coR_yes {js : List (Int × Int)} {day : Int} (h : okTs js = true) (k : 0 ≤ day ∧ day ≤ 100000) (o : hasOn js day) : coR js day = (onI js day, 0) := by rw [coR, if_pos h, if_pos k, if_pos o]
theorem coR_code (js : List (Int × Int)) (day : Int) : ((coR js day).2 = 0 ∧ (okTs js = true ∧ hasOn js day)) ∨ ((coR js day).1 = 0 ∧ (coR js day).2 ≠ 0) := by
  unfold coR
  split
  · split
    · split
      · exact .inl ⟨rfl, by assumption, by assumption⟩
      · exact .inr ⟨rfl, by decide⟩
    · exact .inr ⟨rfl, by decide⟩
  · exact .inr ⟨rfl, by decide⟩
theorem dayB_has {js : List (Int × Int)} {day : Int} (h : 0 ≤ day) : hasOn js day ↔ ((dayB js).1 ≤ day ∧ day < (dayB js).2) := by
  unfold hasOn dayB
  by_cases e : js.length = 0
  · rw [if_pos e]
    constructor
    · intro k; omega
    · intro k; simp only at k; omega
  · rw [if_neg e]
    constructor
    · intro k; simp only; omega
    · intro k; simp only at k; omega
/-- an error with a code, or none -/
def errV (c : Int) : Value := if c = 0 then .nilIface else .iface 69 (.int .i64 c)
theorem errV_nil : errV 0 = .nilIface := rfl
theorem errV_some {c : Int} (h : c ≠ 0) : errV c = .iface 69 (.int .i64 c) := by rw [errV, if_neg h]
theorem codeOf_any (c : Int) (w : World) (hg : GV w) : Calls Tryd.prog 27 #[errV c] w fun e w' => e = .returned (.int .i64 c) ∧ Below w.heap.size w w' := by
  by_cases h : c = 0
  · subst h
    exact codeOf_nil w
  · rw [errV_some h]
    exact codeOf_hit c w hg
set_option maxRecDepth 100000 in
set_option maxHeartbeats 2000000 in
theorem specCountOn_any (b n cap : Nat) (js : List (Int × Int)) (day : Int) (hd64 : I64 day) (hn : n = js.length) (w : World) (hR : Rst w b js) :
    Calls Tryd.prog 16 #[.slice (some ⟨b, 0, none⟩) n cap, .int .i64 day] w (GivesB w (.tuple #[.int .i64 (coR js day).1, .int .i64 (coR js day).2])) := by
  have HV := hid (l06Totals_any b n cap js hn w hR)
  have HI := hid (fun w => inr_any day 0 100000 w)
  have HRR := hid hR
  have bl := hid hR.1
  cases hv : okTs js with
  | false =>
    rw [coR_no hv]
    rw [hv] at HV
    clear hv hn hR hd64
    go_enter Tryd.func16, Tryd.ntmps16
    go_wp2_with fail
    refine HV.out.mono ?_
    rintro e w1 ⟨rfl, hB⟩
    go_wp2_with fail
    go_ret2
    exact ⟨rfl, hB⟩
  | true =>
    rw [hv] at HV
    by_cases hd : 0 ≤ day ∧ day ≤ 100000
    · rw [in_yes hd] at HI
      have HO := hid (fun (w : World) (h : Rst w b js) => l06On_any b n cap js hn hv day hd64 w h)
      by_cases ho : hasOn js day
      · rw [coR_yes hv hd ho]
        rw [onR_yes ho] at HO
        obtain ⟨x, hx⟩ : ∃ x, onI js day = x := ⟨_, rfl⟩
        rw [hx] at HO ⊢
        clear hv hn hR hd hd64 ho hx
        go_enter Tryd.func16, Tryd.ntmps16
        go_wp2_with fail
        refine HV.out.mono ?_
        rintro e w1 ⟨rfl, hB⟩
        have R1 := hid (HRR.out.below hB bl.out)
        go_wp2_with fail
        refine (HI.out _).mono ?_
        rintro e w2 ⟨rfl, rfl⟩
        go_wp2_with fail
        refine (HO.out _ R1.out).mono ?_
        rintro e w2 ⟨rfl, d, rfl⟩
        go_wp2_with fail
        go_ret2
        exact ⟨rfl, below_drewN hB d⟩
      · rw [coR_none hv hd ho]
        rw [onR_no ho] at HO
        clear hv hn hR hd hd64 ho
        go_enter Tryd.func16, Tryd.ntmps16
        go_wp2_with fail
        refine HV.out.mono ?_
        rintro e w1 ⟨rfl, hB⟩
        have R1 := hid (HRR.out.below hB bl.out)
        go_wp2_with fail
        refine (HI.out _).mono ?_
        rintro e w2 ⟨rfl, rfl⟩
        go_wp2_with fail
        refine (HO.out _ R1.out).mono ?_
        rintro e w2 ⟨rfl, d, rfl⟩
        go_wp2_with fail
        go_ret2
        exact ⟨rfl, below_drewN hB d⟩
    · rw [coR_range hv hd]
      rw [in_no hd] at HI
      clear hv hn hR hd hd64
      go_enter Tryd.func16, Tryd.ntmps16
      go_wp2_with fail
      refine HV.out.mono ?_
      rintro e w1 ⟨rfl, hB⟩
      go_wp2_with fail
      refine (HI.out _).mono ?_
      rintro e w2 ⟨rfl, rfl⟩
      go_wp2_with fail
      go_ret2
      exact ⟨rfl, hB⟩
set_option maxRecDepth 100000 in
set_option maxHeartbeats 4000000 in
theorem countOn_any (b n cap : Nat) (js : List (Int × Int)) (day : Int) (hd64 : I64 day) (hn : n = js.length) (w : World) (hR : Rst w b js) :
    Calls Tryd.prog 34 #[.slice (some ⟨b, 0, none⟩) n cap, .int .i64 day] w (GivesB w (.tuple #[.int .i64 (coR js day).1, errV (coR js day).2])) := by
  have HV := hid (implTotals_any b n cap js hn w hR)
  have HI := hid (fun w => isLogDay_any day w)
  have HRR := hid hR
  have bl := hid hR.1
  cases hv : okTs js with
  | false =>
    rw [coR_no hv, errV_some (by decide)]
    rw [hv] at HV
    clear hv hn hR hd64
    go_enter Tryd.func34, Tryd.ntmps34
    go_wp2_with fail
    refine HV.out.mono ?_
    rintro e w1 ⟨rfl, hB⟩
    go_wp2_with fail
    go_ret2
    exact ⟨rfl, hB⟩
  | true =>
    rw [hv] at HV
    by_cases hd : 0 ≤ day ∧ day ≤ 100000
    · rw [in_yes hd] at HI
      have HDB := hid (fun (w : World) (h : Rst w b js) => days_tally_any b n cap js hn hv w h)
      have HO := hid (fun (ho : hasOn js day) (w : World) (h : Rst w b js) => on_any b n cap js hn hv day ho w h)
      have HIFF := dayB_has (js := js) (day := day) hd.1
      obtain ⟨⟨F, Z⟩, hFZ⟩ : ∃ p, dayB js = p := ⟨_, rfl⟩
      rw [hFZ] at HDB HIFF
      simp only at HDB HIFF
      have START := hid HIFF
      clear hFZ HIFF
      by_cases ho : hasOn js day
      · rw [coR_yes hv hd ho, errV_nil]
        have HOO := hid (HO.out ho)
        obtain ⟨hf, hz⟩ := START.out.1 ho
        obtain ⟨x, hx⟩ : ∃ x, onI js day = x := ⟨_, rfl⟩
        rw [hx] at HOO ⊢
        have d1 : decide (day < F) = false := decide_eq_false (by omega)
        have d2 : decide (Z ≤ day) = false := decide_eq_false (by omega)
        clear hv hn hR hd hd64 ho hx HO START
        go_enter Tryd.func34, Tryd.ntmps34
        go_wp2_with fail
        refine HV.out.mono ?_
        rintro e w1 ⟨rfl, hB⟩
        have B1 := hid hB
        have R1 := hid (HRR.out.below hB bl.out)
        clear hB
        go_wp2_with fail
        refine (HI.out _).mono ?_
        rintro e w2 ⟨rfl, rfl⟩
        go_wp2_with fail
        refine (HDB.out _ R1.out).mono ?_
        rintro e w2 ⟨rfl, hB⟩
        obtain ⟨V, hV⟩ : ∃ V, V = w2.alloc (.cells #[.int .i64 F, .int .i64 Z] 81) := ⟨_, rfl⟩
        have bV : Below w2.heap.size w2 V := by rw [hV]; exact box2_bel _ _ _ _
        have B2 := hid ((B1.out.trans (hB.mono B1.out.size)).trans (bV.mono (B1.out.trans (hB.mono B1.out.size)).size))
        have R2 := hid ((R1.out.below hB R1.out.1).below bV (Nat.lt_of_lt_of_le R1.out.1 hB.size))
        have HVV := hid hV
        clear hB bV hV
        go_wp2_with fail
        rw [← HVV.out]
        refine (HOO.out _ R2.out).mono ?_
        rintro e w4 ⟨rfl, hB⟩
        go_wp2_with fail
        go_ret2
        exact ⟨rfl, B2.out.trans (hB.mono B2.out.size)⟩
      · rw [coR_none hv hd ho, errV_some (by decide)]
        have hnot : ¬ (F ≤ day ∧ day < Z) := fun h => ho (START.out.2 h)
        by_cases d1 : day < F
        · clear hv hn hR hd hd64 ho HO START hnot
          go_enter Tryd.func34, Tryd.ntmps34
          go_wp2_with fail
          refine HV.out.mono ?_
          rintro e w1 ⟨rfl, hB⟩
          have B1 := hid hB
          have R1 := hid (HRR.out.below hB bl.out)
          clear hB
          go_wp2_with fail
          refine (HI.out _).mono ?_
          rintro e w2 ⟨rfl, rfl⟩
          go_wp2_with fail
          refine (HDB.out _ R1.out).mono ?_
          rintro e w2 ⟨rfl, hB⟩
          go_wp2_with fail
          go_ret2
          exact ⟨rfl, (B1.out.trans (hB.mono B1.out.size)).alloc (B1.out.trans (hB.mono B1.out.size)).size _⟩
        · have d2 : Z ≤ day := by omega
          have d1' : decide (day < F) = false := decide_eq_false d1
          clear hv hn hR hd hd64 ho HO START hnot d1
          go_enter Tryd.func34, Tryd.ntmps34
          go_wp2_with fail
          refine HV.out.mono ?_
          rintro e w1 ⟨rfl, hB⟩
          have B1 := hid hB
          have R1 := hid (HRR.out.below hB bl.out)
          clear hB
          go_wp2_with fail
          refine (HI.out _).mono ?_
          rintro e w2 ⟨rfl, rfl⟩
          go_wp2_with fail
          refine (HDB.out _ R1.out).mono ?_
          rintro e w2 ⟨rfl, hB⟩
          go_wp2_with fail
          go_ret2
          exact ⟨rfl, (B1.out.trans (hB.mono B1.out.size)).alloc (B1.out.trans (hB.mono B1.out.size)).size _⟩
    · rw [coR_range hv hd, errV_some (by decide)]
      rw [in_no hd] at HI
      clear hv hn hR hd hd64
      go_enter Tryd.func34, Tryd.ntmps34
      go_wp2_with fail
      refine HV.out.mono ?_
      rintro e w1 ⟨rfl, hB⟩
      go_wp2_with fail
      refine (HI.out _).mono ?_
      rintro e w2 ⟨rfl, rfl⟩
      go_wp2_with fail
      go_ret2
      exact ⟨rfl, hB⟩
theorem implCountOn_any (b n cap : Nat) (js : List (Int × Int)) (day : Int) (hd64 : I64 day) (hn : n = js.length) (w : World) (hR : Rst w b js) (hG : GV w) :
    Calls Tryd.prog 18 #[.slice (some ⟨b, 0, none⟩) n cap, .int .i64 day] w (GivesB w (.tuple #[.int .i64 (coR js day).1, .int .i64 (coR js day).2])) := by
  have HC := hid (countOn_any b n cap js day hd64 hn w hR)
  have HG := hid hG
  obtain ⟨⟨x, c⟩, hxc⟩ : ∃ p, coR js day = p := ⟨_, rfl⟩
  rw [hxc] at HC ⊢
  simp only at HC ⊢
  have HK := hid (fun w h => codeOf_any c w h)
  obtain ⟨V, hV⟩ : ∃ V, errV c = V := ⟨_, rfl⟩
  rw [hV] at HC HK
  clear hxc hn hR hG hd64 hV
  go_enter Tryd.func18, Tryd.ntmps18
  go_wp2_with fail
  refine HC.out.mono ?_
  rintro e w1 ⟨rfl, hB⟩
  have G1 := hid (HG.out.below hB HG.out.lt)
  go_wp2_with fail
  refine (HK.out _ G1.out).mono ?_
  rintro e w2 ⟨rfl, hB2⟩
  go_wp2_with fail
  go_ret2
  exact ⟨rfl, hB.trans (hB2.mono hB.size)⟩
end Go.Proofs.YtbefbkklompcjaaDoor
