/- DriftOn: the model's and the program's answers. -/
import Derived.Test.YtbefbkklompcjaaDoorCo
namespace Go.Proofs.YtbefbkklompcjaaDoor
open Go.RowKit
set_option linter.unusedVariables false
def drR (js ks : List (Int × Int)) (day : Int) : Int × Int :=
  if (okTs js && okTs ks) = true then (if (coR js day).2 ≠ 0 then (0, (coR js day).2) else if (coR ks day).2 ≠ 0 then (0, (coR ks day).2) else ((coR js day).1 - (coR ks day).1, 0)) else (0, 1)
theorem drR_no1 {js ks : List (Int × Int)} {day : Int} (h : okTs js = false) : drR js ks day = (0, 1) := by simp [drR, h]
theorem drR_no2 {js ks : List (Int × Int)} {day : Int} (h : okTs ks = false) : drR js ks day = (0, 1) := by simp [drR, h]
theorem drR_a {js ks : List (Int × Int)} {day : Int} (h : okTs js = true) (k : okTs ks = true) (c : (coR js day).2 ≠ 0) : drR js ks day = (0, (coR js day).2) := by rw [drR, h, k, if_pos (by rfl), if_pos c]
theorem drR_b {js ks : List (Int × Int)} {day : Int} (h : okTs js = true) (k : okTs ks = true) (c : ¬ (coR js day).2 ≠ 0) (d : (coR ks day).2 ≠ 0) : drR js ks day = (0, (coR ks day).2) := by rw [drR, h, k, if_pos (by rfl), if_neg c, if_pos d]
theorem drR_yes {js ks : List (Int × Int)} {day : Int} (h : okTs js = true) (k : okTs ks = true) (c : ¬ (coR js day).2 ≠ 0) (d : ¬ (coR ks day).2 ≠ 0) : drR js ks day = ((coR js day).1 - (coR ks day).1, 0) := by rw [drR, h, k, if_pos (by rfl), if_neg c, if_neg d]
theorem coR_bd (js : List (Int × Int)) (day : Int) : 0 ≤ (coR js day).1 ∧ (coR js day).1 ≤ 1000000000000 := by
  rcases coR_code js day with ⟨hc, hv, ho⟩ | ⟨h0, _⟩
  · unfold coR
    rw [if_pos hv]
    split
    · exact on_bd hv ho
    · simp
  · rw [h0]; omega
set_option maxRecDepth 100000 in
set_option maxHeartbeats 4000000 in
theorem specDriftOn_any (b1 b2 n1 n2 c1 c2 : Nat) (js ks : List (Int × Int)) (day : Int) (hd64 : I64 day) (w : World) (h1 : Rst w b1 js) (h2 : Rst w b2 ks) (hn1 : n1 = js.length) (hn2 : n2 = ks.length) :
    Calls Tryd.prog 20 #[.slice (some ⟨b1, 0, none⟩) n1 c1, .slice (some ⟨b2, 0, none⟩) n2 c2, .int .i64 day] w (GivesB w (.tuple #[.int .i64 (drR js ks day).1, .int .i64 (drR js ks day).2])) := by
  have V1 := hid (l06Totals_any b1 n1 c1 js hn1 w h1)
  have V2 := hid (fun (w : World) (h : Rst w b2 ks) => l06Totals_any b2 n2 c2 ks hn2 w h)
  have R1 := hid h1
  have R2 := hid h2
  have l1 := hid h1.1
  have l2 := hid h2.1
  cases k1 : okTs js with
  | false =>
    rw [drR_no1 k1]
    rw [k1] at V1
    clear k1 hn1 hn2 h1 h2 hd64
    go_enter Tryd.func20, Tryd.ntmps20
    go_wp2_with fail
    refine V1.out.mono ?_
    rintro e w1 ⟨rfl, hB1⟩
    have B1 := hid hB1
    have P1 := hid (R1.out.below hB1 l1.out)
    have P2 := hid (R2.out.below hB1 l2.out)
    clear hB1
    go_wp2_with fail
    go_ret2
    exact ⟨rfl, B1.out⟩
  | true =>
    rw [k1] at V1
    cases k2 : okTs ks with
    | false =>
      rw [drR_no2 k2]
      rw [k2] at V2
      clear k1 k2 hn1 hn2 h1 h2 hd64
      go_enter Tryd.func20, Tryd.ntmps20
      go_wp2_with fail
      refine V1.out.mono ?_
      rintro e w1 ⟨rfl, hB1⟩
      have B1 := hid hB1
      have P1 := hid (R1.out.below hB1 l1.out)
      have P2 := hid (R2.out.below hB1 l2.out)
      clear hB1
      go_wp2_with fail
      refine (V2.out _ P2.out).mono ?_
      rintro e w2 ⟨rfl, hB2⟩
      have B2 := hid (B1.out.trans (hB2.mono B1.out.size))
      have Q1 := hid (P1.out.below hB2 P1.out.1)
      have Q2 := hid (P2.out.below hB2 P2.out.1)
      clear hB2
      go_wp2_with fail
      go_ret2
      exact ⟨rfl, B2.out⟩
    | true =>
      rw [k2] at V2
      have C1 := hid (fun (w : World) (h : Rst w b1 js) => specCountOn_any b1 n1 c1 js day hd64 hn1 w h)
      have C2 := hid (fun (w : World) (h : Rst w b2 ks) => specCountOn_any b2 n2 c2 ks day hd64 hn2 w h)
      have d1 := coR_bd js day
      have d2 := coR_bd ks day
      by_cases e1 : (coR js day).2 ≠ 0
      · rw [drR_a k1 k2 e1]
        obtain ⟨x, hx⟩ : ∃ z, (coR js day).1 = z := ⟨_, rfl⟩
        obtain ⟨c, hc⟩ : ∃ z, (coR js day).2 = z := ⟨_, rfl⟩
        rw [hx, hc] at C1
        rw [hc] at e1
        rw [hc]
        have ne : (c != 0) = true := by simpa using e1
        clear C2 d1 d2 hx hc e1 k1 k2 hn1 hn2 h1 h2 hd64
        go_enter Tryd.func20, Tryd.ntmps20
        go_wp2_with fail
        refine V1.out.mono ?_
        rintro e w1 ⟨rfl, hB1⟩
        have B1 := hid hB1
        have P1 := hid (R1.out.below hB1 l1.out)
        have P2 := hid (R2.out.below hB1 l2.out)
        clear hB1
        go_wp2_with fail
        refine (V2.out _ P2.out).mono ?_
        rintro e w2 ⟨rfl, hB2⟩
        have B2 := hid (B1.out.trans (hB2.mono B1.out.size))
        have Q1 := hid (P1.out.below hB2 P1.out.1)
        have Q2 := hid (P2.out.below hB2 P2.out.1)
        clear hB2
        go_wp2_with fail
        refine (C1.out _ Q1.out).mono ?_
        rintro e w3 ⟨rfl, hB3⟩
        have B3 := hid (B2.out.trans (hB3.mono B2.out.size))
        have S3 := hid (Q2.out.below hB3 Q2.out.1)
        clear hB3
        go_wp2_with fail
        go_ret2
        exact ⟨rfl, B3.out⟩
      · by_cases e2 : (coR ks day).2 ≠ 0
        · rw [drR_b k1 k2 e1 e2]
          obtain ⟨x, hx⟩ : ∃ z, (coR js day).1 = z := ⟨_, rfl⟩
          obtain ⟨c, hc⟩ : ∃ z, (coR js day).2 = z := ⟨_, rfl⟩
          obtain ⟨y, hy⟩ : ∃ z, (coR ks day).1 = z := ⟨_, rfl⟩
          obtain ⟨d, hd⟩ : ∃ z, (coR ks day).2 = z := ⟨_, rfl⟩
          rw [hx, hc] at C1
          rw [hy, hd] at C2
          rw [hd] at e2
          rw [hd]
          have c0 : c = 0 := by rw [← hc]; simpa using e1
          subst c0
          have ne : (d != 0) = true := by simpa using e2
          clear d1 d2 hx hc hy hd e1 e2 k1 k2 hn1 hn2 h1 h2 hd64
          go_enter Tryd.func20, Tryd.ntmps20
          go_wp2_with fail
          refine V1.out.mono ?_
          rintro e w1 ⟨rfl, hB1⟩
          have B1 := hid hB1
          have P1 := hid (R1.out.below hB1 l1.out)
          have P2 := hid (R2.out.below hB1 l2.out)
          clear hB1
          go_wp2_with fail
          refine (V2.out _ P2.out).mono ?_
          rintro e w2 ⟨rfl, hB2⟩
          have B2 := hid (B1.out.trans (hB2.mono B1.out.size))
          have Q1 := hid (P1.out.below hB2 P1.out.1)
          have Q2 := hid (P2.out.below hB2 P2.out.1)
          clear hB2
          go_wp2_with fail
          refine (C1.out _ Q1.out).mono ?_
          rintro e w3 ⟨rfl, hB3⟩
          have B3 := hid (B2.out.trans (hB3.mono B2.out.size))
          have S3 := hid (Q2.out.below hB3 Q2.out.1)
          clear hB3
          go_wp2_with fail
          refine (C2.out _ S3.out).mono ?_
          rintro e w4 ⟨rfl, hB4⟩
          have B4 := hid (B3.out.trans (hB4.mono B3.out.size))
          clear hB4
          go_wp2_with fail
          go_ret2
          exact ⟨rfl, B4.out⟩
        · rw [drR_yes k1 k2 e1 e2]
          obtain ⟨x, hx⟩ : ∃ z, (coR js day).1 = z := ⟨_, rfl⟩
          obtain ⟨c, hc⟩ : ∃ z, (coR js day).2 = z := ⟨_, rfl⟩
          obtain ⟨y, hy⟩ : ∃ z, (coR ks day).1 = z := ⟨_, rfl⟩
          obtain ⟨d, hd⟩ : ∃ z, (coR ks day).2 = z := ⟨_, rfl⟩
          rw [hx, hc] at C1
          rw [hy, hd] at C2
          rw [hx] at d1
          rw [hy] at d2
          rw [hx, hy]
          have c0 : c = 0 := by rw [← hc]; simpa using e1
          have cd : d = 0 := by rw [← hd]; simpa using e2
          subst c0 cd
          have t1 : IntKind.i64.wrap (x - y) = x - y := IntWalk.i64_in _ (by omega)
          clear hx hc hy hd e1 e2 k1 k2 hn1 hn2 h1 h2 hd64
          go_enter Tryd.func20, Tryd.ntmps20
          go_wp2_with fail
          refine V1.out.mono ?_
          rintro e w1 ⟨rfl, hB1⟩
          have B1 := hid hB1
          have P1 := hid (R1.out.below hB1 l1.out)
          have P2 := hid (R2.out.below hB1 l2.out)
          clear hB1
          go_wp2_with fail
          refine (V2.out _ P2.out).mono ?_
          rintro e w2 ⟨rfl, hB2⟩
          have B2 := hid (B1.out.trans (hB2.mono B1.out.size))
          have Q1 := hid (P1.out.below hB2 P1.out.1)
          have Q2 := hid (P2.out.below hB2 P2.out.1)
          clear hB2
          go_wp2_with fail
          refine (C1.out _ Q1.out).mono ?_
          rintro e w3 ⟨rfl, hB3⟩
          have B3 := hid (B2.out.trans (hB3.mono B2.out.size))
          have S3 := hid (Q2.out.below hB3 Q2.out.1)
          clear hB3
          go_wp2_with fail
          refine (C2.out _ S3.out).mono ?_
          rintro e w4 ⟨rfl, hB4⟩
          have B4 := hid (B3.out.trans (hB4.mono B3.out.size))
          clear hB4
          go_wp2_with fail
          go_ret2
          exact ⟨rfl, B4.out⟩
set_option maxRecDepth 100000 in
set_option maxHeartbeats 4000000 in
theorem implDriftOn_any (b1 b2 n1 n2 c1 c2 : Nat) (js ks : List (Int × Int)) (day : Int) (hd64 : I64 day) (w : World) (h1 : Rst w b1 js) (h2 : Rst w b2 ks) (hn1 : n1 = js.length) (hn2 : n2 = ks.length) (hG : GV w) :
    Calls Tryd.prog 21 #[.slice (some ⟨b1, 0, none⟩) n1 c1, .slice (some ⟨b2, 0, none⟩) n2 c2, .int .i64 day] w (GivesB w (.tuple #[.int .i64 (drR js ks day).1, .int .i64 (drR js ks day).2])) := by
  have V1 := hid (implTotals_any b1 n1 c1 js hn1 w h1)
  have V2 := hid (fun (w : World) (h : Rst w b2 ks) => implTotals_any b2 n2 c2 ks hn2 w h)
  have R1 := hid h1
  have R2 := hid h2
  have l1 := hid h1.1
  have l2 := hid h2.1
  have HG := hid hG
  have HK := hid (fun c w h => codeOf_any c w h)
  cases k1 : okTs js with
  | false =>
    rw [drR_no1 k1]
    rw [k1] at V1
    clear k1 hn1 hn2 h1 h2 hd64 hG
    go_enter Tryd.func21, Tryd.ntmps21
    go_wp2_with fail
    refine V1.out.mono ?_
    rintro e w1 ⟨rfl, hB1⟩
    have B1 := hid hB1
    have P1 := hid (R1.out.below hB1 l1.out)
    have P2 := hid (R2.out.below hB1 l2.out)
    clear hB1
    go_wp2_with fail
    go_ret2
    exact ⟨rfl, B1.out⟩
  | true =>
    rw [k1] at V1
    cases k2 : okTs ks with
    | false =>
      rw [drR_no2 k2]
      rw [k2] at V2
      clear k1 k2 hn1 hn2 h1 h2 hd64 hG
      go_enter Tryd.func21, Tryd.ntmps21
      go_wp2_with fail
      refine V1.out.mono ?_
      rintro e w1 ⟨rfl, hB1⟩
      have B1 := hid hB1
      have P1 := hid (R1.out.below hB1 l1.out)
      have P2 := hid (R2.out.below hB1 l2.out)
      clear hB1
      go_wp2_with fail
      refine (V2.out _ P2.out).mono ?_
      rintro e w2 ⟨rfl, hB2⟩
      have B2 := hid (B1.out.trans (hB2.mono B1.out.size))
      have Q1 := hid (P1.out.below hB2 P1.out.1)
      have Q2 := hid (P2.out.below hB2 P2.out.1)
      clear hB2
      go_wp2_with fail
      go_ret2
      exact ⟨rfl, B2.out⟩
    | true =>
      rw [k2] at V2
      have C1 := hid (fun (w : World) (h : Rst w b1 js) => countOn_any b1 n1 c1 js day hd64 hn1 w h)
      have C2 := hid (fun (w : World) (h : Rst w b2 ks) => countOn_any b2 n2 c2 ks day hd64 hn2 w h)
      have d1 := coR_bd js day
      have d2 := coR_bd ks day
      by_cases e1 : (coR js day).2 ≠ 0
      · rw [drR_a k1 k2 e1]
        obtain ⟨x, hx⟩ : ∃ z, (coR js day).1 = z := ⟨_, rfl⟩
        obtain ⟨c, hc⟩ : ∃ z, (coR js day).2 = z := ⟨_, rfl⟩
        rw [hx, hc] at C1
        rw [hc] at e1
        rw [hc]
        rw [errV_some e1] at C1
        have HKC := hid (fun w h => HK.out c w h)
        rw [errV_some e1] at HKC
        clear C2 d1 d2 hx hc e1 k1 k2 hn1 hn2 h1 h2 hd64 hG
        go_enter Tryd.func21, Tryd.ntmps21
        go_wp2_with fail
        refine V1.out.mono ?_
        rintro e w1 ⟨rfl, hB1⟩
        have B1 := hid hB1
        have P1 := hid (R1.out.below hB1 l1.out)
        have P2 := hid (R2.out.below hB1 l2.out)
        clear hB1
        go_wp2_with fail
        refine (V2.out _ P2.out).mono ?_
        rintro e w2 ⟨rfl, hB2⟩
        have B2 := hid (B1.out.trans (hB2.mono B1.out.size))
        have Q1 := hid (P1.out.below hB2 P1.out.1)
        have Q2 := hid (P2.out.below hB2 P2.out.1)
        clear hB2
        go_wp2_with fail
        refine (C1.out _ Q1.out).mono ?_
        rintro e w3 ⟨rfl, hB3⟩
        have B3 := hid (B2.out.trans (hB3.mono B2.out.size))
        have S3 := hid (Q2.out.below hB3 Q2.out.1)
        clear hB3
        go_wp2_with fail
        refine (HKC.out _ (HG.out.below B3.out HG.out.lt)).mono ?_
        rintro e w4 ⟨rfl, hB4⟩
        have B4 := hid (B3.out.trans (hB4.mono B3.out.size))
        clear hB4
        go_wp2_with fail
        go_ret2
        exact ⟨rfl, B4.out⟩
      · by_cases e2 : (coR ks day).2 ≠ 0
        · rw [drR_b k1 k2 e1 e2]
          obtain ⟨x, hx⟩ : ∃ z, (coR js day).1 = z := ⟨_, rfl⟩
          obtain ⟨c, hc⟩ : ∃ z, (coR js day).2 = z := ⟨_, rfl⟩
          obtain ⟨y, hy⟩ : ∃ z, (coR ks day).1 = z := ⟨_, rfl⟩
          obtain ⟨d, hd⟩ : ∃ z, (coR ks day).2 = z := ⟨_, rfl⟩
          rw [hx, hc] at C1
          rw [hy, hd] at C2
          rw [hd] at e2
          rw [hd]
          have c0 : c = 0 := by rw [← hc]; simpa using e1
          subst c0
          rw [errV_nil] at C1
          rw [errV_some e2] at C2
          have HKC := hid (fun w h => HK.out d w h)
          rw [errV_some e2] at HKC
          clear d1 d2 hx hc hy hd e1 e2 k1 k2 hn1 hn2 h1 h2 hd64 hG
          go_enter Tryd.func21, Tryd.ntmps21
          go_wp2_with fail
          refine V1.out.mono ?_
          rintro e w1 ⟨rfl, hB1⟩
          have B1 := hid hB1
          have P1 := hid (R1.out.below hB1 l1.out)
          have P2 := hid (R2.out.below hB1 l2.out)
          clear hB1
          go_wp2_with fail
          refine (V2.out _ P2.out).mono ?_
          rintro e w2 ⟨rfl, hB2⟩
          have B2 := hid (B1.out.trans (hB2.mono B1.out.size))
          have Q1 := hid (P1.out.below hB2 P1.out.1)
          have Q2 := hid (P2.out.below hB2 P2.out.1)
          clear hB2
          go_wp2_with fail
          refine (C1.out _ Q1.out).mono ?_
          rintro e w3 ⟨rfl, hB3⟩
          have B3 := hid (B2.out.trans (hB3.mono B2.out.size))
          have S3 := hid (Q2.out.below hB3 Q2.out.1)
          clear hB3
          go_wp2_with fail
          refine (C2.out _ S3.out).mono ?_
          rintro e w4 ⟨rfl, hB4⟩
          have B4 := hid (B3.out.trans (hB4.mono B3.out.size))
          clear hB4
          go_wp2_with fail
          refine (HKC.out _ (HG.out.below B4.out HG.out.lt)).mono ?_
          rintro e w5 ⟨rfl, hB5⟩
          have B5 := hid (B4.out.trans (hB5.mono B4.out.size))
          clear hB5
          go_wp2_with fail
          go_ret2
          exact ⟨rfl, B5.out⟩
        · rw [drR_yes k1 k2 e1 e2]
          obtain ⟨x, hx⟩ : ∃ z, (coR js day).1 = z := ⟨_, rfl⟩
          obtain ⟨c, hc⟩ : ∃ z, (coR js day).2 = z := ⟨_, rfl⟩
          obtain ⟨y, hy⟩ : ∃ z, (coR ks day).1 = z := ⟨_, rfl⟩
          obtain ⟨d, hd⟩ : ∃ z, (coR ks day).2 = z := ⟨_, rfl⟩
          rw [hx, hc] at C1
          rw [hy, hd] at C2
          rw [hx] at d1
          rw [hy] at d2
          rw [hx, hy]
          have c0 : c = 0 := by rw [← hc]; simpa using e1
          have cd : d = 0 := by rw [← hd]; simpa using e2
          subst c0 cd
          rw [errV_nil] at C1 C2
          have t1 : IntKind.i64.wrap (x - y) = x - y := IntWalk.i64_in _ (by omega)
          clear hx hc hy hd e1 e2 k1 k2 hn1 hn2 h1 h2 hd64 hG
          go_enter Tryd.func21, Tryd.ntmps21
          go_wp2_with fail
          refine V1.out.mono ?_
          rintro e w1 ⟨rfl, hB1⟩
          have B1 := hid hB1
          have P1 := hid (R1.out.below hB1 l1.out)
          have P2 := hid (R2.out.below hB1 l2.out)
          clear hB1
          go_wp2_with fail
          refine (V2.out _ P2.out).mono ?_
          rintro e w2 ⟨rfl, hB2⟩
          have B2 := hid (B1.out.trans (hB2.mono B1.out.size))
          have Q1 := hid (P1.out.below hB2 P1.out.1)
          have Q2 := hid (P2.out.below hB2 P2.out.1)
          clear hB2
          go_wp2_with fail
          refine (C1.out _ Q1.out).mono ?_
          rintro e w3 ⟨rfl, hB3⟩
          have B3 := hid (B2.out.trans (hB3.mono B2.out.size))
          have S3 := hid (Q2.out.below hB3 Q2.out.1)
          clear hB3
          go_wp2_with fail
          refine (C2.out _ S3.out).mono ?_
          rintro e w4 ⟨rfl, hB4⟩
          have B4 := hid (B3.out.trans (hB4.mono B3.out.size))
          clear hB4
          go_wp2_with fail
          go_ret2
          exact ⟨rfl, B4.out⟩
end Go.Proofs.YtbefbkklompcjaaDoor
