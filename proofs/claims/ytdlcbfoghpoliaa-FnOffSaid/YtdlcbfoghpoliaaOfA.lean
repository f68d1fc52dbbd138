/- FnOff: the model's nearest ratio is a valid one. -/
import Derived.Test.YtdlcbfoghpoliaaOfM
import Derived.Test.YtdlcbfoghpoliaaValid
import Derived.Test.YtdlcbfoghpoliaaSrc
namespace Go.Proofs.Ytdlcbfoghpoliaa
open Go.RowKit
set_option linter.unusedVariables false
set_option linter.unusedSimpArgs false
theorem near_factsW {p q a b c d : Int} (hr : okR p q = true) (ha : 1 ≤ a ∧ 1 ≤ b) (hc : 1 ≤ c ∧ 1 ≤ d) (sa : a ≤ 1000) (sb : b ≤ 1000) (sc : c ≤ 1000) (sd : d ≤ 1000) : NearFacts p q a b c d (p * b) (a * q) (p * d) (c * q) := by
  obtain ⟨r1, r2, r3, r4, _⟩ := okR_out hr
  obtain ⟨a1, a3⟩ := ha
  obtain ⟨c1, c3⟩ := hc
  exact ⟨rfl, rfl, rfl, rfl, mul12 r1 r2 a3 sb, by rw [Int.mul_comm]; exact mul12 r3 r4 a1 sa, mul12 r1 r2 c3 sd, by rw [Int.mul_comm]; exact mul12 r3 r4 c1 sc⟩
set_option maxHeartbeats 2000000 in
theorem l03NearerW_any (p q a b c d : Int) (hr : okR p q = true) (ha : 1 ≤ a ∧ 1 ≤ b) (hc : 1 ≤ c ∧ 1 ≤ d) (sa : a ≤ 1000) (sb : b ≤ 1000) (sc : c ≤ 1000) (sd : d ≤ 1000) (w : World) :
    Calls Try.prog 20 #[.agg #[.int .i64 p, .int .i64 q], .int .i64 a, .int .i64 b, .int .i64 c, .int .i64 d] w (GivesB w (.int .i64 (nearI p q a b c d))) := by
  have bE := hid (box2_bel w 28 (.int .i64 p) (.int .i64 q))
  have F := near_factsW hr ha hc sa sb sc sd
  have bpos := ha.2
  have dpos := hc.2
  unfold nearI
  obtain ⟨X, kX⟩ : ∃ X, p * b = X := ⟨_, rfl⟩
  obtain ⟨Y, kY⟩ : ∃ X, a * q = X := ⟨_, rfl⟩
  obtain ⟨Z, kZ⟩ : ∃ X, p * d = X := ⟨_, rfl⟩
  obtain ⟨U, kU⟩ : ∃ X, c * q = X := ⟨_, rfl⟩
  have fx := F.bx
  have fy := F.by_
  have fz := F.bz
  have fu := F.bu
  rw [kX] at fx ⊢
  rw [kY] at fy ⊢
  rw [kZ] at fz ⊢
  rw [kU] at fu ⊢
  have sx := size_bd (n := X - Y) (B := 1000000000000) (by omega)
  have sz := size_bd (n := Z - U) (B := 1000000000000) (by omega)
  have t1 : IntKind.i64.wrap X = X := IntWalk.i64_in _ (by omega)
  have t2 : IntKind.i64.wrap Y = Y := IntWalk.i64_in _ (by omega)
  have t3 : IntKind.i64.wrap Z = Z := IntWalk.i64_in _ (by omega)
  have t4 : IntKind.i64.wrap U = U := IntWalk.i64_in _ (by omega)
  have t5 : IntKind.i64.wrap (X - Y) = X - Y := IntWalk.i64_in _ (by omega)
  have t6 : IntKind.i64.wrap (Z - U) = Z - U := IntWalk.i64_in _ (by omega)
  have H1 := hid (fun w => size_any (X - Y) (by omega) w)
  have H2 := hid (fun w => size_any (Z - U) (by omega) w)
  obtain ⟨m, hm⟩ : ∃ m, sizeI (X - Y) = m := ⟨_, rfl⟩
  obtain ⟨n, hn⟩ : ∃ m, sizeI (Z - U) = m := ⟨_, rfl⟩
  rw [hm] at sx H1 ⊢
  rw [hn] at sz H2 ⊢
  have p1 := mul15 sx.1 sx.2 dpos sd
  have p2 := mul15 sz.1 sz.2 bpos sb
  have t7 : IntKind.i64.wrap (m * d) = m * d := IntWalk.i64_in _ (by omega)
  have t8 : IntKind.i64.wrap (n * b) = n * b := IntWalk.i64_in _ (by omega)
  obtain ⟨M, kM⟩ : ∃ X, m * d = X := ⟨_, rfl⟩
  obtain ⟨N, kN⟩ : ∃ X, n * b = X := ⟨_, rfl⟩
  rw [kM] at p1 t7 ⊢
  rw [kN] at p2 t8 ⊢
  clear F hr ha hc hm hn
  rcases Int.lt_trichotomy M N with h | h | h
  all_goals
    first | rw [cmp3_lt h] | rw [cmp3_gt h] | (subst h; rw [cmp3_eq])
    go_enter Try.func20, Try.ntmps20
    go_wp2_with fail
    refine (H1.out _).mono ?_
    rintro e w' ⟨rfl, rfl⟩
    go_wp2_with fail
    refine (H2.out _).mono ?_
    rintro e w' ⟨rfl, rfl⟩
    go_wp2_with fail
    go_ret
    exact ⟨rfl, bE.out⟩
set_option maxRecDepth 100000 in
set_option maxHeartbeats 4000000 in
theorem specNearest_any (p q most : Int) (hr : okR p q = true) (hm : 1 ≤ most ∧ most ≤ 1000) (w : World) :
    Calls Try.prog 7 #[.agg #[.int .i64 p, .int .i64 q], .int .i64 most] w fun e w' => ∃ P B : Int, e = .returned (.tuple #[.agg #[.int .i64 P, .int .i64 B], .int .i64 0]) ∧ (okR P B = true ∧ P ≤ 1000 ∧ B ≤ 1000) ∧ Below w.heap.size w w' := by
  obtain ⟨r1, r2, r3, r4, _⟩ := okR_out hr
  have OK := hid (fun W => l03Ok_any p q ⟨by omega, by omega⟩ ⟨by omega, by omega⟩ W)
  rw [hr] at OK
  have IN := hid (fun W => inr_yes most 1 1000 W hm)
  obtain ⟨R, hR⟩ : ∃ R, w.heap.size = R := ⟨_, rfl⟩
  have rr := Row.new w 28 [.int .i64 p, .int .i64 q]
  have b1 : Below w.heap.size w (w.alloc (.cells #[.int .i64 p, .int .i64 q] 28)) := (Below.refl _ _).alloc (Nat.le_refl _) _
  have r0 := Row.new (w.alloc (.cells #[.int .i64 p, .int .i64 q] 28)) 28 [.int .i64 0, .int .i64 0]
  have rr2 := rr.alloc (.cells #[.int .i64 0, .int .i64 0] 28)
  have b2 := b1.alloc (by simp) (.cells #[.int .i64 0, .int .i64 0] 28)
  have s1 : (w.alloc (.cells #[.int .i64 p, .int .i64 q] 28)).heap.size = R + 1 := by simp [hR]
  rw [s1] at r0
  rw [hR] at rr2 b2
  obtain ⟨V, hV⟩ : ∃ X, X = (w.alloc (.cells #[.int .i64 p, .int .i64 q] 28)).alloc (.cells #[.int .i64 0, .int .i64 0] 28) := ⟨_, rfl⟩
  have sV : V.heap.size = R + 2 := by rw [hV]; simp [hR]
  rw [← hV] at r0 rr2 b2
  have HR2 := hid rr2; have HR4 := hid r0; have HB := hid b2; have HV := hid hV; have HRR := hid hR; have HSV := hid sV
  have HBD := hid (And.intro r1 (And.intro r2 (And.intro r3 r4))); have HM := hid hm; have HOKR := hid hr
  clear rr b1 r0 rr2 b2 s1 hV sV hr hm r1 r2 r3 r4 hR
  have l00 := (HR2.out.cell 0); have l01 := (HR2.out.cell 1)
  simp only [List.getElem?_cons_zero, List.getElem?_cons_succ] at l00 l01
  rw [HV.out] at l00 l01
  go_enter Try.func7, Try.ntmps7
  go_wp2_with fail
  rw [← HV.out, HRR.out]
  with_reducible refine (OK.out V).mono ?_
  rintro e v1 ⟨rfl, hB⟩
  have HR2 := hid (HR2.out.below hB HR2.out.lt); have HR4 := hid (HR4.out.below hB HR4.out.lt)
  have HB := hid (HB.out.trans (hB.mono (by have := HSV.out; omega)))
  have HSV := hid (show R + 2 ≤ v1.heap.size by have := hB.size; have := HSV.out; omega)
  clear hB l00 l01
  go_wp2_with fail
  with_reducible refine (IN.out v1).mono ?_
  rintro e v2 ⟨rfl, hw⟩
  subst hw
  have r6 := Row.new v1 28 [.int .i64 0, .int .i64 0]
  have aa : Below v1.heap.size v1 (v1.alloc (.cells #[.int .i64 0, .int .i64 0] 28)) := (Below.refl _ _).alloc (Nat.le_refl _) _
  obtain ⟨G, hG⟩ : ∃ y, v1.heap.size = y := ⟨_, rfl⟩
  obtain ⟨V6, hV6⟩ : ∃ X, X = v1.alloc (.cells #[.int .i64 0, .int .i64 0] 28) := ⟨_, rfl⟩
  have r2 := HR2.out.below aa HR2.out.lt; have r4 := HR4.out.below aa HR4.out.lt
  have bb := HB.out.trans (aa.mono (by have := HSV.out; omega))
  rw [← hV6] at r6 aa r2 r4 bb
  rw [hG] at r6
  have hGR : R + 2 ≤ G := by have := HSV.out; omega
  have HR2 := hid r2; have HR4 := hid r4; have HR6 := hid r6; have HB := hid bb; have HGR := hid hGR; have HV6 := hid hV6; have HG := hid hG
  clear r6 aa r2 r4 bb hGR hV6 hG
  go_upto_region 7 with fail
  rw [← HV6.out, HG.out]
  go_loopw [7] (fun s7 wr => ∃ Q P B : Int, s7 = .int .i64 Q ∧ 1 ≤ Q ∧ Q ≤ most + 1 ∧ ((Q = 1 ∧ P = 0 ∧ B = 0) ∨ NrI p q most Q 0 P B) ∧ Row wr G 28 [.int .i64 P, .int .i64 B] ∧ Row wr R 28 [.int .i64 p, .int .i64 q] ∧ Row wr (R + 1) 28 [.int .i64 0, .int .i64 0] ∧ Below R w wr) (fun s7 _ => (most + 1 - intOf s7).toNat)
  case atStart => exact ⟨1, 0, 0, rfl, Int.le_refl _, by have := HM.out; omega, .inl ⟨rfl, rfl, rfl⟩, HR6.out, HR2.out, HR4.out, HB.out⟩
  case round =>
    obtain ⟨Q, P, B, rfl, Q1, Q2, hI, r6, r2, r4, bb⟩ := hrel
    by_cases hQ : Q ≤ most
    · have H6 := hid r6; have H2 := hid r2; have H4 := hid r4; have HBB := hid bb; have HI := hid hI; have HQ := hid (And.intro Q1 hQ)
      have wQ : IntKind.i64.wrap (Q + 1) = Q + 1 := IntWalk.i64_in _ (by have := HM.out; omega)
      clear r6 r2 r4 bb hI Q1 Q2
      go_upto_region 10 with fail
      go_loopw [8] (fun s8 wr => ∃ K P B : Int, s8 = .int .i64 K ∧ 0 ≤ K ∧ K ≤ 2 ∧ ((Q = 1 ∧ K = 0 ∧ P = 0 ∧ B = 0) ∨ NrI p q most Q K P B) ∧ Row wr G 28 [.int .i64 P, .int .i64 B] ∧ Row wr R 28 [.int .i64 p, .int .i64 q] ∧ Row wr (R + 1) 28 [.int .i64 0, .int .i64 0] ∧ Below R w wr) (fun s8 _ => (2 - intOf s8).toNat)
      case atStart => exact ⟨0, P, B, rfl, Int.le_refl _, by omega, by
        rcases HI.out with ⟨h1, h2, h3⟩ | h
        · exact .inl ⟨h1, rfl, h2, h3⟩
        · exact .inr h, H6.out, H2.out, H4.out, HBB.out⟩
      case round =>
        clear P B HI H6 H2 H4 HBB
        obtain ⟨K, P, B, rfl, K1, K2, hI, r6, r2, r4, bb⟩ := hrel
        by_cases hK : K < 2
        · have hK01 : K = 0 ∨ K = 1 := by omega
          have bd := HBD.out; have hm := HM.out; have hq := HQ.out
          have c20 := r2.cell 0; have c21 := r2.cell 1; have c60 := r6.cell 0; have c61 := r6.cell 1
          simp only [List.getElem?_cons_zero, List.getElem?_cons_succ] at c20 c21 c60 c61
          have fz0 := r6.frozen 0; have fz1 := r6.frozen 1
          have pq0 : 0 ≤ p * Q ∧ p * Q ≤ 1000000000 * 1000 := ⟨Int.mul_nonneg (by omega) (by omega), Int.mul_le_mul bd.2.1 (by omega) (by omega) (by omega)⟩
          have wpQ : IntKind.i64.wrap (p * Q) = p * Q := IntWalk.i64_in _ (by omega)
          have tq : (p * Q).tdiv q = p * Q / q := Int.tdiv_eq_ediv_of_nonneg pq0.1
          have dq : 0 ≤ p * Q / q ∧ p * Q / q ≤ p * Q := ⟨Int.ediv_nonneg pq0.1 (by omega), Int.ediv_le_self _ pq0.1⟩
          have wdq : IntKind.i64.wrap (p * Q / q) = p * Q / q := IntWalk.i64_in _ (by omega)
          have wdk : IntKind.i64.wrap (p * Q / q + K) = p * Q / q + K := IntWalk.i64_in _ (by omega)
          have wK : IntKind.i64.wrap (K + 1) = K + 1 := IntWalk.i64_in _ (by omega)
          have q0 : q ≠ 0 := by omega
          have MI := hid (fun W => min_any most (p * Q / q + K) W)
          have MA := hid (fun W => max_any 1 (min most (p * Q / q + K)) W)
          have hc := cnd_bd (p := p) (q := q) (most := most) (b := Q) (k := K) hm.1
          have ec : max 1 (min most (p * Q / q + K)) = cnd p q most Q K := rfl
          rw [ec] at MA
          obtain ⟨mn, hmn⟩ : ∃ y, min most (p * Q / q + K) = y := ⟨_, rfl⟩
          rw [hmn] at MI MA
          have NEW := hid (fun (hB : 1 ≤ P ∧ 1 ≤ B) (hPB : P ≤ 1000 ∧ B ≤ 1000) W => l03NearerW_any p q (cnd p q most Q K) Q P B HOKR.out ⟨hc.1, by omega⟩ hB (by omega) (by omega) hPB.1 hPB.2 W)
          have TAKE := hid (fun (h : NrI p q most Q K P B) hn => NrI.take bd.1 bd.2.2.1 hm.1 hq h hK01 hn)
          have KEEP := hid (fun (h : NrI p q most Q K P B) hn => NrI.keep hq.1 h hK01 hn)
          obtain ⟨c, hcc⟩ : ∃ y, cnd p q most Q K = y := ⟨_, rfl⟩
          obtain ⟨dv, hdv⟩ : ∃ y, p * Q / q = y := ⟨_, rfl⟩
          obtain ⟨pQ, hpQ⟩ : ∃ y, p * Q = y := ⟨_, rfl⟩
          rw [hcc] at MA NEW TAKE KEEP hc
          have HCC := hid hcc
          replace wpQ := wpQ.trans hpQ
          rw [hpQ] at tq hdv
          rw [hdv] at tq
          rw [hpQ, hdv] at wdq wdk MI
          have H6 := hid r6; have H2 := hid r2; have H4 := hid r4; have HBB := hid bb; have HI := hid hI; have HC := hid hc; have HKK := hid hK01; have HK0 := hid (And.intro K1 hK)
          clear pq0 dq bd hm hq hmn ec hcc hdv hpQ r6 r2 r4 bb hI hc hK01 K1 K2
          rcases Classical.em (B = 0) with hB0 | hB0
          · have hQK : Q = 1 ∧ K = 0 := by
              rcases HI.out with ⟨h1, h2, h3, _⟩ | h
              · exact ⟨h1, h2⟩
              · have := h.b1; omega
            have eB : (B == 0) = true := by simpa using hB0
            have NF := hid (show NrI p q most Q (K + 1) c Q by rw [← HCC.out, hQK.1, hQK.2]; exact NrI.first HM.out.1)
            clear hQK hB0
            go_wp2_with fail
            with_reducible refine (MI.out wr).mono ?_
            rintro e w' ⟨rfl, hw⟩
            subst hw
            go_wp2_with fail
            with_reducible refine (MA.out wr).mono ?_
            rintro e w' ⟨rfl, hw⟩
            subst hw
            have rE := (H6.out.set 0 (.int .i64 c)).set 1 (.int .i64 Q)
            simp only [List.set_cons_zero, List.set_cons_succ] at rE
            have g := HGR.out
            have r2 := (H2.out.other (a := ⟨G, 0, none⟩) (by show G ≠ R; omega) (.int .i64 c)).other (a := ⟨G, 1, none⟩) (by show G ≠ R; omega) (.int .i64 Q)
            have r4 := (H4.out.other (a := ⟨G, 0, none⟩) (by show G ≠ R + 1; omega) (.int .i64 c)).other (a := ⟨G, 1, none⟩) (by show G ≠ R + 1; omega) (.int .i64 Q)
            have bE := (HBB.out.setCell (p := ⟨G, 0, none⟩) (by show R ≤ G; omega) (.int .i64 c)).setCell (p := ⟨G, 1, none⟩) (by show R ≤ G; omega) (.int .i64 Q)
            have HRE := hid (And.intro rE (And.intro r2 (And.intro r4 bE)))
            clear rE r2 r4 bE g
            go_wp2_with fail
            go_roundw
            case rel => exact ⟨K + 1, c, Q, rfl, by have := HK0.out; omega, by have := HK0.out; omega, .inr NF.out, HRE.out.1, HRE.out.2.1, HRE.out.2.2.1, HRE.out.2.2.2⟩
            case measure => simp [intOf]; have := HK0.out; omega
          · have hN : NrI p q most Q K P B := by
              rcases HI.out with ⟨_, _, _, h⟩ | h
              · exact absurd h hB0
              · exact h
            have eB : (B == 0) = false := by simpa using hB0
            have hb := hN.b1; have hp := hN.p1; have hm := HM.out; have hq := HQ.out
            have NW := hid (fun W => NEW.out ⟨hp.1, hb.1⟩ ⟨by omega, by omega⟩ W)
            have HN := hid hN
            clear NEW hN hb hp hm hq HI
            by_cases hlt : sizeI (p * Q - c * q) * B < sizeI (p * B - P * q) * Q
            · have TK := hid (TAKE.out HN.out hlt)
              unfold nearI at NW
              rw [cmp3_lt hlt] at NW
              clear hlt TAKE KEEP
              go_wp2_with fail
              with_reducible refine (MI.out wr).mono ?_
              rintro e w' ⟨rfl, hw⟩
              subst hw
              go_wp2_with fail
              with_reducible refine (MA.out wr).mono ?_
              rintro e w' ⟨rfl, hw⟩
              subst hw
              go_wp2_with fail
              with_reducible refine (NW.out wr).mono ?_
              rintro e w9 ⟨rfl, hB⟩
              have h2l := H2.out.lt
              have H6 := hid (H6.out.below hB H6.out.lt); have H2 := hid (H2.out.below hB h2l); have H4 := hid (H4.out.below hB H4.out.lt); have HBB := hid (HBB.out.trans (hB.mono (by omega)))
              clear c20 c21 c60 c61 fz0 fz1 hB h2l
              have c60 := H6.out.cell 0; have c61 := H6.out.cell 1
              simp only [List.getElem?_cons_zero, List.getElem?_cons_succ] at c60 c61
              have fz0 := H6.out.frozen 0; have fz1 := H6.out.frozen 1
              have rE := (H6.out.set 0 (.int .i64 c)).set 1 (.int .i64 Q)
              simp only [List.set_cons_zero, List.set_cons_succ] at rE
              have g := HGR.out
              have r2 := (H2.out.other (a := ⟨G, 0, none⟩) (by show G ≠ R; omega) (.int .i64 c)).other (a := ⟨G, 1, none⟩) (by show G ≠ R; omega) (.int .i64 Q)
              have r4 := (H4.out.other (a := ⟨G, 0, none⟩) (by show G ≠ R + 1; omega) (.int .i64 c)).other (a := ⟨G, 1, none⟩) (by show G ≠ R + 1; omega) (.int .i64 Q)
              have bE := (HBB.out.setCell (p := ⟨G, 0, none⟩) (by show R ≤ G; omega) (.int .i64 c)).setCell (p := ⟨G, 1, none⟩) (by show R ≤ G; omega) (.int .i64 Q)
              have HRE := hid (And.intro rE (And.intro r2 (And.intro r4 bE)))
              clear rE r2 r4 bE g
              go_wp2_with fail
              go_roundw
              case rel => exact ⟨K + 1, c, Q, rfl, by have := HK0.out; omega, by have := HK0.out; omega, .inr TK.out, HRE.out.1, HRE.out.2.1, HRE.out.2.2.1, HRE.out.2.2.2⟩
              case measure => simp [intOf]; have := HK0.out; omega
            · have TK := hid (KEEP.out HN.out hlt)
              unfold nearI at NW
              obtain ⟨nv, hnv⟩ : ∃ y, cmp3 (sizeI (p * Q - c * q) * B) (sizeI (p * B - P * q) * Q) = y := ⟨_, rfl⟩
              have nv0 : ¬ nv < 0 := by
                rw [← hnv]; unfold cmp3; rw [if_neg hlt]; split <;> omega
              rw [hnv] at NW
              clear hlt TAKE KEEP hnv
              go_wp2_with fail
              with_reducible refine (MI.out wr).mono ?_
              rintro e w' ⟨rfl, hw⟩
              subst hw
              go_wp2_with fail
              with_reducible refine (MA.out wr).mono ?_
              rintro e w' ⟨rfl, hw⟩
              subst hw
              go_wp2_with fail
              with_reducible refine (NW.out wr).mono ?_
              rintro e w9 ⟨rfl, hB⟩
              have h2l := H2.out.lt
              have H6 := hid (H6.out.below hB H6.out.lt); have H4 := hid (H4.out.below hB H4.out.lt); have HBB := hid (HBB.out.trans (hB.mono (by omega)))
              have H2 := hid (H2.out.below hB h2l)
              clear c20 c21 c60 c61 fz0 fz1 hB h2l
              go_wp2_with fail
              go_roundw
              case rel => exact ⟨K + 1, P, B, rfl, by have := HK0.out; omega, by have := HK0.out; omega, .inr TK.out, H6.out, H2.out, H4.out, HBB.out⟩
              case measure => simp [intOf]; have := HK0.out; omega
        · obtain rfl : K = 2 := by omega
          have hI2 : NrI p q most Q 2 P B := by
            rcases hI with ⟨_, h, _⟩ | h
            · omega
            · exact h
          have H6 := hid r6; have H2 := hid r2; have H4 := hid r4; have HBB := hid bb; have HI := hid hI2.next
          clear r6 r2 r4 bb hI hI2 K1 K2
          go_wp2_with fail
          go_roundw
          case rel => exact ⟨Q + 1, P, B, rfl, by have := HQ.out; omega, by have := HQ.out; omega, .inr HI.out, H6.out, H2.out, H4.out, HBB.out⟩
          case measure => simp [intOf]; have := HQ.out; omega
    · obtain rfl : Q = most + 1 := by omega
      have hI2 : NrI p q most (most + 1) 0 P B := by
        rcases hI with ⟨h, _⟩ | h
        · have := HM.out; omega
        · exact h
      have ok := hI2.ok HM.out.2 (by have := HM.out; omega)
      have pb : P ≤ 1000 ∧ B ≤ 1000 := by have h1 := hI2.p1; have h2 := hI2.b1; have h3 := HM.out; have h4 := hI2.low; omega
      have c60 := r6.cell 0; have c61 := r6.cell 1; have c40 := r4.cell 0; have c41 := r4.cell 1
      simp only [List.getElem?_cons_zero, List.getElem?_cons_succ] at c60 c61 c40 c41
      have f40 := r4.frozen 0; have f41 := r4.frozen 1
      have rE := (r4.set 0 (.int .i64 P)).set 1 (.int .i64 B)
      simp only [List.set_cons_zero, List.set_cons_succ] at rE
      have e0 := rE.cell 0; have e1 := rE.cell 1
      simp only [List.getElem?_cons_zero, List.getElem?_cons_succ] at e0 e1
      have bE := (bb.setCell (p := ⟨R + 1, 0, none⟩) (by show R ≤ R + 1; omega) (.int .i64 P)).setCell (p := ⟨R + 1, 1, none⟩) (by show R ≤ R + 1; omega) (.int .i64 B)
      have HE := hid (And.intro ok pb); have HBE := hid bE
      clear r6 r2 r4 bb hI hI2 Q1 Q2 ok pb rE bE
      go_wp2_with fail
      exact bodyPost_ret (v := .tuple #[.agg #[.int .i64 P, .int .i64 B], .int .i64 0]) (by simp [results, Try.results7, go_sem, e0, e1]) rfl ⟨P, B, rfl, HE.out, by rw [HRR.out]; exact HBE.out⟩
end Go.Proofs.Ytdlcbfoghpoliaa
