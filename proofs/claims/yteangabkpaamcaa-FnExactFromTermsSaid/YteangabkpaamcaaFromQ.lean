/- FromTerms: the model's. -/
import Derived.Test.YteangabkpaamcaaFromS
import Derived.Test.YteangabkpaamcaaFromP
namespace Go.Proofs.Yteangabkpaamcaa
open Go.RowKit
set_option maxRecDepth 100000 in
set_option maxHeartbeats 4000000 in
theorem specFromTerms_any (b n cap : Nat) (zs : List Int) (w : World) (hS : Lst w b zs) (hn : n = zs.length) :
    Calls Try.prog 23 #[.slice (some ⟨b, 0, none⟩) n cap] w (GivesB w (pairV (fromR zs))) := by
  have hle := hS.2.2.2
  rw [← hn] at hle
  have bE := hid (box2_bel w 24 (.int .i64 0) (.int .i64 0))
  have q0 := hid (nilpair_new w 24 (.int .i64 0) (.int .i64 0))
  have L1 := hid (hS.below bE.out hS.1)
  have hC := hid L1.out.2.1
  have hN := hid hn
  have HF := hid (fun h1 h2 h3 => l03From_any b n cap zs (w.alloc (.cells #[.int .i64 0, .int .i64 0] 24)) L1.out hn h1 h2 h3)
  have HST : Hid (∃ v : Bool, (∀ w, Calls Try.prog 37 #[.int .i64 n, .int .i64 1, .int .i64 60] w fun e w' => e = .returned (.bool v) ∧ w = w') ∧ ((v = true ∧ 1 ≤ n ∧ n ≤ 60) ∨ (v = false ∧ okF zs = false))) := hid (by
    by_cases h : 1 ≤ n ∧ n ≤ 60
    · exact ⟨true, fun w => inr_yes n 1 60 w (by omega), .inl ⟨rfl, h⟩⟩
    · exact ⟨false, fun w => inr_no n 1 60 w (by omega), .inr ⟨rfl, okF_len (by omega)⟩⟩)
  obtain ⟨v0, hv0, hv1⟩ := HST.out
  have V0 := hid hv0
  have V1 := hid hv1
  clear HST hv0 hv1 hS hn
  go_enter Try.func23, Try.ntmps23
  go_wp2_with (go_at_call 37; refine (V0.out _).mono ?_; rintro e w' ⟨rfl, rfl⟩)
  go_loop [4, 5] (fun v i => ∃ k : Nat, k ≤ n ∧ i = .int .i64 k ∧ ((v = .bool true ∧ 1 ≤ n ∧ n ≤ 60 ∧ tOk zs k ∧ (1 ≤ k → n = 1 → 1 ≤ zA zs 0)) ∨ (v = .bool false ∧ okF zs = false))) (fun _ i => n - (intOf i).toNat)
  case atStart =>
    refine ⟨0, Nat.zero_le _, rfl, ?_⟩
    rcases V1.out with ⟨h, h1, h2⟩ | ⟨h, h1⟩
    · exact .inl ⟨by rw [h], h1, h2, fun j h => by omega, fun h => by omega⟩
    · exact .inr ⟨by rw [h], h1⟩
  case round =>
    obtain ⟨k, hk, rfl, hok⟩ := hrel
    rcases hok with ⟨rfl, n1, n60, hok, h11⟩ | ⟨rfl, hbad⟩
    · have HK := hid hok
      have H11 := hid h11
      clear hok h11
      by_cases hlt : k < n
      · have cc := hC.out k (by rw [← hN.out]; exact hlt)
        have hlt' : (k : Int) < (n : Int) := by omega
        have hk0 : (0 : Int) ≤ (k : Int) := by omega
        have HB := hid (fun h => okF_bad (zs := zs) k (by rw [← hN.out]; exact hlt) h)
        have HO := hid (fun (h1 : n = 1) h => okF_one (zs := zs) (by rw [← hN.out]; exact h1) h)
        have HT := hid (fun h => tOk_succ (zs := zs) HK.out h)
        have HZ := hid (show k = 0 → zA zs k = zA zs 0 from fun h => by rw [h])
        obtain ⟨z, hz⟩ : ∃ z, zA zs k = z := ⟨_, rfl⟩
        rw [hz] at HB HT HZ
        have cc2 : (w.alloc (.cells #[.int .i64 0, .int .i64 0] 24)).cell? ⟨b, k, none⟩ = some (.int .i64 z) := by rw [← hz]; exact cc
        clear cc hz
        by_cases h0 : k = 0
        · subst h0
          by_cases hn1 : n = 1
          · have hn2 : (n : Int) ≤ 1 := by omega
            have HN1 := hid hn1
            clear hn1
            by_cases hi : 1 ≤ z ∧ z ≤ 1000000000
            · have HI := hid (fun w => inr_yes z 1 1000000000 w hi)
              have HT2 := hid (HT.out (by omega))
              have HX := hid (show 1 ≤ zA zs 0 by rw [← HZ.out rfl]; exact hi.1)
              clear hi
              go_wp2_with (go_at_call 37; refine (HI.out _).mono ?_; rintro e w' ⟨rfl, rfl⟩)
              go_round
              case rel => exact ⟨1, by omega, rfl, .inl ⟨rfl, n1, n60, HT2.out, fun _ _ => HX.out⟩⟩
              case measure => have := HN1.out; simp [intOf]; omega
            · have HI := hid (fun w => inr_no z 1 1000000000 w (by omega))
              have HX := hid (show okF zs = false by
                by_cases hz0 : z < 1
                · exact HO.out HN1.out (by rw [← HZ.out rfl]; exact hz0)
                · exact HB.out (by omega))
              clear hi
              go_wp2_with (go_at_call 37; refine (HI.out _).mono ?_; rintro e w' ⟨rfl, rfl⟩)
              go_round
              case rel => exact ⟨1, by omega, rfl, .inr ⟨rfl, HX.out⟩⟩
              case measure => have := HN1.out; simp [intOf]; omega
          · have hn2 : (1 : Int) < (n : Int) := by omega
            by_cases hi : 0 ≤ z ∧ z ≤ 1000000000
            · have HI := hid (fun w => inr_yes z 0 1000000000 w hi)
              have HT2 := hid (HT.out (by omega))
              have HN2 := hid hn1
              clear hi hn1
              go_wp2_with (go_at_call 37; refine (HI.out _).mono ?_; rintro e w' ⟨rfl, rfl⟩)
              go_round
              case rel => exact ⟨1, by omega, rfl, .inl ⟨rfl, n1, n60, HT2.out, fun _ h => absurd h HN2.out⟩⟩
              case measure => simp [intOf]; omega
            · have HI := hid (fun w => inr_no z 0 1000000000 w (by omega))
              have HX := hid (HB.out (by omega))
              clear hi hn1
              go_wp2_with (go_at_call 37; refine (HI.out _).mono ?_; rintro e w' ⟨rfl, rfl⟩)
              go_round
              case rel => exact ⟨1, by omega, rfl, .inr ⟨rfl, HX.out⟩⟩
              case measure => simp [intOf]; omega
        · have e0 : ((k : Int) == 0) = false := by simp; omega
          have hk1 : 1 ≤ k := by omega
          by_cases hi : 1 ≤ z ∧ z ≤ 1000000000
          · have HI := hid (fun w => inr_yes z 1 1000000000 w hi)
            have HT2 := hid (HT.out (by omega))
            clear hi h0
            go_wp2_with (go_at_call 37; refine (HI.out _).mono ?_; rintro e w' ⟨rfl, rfl⟩)
            go_round
            case rel => exact ⟨k + 1, by omega, by go_num, .inl ⟨rfl, n1, n60, HT2.out, fun _ h => H11.out hk1 h⟩⟩
            case measure => simp [intOf]; omega
          · have HI := hid (fun w => inr_no z 1 1000000000 w (by omega))
            have HX := hid (HB.out (by omega))
            clear hi h0
            go_wp2_with (go_at_call 37; refine (HI.out _).mono ?_; rintro e w' ⟨rfl, rfl⟩)
            go_round
            case rel => exact ⟨k + 1, by omega, by go_num, .inr ⟨rfl, HX.out⟩⟩
            case measure => simp [intOf]; omega
      · obtain rfl : k = n := by omega
        have hkk := okF_yes (zs := zs) (by rw [← hN.out]; omega) (by rw [← hN.out]; exact HK.out) (fun h => H11.out n1 (by rw [hN.out]; exact h))
        have HFF := hid (HF.out n1 n60 (by rw [hN.out]; exact (okF_out hkk).2))
        have HKK := hid hkk
        clear hkk HF
        go_wp2_with fail
        refine HFF.out.mono ?_
        rintro e w1 ⟨hB, h⟩
        have Q0 := hid (q0.out.below hB (by simp))
        have bE2 := hid (bE.out.trans (hB.mono (by simp)))
        clear hB
        rcases h with ⟨hin, g, cap', rfl, g0, g1, hg⟩ | ⟨hin, v, rfl⟩
        · have HR := hid (fromR_yes HKK.out hin)
          obtain ⟨m, hm⟩ : ∃ m, k = m + 1 := ⟨k - 1, by omega⟩
          have HM := hid (show zs.length = m + 1 from by rw [← hN.out]; exact hm)
          subst hm
          obtain ⟨x, hx⟩ : ∃ x, (fP zs (m + 1)).2 = x := ⟨_, rfl⟩
          obtain ⟨y, hy⟩ : ∃ x, (fQ zs (m + 1)).2 = x := ⟨_, rfl⟩
          rw [hx] at g0
          rw [hy] at g1
          rw [HM.out, hx, hy] at HR
          have HP := hid (show pairV (fromR zs) = .tuple #[.agg #[.int .i64 x, .int .i64 y], .int .i64 0] by rw [HR.out]; rfl)
          simp only [Nat.add_sub_cancel] at g0 g1
          have hm60 : m ≤ 60 := by omega
          clear hin HR HKK hN hx hy HFF L1 q0 bE hC HK H11 V0 V1 HM
          have e1 : ((m + 1 : Nat) : Int) - 1 = (m : Int) := by omega
          have e2 : IntKind.i64.wrap (m : Int) = (m : Int) := IntWalk.i64_in _ (by omega)
          have d0 := Q0.out.cell 0
          have d1 := Q0.out.cell 1
          have f0 := Q0.out.frozen 0
          have f1 := Q0.out.frozen 1
          simp only [List.getElem?_cons_zero, List.getElem?_cons_succ] at d0 d1
          have P := hid (pair_again (.int .i64 x) (.int .i64 y) Q0.out)
          clear Q0
          go_wp2_with fail
          obtain ⟨V, hV⟩ : ∃ V, V = (w1.setCell ⟨w.heap.size, 0, none⟩ (.int .i64 x)).setCell ⟨w.heap.size, 1, none⟩ (.int .i64 y) := ⟨_, rfl⟩
          obtain ⟨rV, bV, _⟩ := P.out V hV
          rw [← hV]
          clear hV d0 d1 f0 f1
          have k0 := rV.cell 0
          have k1 := rV.cell 1
          simp only [List.getElem?_cons_zero, List.getElem?_cons_succ] at k0 k1
          exact bodyPost_ret (v := .tuple #[.agg #[.int .i64 x, .int .i64 y], .int .i64 0]) (by simp [results, Try.results23, go_sem, k0, k1]) rfl ⟨by rw [HP.out], bE2.out.trans (bV _ (Nat.le_refl _))⟩
        · have HP := hid (show pairV (fromR zs) = .tuple #[.agg #[.int .i64 0, .int .i64 0], .int .i64 3] by rw [fromR_far HKK.out hin]; rfl)
          clear hin HKK hN HFF L1 q0 bE hC HK H11 V0 V1
          have d0 := Q0.out.cell 0
          have d1 := Q0.out.cell 1
          have f0 := Q0.out.frozen 0
          have f1 := Q0.out.frozen 1
          simp only [List.getElem?_cons_zero, List.getElem?_cons_succ] at d0 d1
          have P := hid (pair_again (.int .i64 0) (.int .i64 0) Q0.out)
          clear Q0
          go_wp2_with fail
          obtain ⟨V, hV⟩ : ∃ V, V = (w1.setCell ⟨w.heap.size, 0, none⟩ (.int .i64 0)).setCell ⟨w.heap.size, 1, none⟩ (.int .i64 0) := ⟨_, rfl⟩
          obtain ⟨rV, bV, _⟩ := P.out V hV
          rw [← hV]
          clear hV d0 d1 f0 f1
          have k0 := rV.cell 0
          have k1 := rV.cell 1
          simp only [List.getElem?_cons_zero, List.getElem?_cons_succ] at k0 k1
          exact bodyPost_ret (v := .tuple #[.agg #[.int .i64 0, .int .i64 0], .int .i64 3]) (by simp [results, Try.results23, go_sem, k0, k1]) rfl ⟨by rw [HP.out], bE2.out.trans (bV _ (Nat.le_refl _))⟩
    · have HP := hid (show pairV (fromR zs) = .tuple #[.agg #[.int .i64 0, .int .i64 0], .int .i64 2] by rw [fromR_no hbad]; rfl)
      clear hbad HF hN V0 V1 L1 hC
      by_cases hlt : k < n
      · have hlt' : (k : Int) < (n : Int) := by omega
        go_wp2_with fail
        exact bodyPost_ret (v := .tuple #[.agg #[.int .i64 0, .int .i64 0], .int .i64 2]) (by simp [results, Try.results23, go_sem]) rfl ⟨by rw [HP.out], bE.out⟩
      · obtain rfl : k = n := by omega
        go_wp2_with fail
        exact bodyPost_ret (v := .tuple #[.agg #[.int .i64 0, .int .i64 0], .int .i64 2]) (by simp [results, Try.results23, go_sem]) rfl ⟨by rw [HP.out], bE.out⟩
end Go.Proofs.Yteangabkpaamcaa
