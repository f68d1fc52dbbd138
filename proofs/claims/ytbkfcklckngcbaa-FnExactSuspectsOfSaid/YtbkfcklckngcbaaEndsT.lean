/- The readings that a suspect step leads to; the model's. -/
import Derived.Test.YtbkfcklckngcbaaEndsI
namespace Go.Proofs.Ytbkfcklckngcbaa
open Go.RowKit
set_option linter.unusedSimpArgs false
def askG (zs : List Int) (js : List (Int × Int)) (ok : Bool) : Int := if okG zs js && ok then 0 else 1
set_option maxHeartbeats 1000000 in
theorem l04Asked_any (bS nS capS : Nat) (zs : List Int) (hnS : nS = zs.length) (b n cap : Nat) (js : List (Int × Int)) (hn : n = js.length) (lo hi : Int) (w : World) (hS : Stk w bS zs) (hR : Rst w b js) :
    Calls Try.prog 69 #[.slice (some ⟨bS, 0, none⟩) nS capS, .slice (some ⟨b, 0, none⟩) n cap, .agg #[.int .i64 lo, .int .i64 hi]] w (GivesB w (.int .i64 (askG zs js (okF lo hi)))) := by
  have bW := box2_bel w 37 (.int .i64 lo) (.int .i64 hi)
  have HV := hid (l04Ok_any bS nS capS zs hnS b n cap js hn _ (hS.below bW hS.1) (hR.below bW hR.1))
  have HF := hid (fun w => l04Flow_any lo hi w)
  have Q0 := hid (Row.new w 37 [.int .i64 lo, .int .i64 hi])
  have bE := hid bW
  unfold askG
  obtain ⟨r, hr⟩ : ∃ r, okG zs js = r := ⟨_, rfl⟩
  obtain ⟨s, hs⟩ : ∃ r, okF lo hi = r := ⟨_, rfl⟩
  rw [hr] at HV ⊢
  rw [hs] at HF ⊢
  clear hr hs hn hnS hS hR bW
  cases r
  · simp only [Bool.false_and, if_neg Bool.false_ne_true]
    go_enter Try.func69, Try.ntmps69
    go_wp2_with fail
    refine HV.out.mono ?_
    rintro e w1 ⟨rfl, hB1⟩
    go_wp2_with fail
    go_ret
    exact ⟨rfl, bE.out.trans (hB1.mono (by simp))⟩
  · cases s
    all_goals
      first | simp only [Bool.true_and, if_neg Bool.false_ne_true] | simp only [Bool.true_and, if_true]
      go_enter Try.func69, Try.ntmps69
      go_wp2_with fail
      refine HV.out.mono ?_
      rintro e w1 ⟨rfl, hB1⟩
      have hz1 := hB1.size
      simp only [World.size_alloc] at hB1 hz1
      have r1 := Q0.out.below hB1 (by omega)
      have y0 := r1.cell 0
      have y1 := r1.cell 1
      simp only [List.getElem?_cons_zero, List.getElem?_cons_succ] at y0 y1
      have b1 := hid (bE.out.trans (hB1.mono (by omega)))
      go_wp2_with fail
      refine (HF.out _).mono ?_
      rintro e w2 ⟨rfl, hB2⟩
      go_wp2_with fail
      go_ret
      exact ⟨rfl, b1.out.trans (hB2.mono (by omega))⟩
set_option maxHeartbeats 2000000 in
theorem l04Fits_any (bS nS capS : Nat) (zs : List Int) (hnS : nS = zs.length) (hv : okL zs = true) (b n cap : Nat) (js : List (Int × Int)) (hn : n = js.length) (lo hi : Int) (i k : Nat) (hi' : i < n) (hk' : k < n) (h : -1000000000000 ≤ rv js k - rv js i ∧ rv js k - rv js i ≤ 1000000000000) (hd : 0 ≤ rd js k - rd js i ∧ rd js k - rd js i ≤ 100000) (hl : 0 ≤ lo ∧ lo ≤ 1000000) (hh : 0 ≤ hi ∧ hi ≤ 1000000) (w : World) (hS : Stk w bS zs) (hR : Rst w b js) :
    Calls Try.prog 70 #[.slice (some ⟨bS, 0, none⟩) nS capS, .slice (some ⟨b, 0, none⟩) n cap, .agg #[.int .i64 lo, .int .i64 hi], .int .i64 (i : Int), .int .i64 (k : Int)] w (GivesB w (.bool (posI (szL zs) (rv js k - rv js i) (lo * (rd js k - rd js i)) (hi * (rd js k - rd js i))))) := by
  obtain ⟨_, _, _, z1, _⟩ := okL_out hv
  have bW := box2_bel w 37 (.int .i64 lo) (.int .i64 hi)
  obtain ⟨W, hW⟩ : ∃ W, W = w.alloc (.cells #[.int .i64 lo, .int .i64 hi] 37) := ⟨_, rfl⟩
  have q0 := Row.new w 37 [.int .i64 lo, .int .i64 hi]
  have sW : W.heap.size = w.heap.size + 1 := by rw [hW]; simp
  rw [← hW] at bW q0
  have HS := hid (hS.below bW hS.1)
  have hbs := HS.out.1
  have hbr : b < W.heap.size := by have := hR.1; omega
  have cc := hR.2.1 i (by omega)
  have dd := hR.2.1 k (by omega)
  have c0 := (bW.cell (p := ⟨b, i * 2, none⟩) hR.1).trans cc.1
  have c1 := (bW.cell (p := ⟨b, i * 2 + 1, none⟩) hR.1).trans cc.2
  have c2 := (bW.cell (p := ⟨b, k * 2, none⟩) hR.1).trans dd.1
  have c3 := (bW.cell (p := ⟨b, k * 2 + 1, none⟩) hR.1).trans dd.2
  have c4 := q0.cell 0
  have c5 := q0.cell 1
  simp only [List.getElem?_cons_zero, List.getElem?_cons_succ] at c4 c5
  have HC := hid (fun w hS => l04Counts_any bS nS capS zs hnS hv (rd js i) (rv js i) (rd js k) (rv js k) lo hi h hd hl hh w hS)
  obtain ⟨r, hr⟩ : ∃ r, posI (szL zs) (rv js k - rv js i) (lo * (rd js k - rd js i)) (hi * (rd js k - rd js i)) = r := ⟨_, rfl⟩
  rw [hr]
  obtain ⟨x, y, hxy⟩ : ∃ x y : Int, cnt3 (szL zs) (rv js k - rv js i) (lo * (rd js k - rd js i)) (hi * (rd js k - rd js i)) = .tuple #[.int .i64 x, .int .i64 y, .bool r] := by
    cases r with
    | true => exact ⟨_, _, cnt3_yes z1 hr⟩
    | false => exact ⟨_, _, cnt3_no z1 hr⟩
  rw [hxy] at HC
  obtain ⟨p, hp⟩ : ∃ p, rd js i = p := ⟨_, rfl⟩
  obtain ⟨q, hq⟩ : ∃ p, rv js i = p := ⟨_, rfl⟩
  obtain ⟨u, hu⟩ : ∃ p, rd js k = p := ⟨_, rfl⟩
  obtain ⟨v, hv'⟩ : ∃ p, rv js k = p := ⟨_, rfl⟩
  rw [hp, hq, hu, hv'] at HC
  rw [hp] at c0
  rw [hq] at c1
  rw [hu] at c2
  rw [hv'] at c3
  have hin : (i : Int) < (n : Int) := by omega
  have hkn : (k : Int) < (n : Int) := by omega
  have hi0 : (0 : Int) ≤ (i : Int) := by omega
  have hk0 : (0 : Int) ≤ (k : Int) := by omega
  have l0 : w.heap.size < W.heap.size := by omega
  have bE := hid bW
  have hW2 := hid hW
  have hb0 := Below.refl W.heap.size W
  clear hr hxy hp hq hu hv' hW bW q0 cc dd hS hR hnS hv hn h hd hl hh z1
  go_enter Try.func70, Try.ntmps70
  go_wp2_with fail
  rw [← hW2.out]
  have SOF := hid (fun (v : World) (h : Below W.heap.size W v) => (And.intro ((h.cell (p := ⟨b, i * 2, none⟩) hbr).trans c0) (And.intro ((h.cell (p := ⟨b, i * 2 + 1, none⟩) hbr).trans c1) (And.intro ((h.cell (p := ⟨b, k * 2, none⟩) hbr).trans c2) (And.intro ((h.cell (p := ⟨b, k * 2 + 1, none⟩) hbr).trans c3) (And.intro ((h.cell (p := ⟨w.heap.size, 0, none⟩) l0).trans c4) ((h.cell (p := ⟨w.heap.size, 1, none⟩) l0).trans c5)))))))
  go_region_held3 (fun w' => w'.cell? ⟨b, i * 2, none⟩ = some (.int .i64 p) ∧ w'.cell? ⟨b, i * 2 + 1, none⟩ = some (.int .i64 q) ∧ w'.cell? ⟨b, k * 2, none⟩ = some (.int .i64 u) ∧ w'.cell? ⟨b, k * 2 + 1, none⟩ = some (.int .i64 v) ∧ w'.cell? ⟨w.heap.size, 0, none⟩ = some (.int .i64 lo) ∧ w'.cell? ⟨w.heap.size, 1, none⟩ = some (.int .i64 hi)) (exact SOF.out _ (by (repeat (first | assumption | refine Below.drew ?_ | refine Below.setCell ?_ (by first | omega | (simp; done) | (simp; omega)) _ | refine Below.alloc ?_ (by first | omega | (simp; done) | (simp; omega)) _))))
    ((first | (go_at_call 58; have _t := hb0; (with_reducible refine (HC.out _ (HS.out.below (n := W.heap.size) (by (repeat (first | assumption | refine Below.drew ?_ | refine Below.setCell ?_ (by first | omega | (simp; done) | (simp; omega)) _ | refine Below.alloc ?_ (by first | omega | (simp; done) | (simp; omega)) _))) hbs)).mono ?_); rintro e v1 ⟨rfl, hB1⟩; have hb1 : Below W.heap.size W v1 := bel_step (by (repeat (first | assumption | refine Below.drew ?_ | refine Below.setCell ?_ (by first | omega | (simp; done) | (simp; omega)) _ | refine Below.alloc ?_ (by first | omega | (simp; done) | (simp; omega)) _))) hB1; have hz1 := hb1.size; have hy1 := hB1.size; (try simp only [World.size_drew, World.size_alloc] at hy1); (first | skip))))
  go_wp2_with fail
  go_ret
  exact ⟨rfl, bE.out.trans (hb1.mono (by omega))⟩
set_option maxRecDepth 100000 in
set_option maxHeartbeats 4000000 in
theorem specSusp_any (bS nS capS : Nat) (zs : List Int) (hnS : nS = zs.length) (b n cap : Nat) (js : List (Int × Int)) (hn : n = js.length) (lo hiF : Int) (w : World) (hS : Stk w bS zs) (hR : Rst w b js) :
    Calls Try.prog 39 #[.slice (some ⟨bS, 0, none⟩) nS capS, .slice (some ⟨b, 0, none⟩) n cap, .agg #[.int .i64 lo, .int .i64 hiF]] w (ListR w (endsR zs js (okF lo hiF) (suspP (szL zs) js lo hiF))) := by
  obtain ⟨i0, hi, iz0, iz1, iz2⟩ := info_parts Try.infoI64
  have hle := hR.2.2
  rw [← hn] at hle
  have bW := box2_bel w 37 (.int .i64 lo) (.int .i64 hiF)
  obtain ⟨W, hW⟩ : ∃ W, W = w.alloc (.cells #[.int .i64 lo, .int .i64 hiF] 37) := ⟨_, rfl⟩
  have q0 := Row.new w 37 [.int .i64 lo, .int .i64 hiF]
  have sW : W.heap.size = w.heap.size + 1 := by rw [hW]; simp
  rw [← hW] at bW q0
  have HV := hid (l04Asked_any bS nS capS zs hnS b n cap js hn lo hiF W (hS.below bW hS.1) (hR.below bW hR.1))
  have HS := hid (hS.below bW hS.1)
  have HR := hid (hR.below bW hR.1)
  have hbs := HS.out.1
  have hbr := HR.out.1
  have Q0 := hid q0
  have bE := hid bW
  have hW2 := hid hW
  have c4 := q0.cell 0
  have c5 := q0.cell 1
  simp only [List.getElem?_cons_zero, List.getElem?_cons_succ] at c4 c5
  have hN := hid hn
  have lw : w.heap.size < W.heap.size := by omega
  clear hS hR bW hW q0
  by_cases hv : (okG zs js && okF lo hiF) = true
  · have hg : okG zs js = true := by simp only [Bool.and_eq_true] at hv; exact hv.1
    have hf : okF lo hiF = true := by simp only [Bool.and_eq_true] at hv; exact hv.2
    have of := okF_out hf
    have HFT := hid (fun (k : Nat) (w : World) (hk : k + 1 < n) (hS : Stk w bS zs) (hR : Rst w b js) => l04Fits_any bS nS capS zs hnS (okG_out hg).1 b n cap js hn lo hiF k (k + 1) (by omega) (by omega) (by have := okG_len hg k (by omega); have := (okL_out (okG_out hg).1).2.2.2; omega) (by have := okG_len hg k (by omega); omega) (by omega) (by omega) w hS hR)
    rw [hf, endsR_yes hg, ← hn]
    unfold askG at HV
    rw [if_pos hv] at HV
    obtain ⟨P, hP⟩ : ∃ P, suspP (szL zs) js lo hiF = P := ⟨_, rfl⟩
    have HP := hid (fun k => (congrFun hP k).symm)
    rw [hP]
    clear hP hv hg hf of hn hnS
    go_enter Try.func39, Try.ntmps39
    go_wp2_with fail
    rw [← hW2.out]
    refine HV.out.mono ?_
    rintro e w1 ⟨rfl, hB1⟩
    have hz1 := hB1.size
    have rE := Row.new w1 2 []
    have B0 := hid (hB1.alloc hB1.size (.cells #[] 2))
    have O0 := hid (show (w1.alloc (.cells #[] 2)).ownsRow W.heap.size 2 1 (.slice (some ⟨w1.heap.size, 0, none⟩) 0 0) 0 [] from ⟨rfl, .inr ⟨w1.heap.size, 0, #[], rfl, hB1.size, rE, by omega, by unfold maxLen; omega, rfl, rfl⟩⟩)
    clear rE c4 c5
    go_wp2_with fail
    go_loopw [9, 10] (fun v i wr => ∃ k c : Nat, c = k + 1 ∧ k ≤ n - 1 ∧ i = .int .i64 (c : Int) ∧ wr.ownsRow W.heap.size 2 1 v (endsP P ((List.finRange (n - 1)).take k)).length ((endsP P ((List.finRange (n - 1)).take k)).map (Value.int .i64)) ∧ Below W.heap.size W wr) (fun _ i _ => n - (intOf i).toNat)
    case atStart => exact ⟨0, 1, rfl, Nat.zero_le _, rfl, O0.out, B0.out⟩
    case round =>
      obtain ⟨k, c, hck, hk, rfl, hown, hB⟩ := hrel
      have HCK := hid hck
      have hc0 : (0 : Int) ≤ (c : Int) := by omega
      have HO := hid hown
      have hzr := hB.size
      by_cases hlt : k < n - 1
      · have hlt' : (c : Int) < (n : Int) := by omega
        have hcn : c < n := by omega
        have hkn : k < n := by omega
        have hk0 : (0 : Int) ≤ (k : Int) := by omega
        have e1 : (c : Int) - 1 = (k : Int) := by omega
        have tk : IntKind.i64.wrap (k : Int) = (k : Int) := IntWalk.i64_in _ (by omega)
        have hlen := hid (finTake_succ (n - 1) k hlt)
        have hel := endsP_len P ((List.finRange (n - 1)).take k)
        have hel2 : ((List.finRange (n - 1)).take k).length = k := finTake_length (n - 1) k hk
        have HEY := hid (endsP_yes P ((List.finRange (n - 1)).take k) ⟨k, hlt⟩)
        have HEN := hid (endsP_no P ((List.finRange (n - 1)).take k) ⟨k, hlt⟩)
        rw [← hlen.out] at HEY HEN
        dsimp only at HEY HEN
        have hlP := hid (rfl : P k = P k)
        obtain ⟨E, hE⟩ : ∃ E, endsP P ((List.finRange (n - 1)).take k) = E := ⟨_, rfl⟩
        rw [hE] at HO HEY HEN hel
        clear hown hE hck
        have hpk := HP.out k
        have ec1 : k + 1 = c := HCK.out.symm
        have Q1 := Q0.out.below hB lw
        have y0 := Q1.cell 0
        have y1 := Q1.cell 1
        simp only [List.getElem?_cons_zero, List.getElem?_cons_succ] at y0 y1
        have HX := HFT.out k wr (by omega) (HS.out.below hB hbs) (HR.out.below hB hbr)
        unfold suspP at hpk
        rw [ec1] at HX hpk
        obtain ⟨r, hr⟩ : ∃ r, posI (szL zs) (rv js c - rv js k) (lo * (rd js c - rd js k)) (hiF * (rd js c - rd js k)) = r := ⟨_, rfl⟩
        rw [hr] at HX hpk
        have HXX := hid HX
        have HPK := hid hpk
        clear hr HX hpk Q1 ec1
        cases r
        · have HY := hid (HEY.out (by rw [HPK.out]; rfl))
          go_wp2_with fail
          refine HXX.out.mono ?_
          rintro e w3 ⟨rfl, hB3⟩
          obtain ⟨X, hX⟩ : ∃ X, X = w3 := ⟨_, rfl⟩
          have hBX : Below W.heap.size W X := by rw [hX]; exact hB.trans (hB3.mono hzr)
          have HOX : X.ownsRow W.heap.size 2 1 u9 E.length (E.map (Value.int .i64)) := by rw [hX]; exact owns_below' HO.out hB3
          rw [← hX]
          clear hX
          have news := Row.new X 2 [.int .i64 (c : Int)]
          have nc := news.cell 0
          simp only [List.getElem?_cons_zero] at nc
          have HO1 := hid (HOX.alloc (.cells #[.int .i64 (c : Int)] 2))
          have hzx := hBX.size
          go_wp2_with (at_builtin; refine wpList_append_own _ rfl _ _ 49 rfl W.heap.size 2 i0 (.int .i64 0) 1 8 Try.underlying49 hi iz0 iz1 iz2 rfl (by decide) _ _ _ rfl HO1.out ⟨X.heap.size, 0, none⟩ 1 1 [.int .i64 (c : Int)] rfl rfl (by intro j u hj; match j, hj with | 0, hj => simp at hj; subst hj; simp [Addr.add, nc]) (by intro u hu; simp at hu; subst hu; rfl) (by unfold maxLen; omega) (by omega) (by simp; omega) ?_; intro v' w2 hown' hgrow _)
          have hgs := hgrow.size
          simp only [World.size_alloc] at hgs
          have hl2 : (E ++ [(k : Int) + 1]).length = E.length + 1 := by simp
          have ec : (c : Int) = (k : Int) + 1 := by have := HCK.out; omega
          have ON := hid (show w2.ownsRow W.heap.size 2 1 v' (E ++ [(k : Int) + 1]).length ((E ++ [(k : Int) + 1]).map (Value.int .i64)) by rw [hl2, List.map_append, ← ec]; exact hown')
          have BN := hid ((hBX.alloc hzx (.cells #[.int .i64 (c : Int)] 2)).grown hgrow (by simp; omega) (fun q e => by by_cases hq : W.heap.size ≤ q; exact hq; exact absurd e.symm (owns_lt HO1.out (by omega))))
          clear hown' hgrow nc news
          go_roundw
          case rel => exact ⟨k + 1, c + 1, by have := HCK.out; omega, by omega, by go_num, by rw [HY.out]; exact ON.out, BN.out⟩
          case measure => simp [intOf]; omega
        · have HY := hid (HEN.out (by rw [HPK.out]; rfl))
          go_wp2_with fail
          refine HXX.out.mono ?_
          rintro e w3 ⟨rfl, hB3⟩
          go_wp2_with fail
          go_roundw
          case rel => exact ⟨k + 1, c + 1, by have := HCK.out; omega, by omega, by go_num, by rw [HY.out]; exact owns_below' HO.out hB3, hB.trans (hB3.mono hzr)⟩
          case measure => simp [intOf]; omega
      · obtain rfl : k = n - 1 := by omega
        have hge : ¬ (c : Int) < (n : Int) := by omega
        have hge' : (n : Int) ≤ (c : Int) := by omega
        rw [finTake_all (n - 1)] at HO
        have hl := endsP_len P (List.finRange (n - 1))
        have hl2 : (List.finRange (n - 1)).length = n - 1 := by simp
        have HI := hid (OwnI.of_owns HO.out (by omega))
        clear hown
        go_wp2_with fail
        go_ret2
        exact ⟨_, rfl, HI.out.base (by omega), bE.out.trans (hB.mono (by omega))⟩
  · have e0 : endsR zs js (okF lo hiF) (suspP (szL zs) js lo hiF) = ([], 1) := by unfold endsR; rw [if_neg hv]
    rw [e0]
    unfold askG at HV
    rw [if_neg hv] at HV
    clear e0 hv hn hnS
    go_enter Try.func39, Try.ntmps39
    go_wp2_with fail
    rw [← hW2.out]
    refine HV.out.mono ?_
    rintro e w1 ⟨rfl, hB1⟩
    go_wp2_with fail
    go_ret2
    exact ⟨_, rfl, OwnI.nil _ _ _ _, bE.out.trans ((hB1.alloc hB1.size _).mono (by omega))⟩
end Go.Proofs.Ytbkfcklckngcbaa
