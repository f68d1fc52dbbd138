/- Stories as told: the check, both sides. -/
import Derived.Test.YtilbpgcgjbblaaaCsE
namespace Go.Proofs.Ytilbpgcgjbblaaa
open Go.RowKit
set_option linter.unusedVariables false
set_option linter.unusedSimpArgs false
/-- what the check answers -/
def chkR (zs : List Int) (js : List (Int × Int)) (lo hi : Int) (ks bs : List Int) (c : Int) : Bool × Int := if okG zs js && okF lo hi then (tellB (szL zs) js lo hi ks bs c, 0) else (false, 1)
theorem chkR_no {zs : List Int} {js : List (Int × Int)} {lo hi : Int} {ks bs : List Int} {c : Int} (h : (okG zs js && okF lo hi) = false) : chkR zs js lo hi ks bs c = (false, 1) := by unfold chkR; rw [h]; rfl
theorem chkR_yes {zs : List Int} {js : List (Int × Int)} {lo hi : Int} {ks bs : List Int} {c : Int} (h : (okG zs js && okF lo hi) = true) : chkR zs js lo hi ks bs c = (tellB (szL zs) js lo hi ks bs c, 0) := by unfold chkR; rw [h]; rfl
theorem askG_is {zs : List Int} {js : List (Int × Int)} {ok : Bool} : askG zs js ok = if (okG zs js && ok) then 0 else 1 := rfl
set_option maxRecDepth 100000 in
set_option maxHeartbeats 1000000 in
theorem specCheck_any (bS nS capS : Nat) (zs : List Int) (hnS : nS = zs.length) (b n cap : Nat) (js : List (Int × Int)) (hn : n = js.length) (lo hi : Int) (bk nk ck bb nb cb : Nat) (ks bs : List Int) (c : Int) (hnk : nk = ks.length) (hnb : nb = bs.length) (w : World)
    (hS : Stk w bS zs) (hR : Rst w b js) (hK : Lst w bk ks) (hBr : Lst w bb bs) :
    Calls Try.prog 14 #[.slice (some ⟨bS, 0, none⟩) nS capS, .slice (some ⟨b, 0, none⟩) n cap, .agg #[.int .i64 lo, .int .i64 hi], .agg #[.slice (some ⟨bk, 0, none⟩) nk ck, .slice (some ⟨bb, 0, none⟩) nb cb, .int .i64 c]] w (GivesB w (.tuple #[.bool (chkR zs js lo hi ks bs c).1, .int .i64 (chkR zs js lo hi ks bs c).2])) := by
  have rF0 := Row.new w 42 [.int .i64 lo, .int .i64 hi]
  have rX0 := Row.new (w.alloc (.cells #[.int .i64 lo, .int .i64 hi] 42)) 44 [.slice (some ⟨bk, 0, none⟩) nk ck, .slice (some ⟨bb, 0, none⟩) nb cb, .int .i64 c]
  simp only [World.size_alloc] at rX0
  obtain ⟨F, hF⟩ : ∃ F, w.heap.size = F := ⟨_, rfl⟩
  obtain ⟨V, hV⟩ : ∃ V, V = (w.alloc (.cells #[.int .i64 lo, .int .i64 hi] 42)).alloc (.cells #[.slice (some ⟨bk, 0, none⟩) nk ck, .slice (some ⟨bb, 0, none⟩) nb cb, .int .i64 c] 44) := ⟨_, rfl⟩
  have sV : V.heap.size = F + 2 := by rw [hV]; simp [hF]
  have bV : Below w.heap.size w V := by rw [hV]; exact ((Below.refl _ w).alloc (Nat.le_refl _) _).alloc (by simp) _
  have rF : Row V F 42 [.int .i64 lo, .int .i64 hi] := by rw [hV, ← hF]; exact rF0.alloc _
  have rX : Row V (F + 1) 44 [.slice (some ⟨bk, 0, none⟩) nk ck, .slice (some ⟨bb, 0, none⟩) nb cb, .int .i64 c] := by rw [hV, ← hF]; exact rX0
  have HLT := hid (show bS < V.heap.size ∧ b < V.heap.size ∧ bk < V.heap.size ∧ bb < V.heap.size from by have a1 := hS.1; have a2 := hR.1; have a3 := hK.1; have a4 := hBr.1; omega)
  have HS := hid (hS.below bV hS.1); have HR := hid (hR.below bV hR.1); have HK := hid (hK.below bV hK.1); have HBR := hid (hBr.below bV hBr.1)
  have RX := hid rX; have RF := hid rF; have BV := hid bV; have HV := hid hV; have HF := hid hF; have SV := hid sV
  have f0 := rF.cell 0; have f1 := rF.cell 1
  simp only [List.getElem?_cons_zero, List.getElem?_cons_succ] at f0 f1
  have HA := hid (l04Asked_any bS nS capS zs hnS b n cap js hn lo hi V HS.out HR.out)
  rw [askG_is] at HA
  cases hok : (okG zs js && okF lo hi) with
  | false =>
    rw [chkR_no hok]
    rw [hok] at HA
    clear hS hR hK hBr rF0 rX0 rF rX bV hV sV hF hnk hnb hn hnS hok
    go_enter Try.func14, Try.ntmps14
    go_upto_region 1 with fail
    rw [← HV.out]
    try simp only [HF.out]
    go_wp2_with fail
    with_reducible refine HA.out.mono ?_
    rintro e w1 ⟨rfl, hB⟩
    have QQ := hid hB
    clear hB f0 f1
    go_wp2_with fail
    go_ret2
    exact ⟨by first | rfl | simp, BV.out.trans (QQ.out.mono BV.out.size)⟩
  | true =>
    rw [chkR_yes hok]
    rw [hok] at HA
    have hg : okG zs js = true := by simp at hok; exact hok.1
    have hf : okF lo hi = true := by simp at hok; exact hok.2
    have HT := hid (fun W hS hR hK hBr hX => told_any bS nS capS zs hnS b n cap js hn lo hi (F + 1) bk nk ck bb nb cb ks bs c hnk hnb W hS hR hK hBr hX hg hf)
    obtain ⟨r, hr⟩ : ∃ r, tellB (szL zs) js lo hi ks bs c = r := ⟨_, rfl⟩
    rw [hr] at HT ⊢
    clear hS hR hK hBr rF0 rX0 rF rX bV hV sV hF hnk hnb hn hnS hok hg hf hr
    go_enter Try.func14, Try.ntmps14
    go_upto_region 1 with fail
    rw [← HV.out]
    try simp only [HF.out]
    go_wp2_with fail
    with_reducible refine HA.out.mono ?_
    rintro e w1 ⟨rfl, hB⟩
    have q := hB
    have rF := RF.out.below q RF.out.lt
    clear hB f0 f1
    have f0 := rF.cell 0; have f1 := rF.cell 1
    simp only [List.getElem?_cons_zero, List.getElem?_cons_succ] at f0 f1
    have HT1 := hid (HT.out w1 (HS.out.below q HLT.out.1) (HR.out.below q HLT.out.2.1) (HK.out.below q HLT.out.2.2.1) (HBR.out.below q HLT.out.2.2.2) (RX.out.below q RX.out.lt))
    have QQ := hid q
    clear q rF
    go_wp2_with fail
    with_reducible refine HT1.out.mono ?_
    rintro e w2 ⟨rfl, hB⟩
    have Q2 := hid (QQ.out.trans (hB.mono QQ.out.size))
    clear hB f0 f1
    go_wp2_with fail
    go_ret2
    exact ⟨by first | rfl | simp, BV.out.trans (Q2.out.mono BV.out.size)⟩
set_option maxRecDepth 100000 in
set_option maxHeartbeats 1000000 in
theorem implCheck_any (bS nS capS : Nat) (zs : List Int) (hnS : nS = zs.length) (b n cap : Nat) (js : List (Int × Int)) (hn : n = js.length) (lo hi : Int) (bk nk ck bb nb cb : Nat) (ks bs : List Int) (c : Int) (hnk : nk = ks.length) (hnb : nb = bs.length) (w : World)
    (hS : Stk w bS zs) (hR : Rst w b js) (hK : Lst w bk ks) (hBr : Lst w bb bs) :
    Calls Try.prog 17 #[.slice (some ⟨bS, 0, none⟩) nS capS, .slice (some ⟨b, 0, none⟩) n cap, .agg #[.int .i64 lo, .int .i64 hi], .agg #[.slice (some ⟨bk, 0, none⟩) nk ck, .slice (some ⟨bb, 0, none⟩) nb cb, .int .i64 c]] w (GivesB w (.tuple #[.bool (chkR zs js lo hi ks bs c).1, .int .i64 (chkR zs js lo hi ks bs c).2])) := by
  have rF0 := Row.new w 42 [.int .i64 lo, .int .i64 hi]
  have rX0 := Row.new (w.alloc (.cells #[.int .i64 lo, .int .i64 hi] 42)) 44 [.slice (some ⟨bk, 0, none⟩) nk ck, .slice (some ⟨bb, 0, none⟩) nb cb, .int .i64 c]
  simp only [World.size_alloc] at rX0
  obtain ⟨F, hF⟩ : ∃ F, w.heap.size = F := ⟨_, rfl⟩
  obtain ⟨V, hV⟩ : ∃ V, V = (w.alloc (.cells #[.int .i64 lo, .int .i64 hi] 42)).alloc (.cells #[.slice (some ⟨bk, 0, none⟩) nk ck, .slice (some ⟨bb, 0, none⟩) nb cb, .int .i64 c] 44) := ⟨_, rfl⟩
  have sV : V.heap.size = F + 2 := by rw [hV]; simp [hF]
  have bV : Below w.heap.size w V := by rw [hV]; exact ((Below.refl _ w).alloc (Nat.le_refl _) _).alloc (by simp) _
  have rF : Row V F 42 [.int .i64 lo, .int .i64 hi] := by rw [hV, ← hF]; exact rF0.alloc _
  have rX : Row V (F + 1) 44 [.slice (some ⟨bk, 0, none⟩) nk ck, .slice (some ⟨bb, 0, none⟩) nb cb, .int .i64 c] := by rw [hV, ← hF]; exact rX0
  have HLT := hid (show bS < V.heap.size ∧ b < V.heap.size ∧ bk < V.heap.size ∧ bb < V.heap.size from by have a1 := hS.1; have a2 := hR.1; have a3 := hK.1; have a4 := hBr.1; omega)
  have HS := hid (hS.below bV hS.1); have HR := hid (hR.below bV hR.1); have HK := hid (hK.below bV hK.1); have HBR := hid (hBr.below bV hBr.1)
  have RX := hid rX; have RF := hid rF; have BV := hid bV; have HV := hid hV; have HF := hid hF; have SV := hid sV
  have f0 := rF.cell 0; have f1 := rF.cell 1
  simp only [List.getElem?_cons_zero, List.getElem?_cons_succ] at f0 f1
  have HA := hid (implValidLog_any bS nS capS zs hnS b n cap js hn V HS.out HR.out)
  have HFF := hid (fun W => implValidFlow_any lo hi W)
  have x0 := RX.out.cell 0; have x1 := RX.out.cell 1; have x2 := RX.out.cell 2
  simp only [List.getElem?_cons_zero, List.getElem?_cons_succ] at x0 x1 x2
  cases hg : okG zs js with
  | false =>
    rw [chkR_no (by rw [hg]; rfl)]
    rw [hg] at HA
    clear hS hR hK hBr rF0 rX0 rF rX bV hV sV hF hnk hnb hn hnS hg
    go_enter Try.func17, Try.ntmps17
    go_upto_region 1 with fail
    rw [← HV.out]
    try simp only [HF.out]
    go_wp2_with fail
    with_reducible refine HA.out.mono ?_
    rintro e w1 ⟨rfl, hB⟩
    have QQ := hid hB
    clear hB f0 f1 x0 x1 x2
    go_wp2_with fail
    go_ret2
    exact ⟨by first | rfl | simp, BV.out.trans (QQ.out.mono BV.out.size)⟩
  | true =>
    rw [hg] at HA
    cases hf : okF lo hi with
    | false =>
      rw [chkR_no (by rw [hg, hf]; rfl)]
      rw [hf] at HFF
      clear hS hR hK hBr rF0 rX0 rF rX bV hV sV hF hnk hnb hn hnS hg hf
      go_enter Try.func17, Try.ntmps17
      go_upto_region 1 with fail
      rw [← HV.out]
      try simp only [HF.out]
      go_wp2_with fail
      with_reducible refine HA.out.mono ?_
      rintro e w1 ⟨rfl, hB⟩
      have q := hB
      have rF := RF.out.below q RF.out.lt
      clear hB f0 f1 x0 x1 x2
      have f0 := rF.cell 0; have f1 := rF.cell 1
      simp only [List.getElem?_cons_zero, List.getElem?_cons_succ] at f0 f1
      have QQ := hid q
      clear q rF
      go_wp2_with fail
      with_reducible refine (HFF.out _).mono ?_
      rintro e w2 ⟨rfl, hB⟩
      have Q2 := hid (QQ.out.trans (hB.mono QQ.out.size))
      clear hB f0 f1
      go_wp2_with fail
      go_ret2
      exact ⟨by first | rfl | simp, BV.out.trans (Q2.out.mono BV.out.size)⟩
    | true =>
      rw [chkR_yes (by rw [hg, hf]; rfl)]
      rw [hf] at HFF
      have HT := hid (fun W hS hR hK hBr => explains_any bS nS capS zs hnS b n cap js hn lo hi bk nk ck bb nb cb ks bs c hnk hnb W hS hR hK hBr hg hf)
      obtain ⟨r, hr⟩ : ∃ r, tellB (szL zs) js lo hi ks bs c = r := ⟨_, rfl⟩
      rw [hr] at HT ⊢
      clear hS hR hK hBr rF0 rX0 rF rX bV hV sV hF hnk hnb hn hnS hg hf hr
      go_enter Try.func17, Try.ntmps17
      go_upto_region 1 with fail
      rw [← HV.out]
      try simp only [HF.out]
      go_wp2_with fail
      with_reducible refine HA.out.mono ?_
      rintro e w1 ⟨rfl, hB⟩
      have q := hB
      have rF := RF.out.below q RF.out.lt
      clear hB f0 f1 x0 x1 x2
      have f0 := rF.cell 0; have f1 := rF.cell 1
      simp only [List.getElem?_cons_zero, List.getElem?_cons_succ] at f0 f1
      have QQ := hid q
      clear q rF
      go_wp2_with fail
      with_reducible refine (HFF.out _).mono ?_
      rintro e w2 ⟨rfl, hB⟩
      have q := QQ.out.trans (hB.mono QQ.out.size)
      have rF := RF.out.below q RF.out.lt
      have rX := RX.out.below q RX.out.lt
      clear hB f0 f1
      have f0 := rF.cell 0; have f1 := rF.cell 1; have x0 := rX.cell 0; have x1 := rX.cell 1; have x2 := rX.cell 2
      simp only [List.getElem?_cons_zero, List.getElem?_cons_succ] at f0 f1 x0 x1 x2
      have HT1 := hid (HT.out w2 (HS.out.below q HLT.out.1) (HR.out.below q HLT.out.2.1) (HK.out.below q HLT.out.2.2.1) (HBR.out.below q HLT.out.2.2.2))
      have Q2 := hid q
      clear q rF rX
      go_wp2_with fail
      with_reducible refine HT1.out.mono ?_
      rintro e w3 ⟨rfl, hB⟩
      have Q3 := hid (Q2.out.trans (hB.mono Q2.out.size))
      clear hB f0 f1 x0 x1 x2
      go_wp2_with fail
      go_ret2
      exact ⟨by first | rfl | simp, BV.out.trans (Q3.out.mono BV.out.size)⟩
end Go.Proofs.Ytilbpgcgjbblaaa
