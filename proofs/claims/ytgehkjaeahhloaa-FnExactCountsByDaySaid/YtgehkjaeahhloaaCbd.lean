/- The days of totals; what grows on them. -/
import Derived.Test.YtgehkjaeahhloaaOnC
import Derived.Test.YtgehkjaeahhloaaOnS
import Derived.Test.YtgehkjaeahhloaaShares
namespace Go.Proofs.Ytgehkjaeahhloaa
open Go.RowKit
set_option linter.unusedVariables false
/-- the first day, and the one behind the last -/
def dayB (js : List (Int × Int)) : Int × Int := if js.length = 0 then (0, 0) else (rd js 0, rd js (js.length - 1) + 1)
set_option maxRecDepth 100000 in
set_option maxHeartbeats 2000000 in
theorem days_tally_any (b n cap : Nat) (js : List (Int × Int)) (hn : n = js.length) (hv : okTs js = true) (w : World) (hR : Rst w b js) :
    Calls Try.prog 87 #[.slice (some ⟨b, 0, none⟩) n cap] w (GivesB w (.agg #[.int .i64 (dayB js).1, .int .i64 (dayB js).2])) := by
  obtain ⟨hl, ht, hu⟩ := okTs_out hv
  have bel := hid (box2_bel w 91 (.int .i64 0) (.int .i64 0))
  by_cases h0 : n = 0
  · have HE := hid (show dayB js = (0, 0) by rw [dayB, if_pos (by omega)])
    subst h0
    clear hn hv hR hl ht hu
    go_enter Try.func87, Try.ntmps87
    go_wp2_with fail
    exact bodyPost_ret (v := .agg #[.int .i64 0, .int .i64 0]) (by simp [results, Try.results87, go_sem]) rfl ⟨by rw [HE.out], bel.out⟩
  · have HE := hid (show dayB js = (rd js 0, rd js (js.length - 1) + 1) by rw [dayB, if_neg (by omega)])
    obtain ⟨l, hnl⟩ : ∃ l, n = l + 1 := ⟨n - 1, by omega⟩
    have el' : js.length - 1 = l := by omega
    rw [el'] at HE
    have a0 := hR.2.1 0 (by omega)
    have al := hR.2.1 l (by omega)
    have bl := hR.1
    have x0 : w.cell? ⟨b, 0, none⟩ = some (.int .i64 (rd js 0)) := by simpa using a0.1
    have xl := al.1
    have q0 := okTd_out (ht 0 (by omega))
    have ql := okTd_out (ht l (by omega))
    have el : (n : Int) - 1 = (l : Int) := by omega
    have tl : IntKind.i64.wrap (l : Int) = (l : Int) := IntWalk.i64_in _ (by omega)
    have hl0 : (0 : Int) ≤ (l : Int) := by omega
    have hln : (l : Int) < (n : Int) := by omega
    have hln' : l < n := by omega
    have hn0 : ((n : Int) == 0) = false := by simp; omega
    have hnp : (0 : Int) < (n : Int) := by omega
    have hnp' : 0 < n := by omega
    obtain ⟨F, hF⟩ : ∃ F, rd js 0 = F := ⟨_, rfl⟩
    obtain ⟨Z, hZ⟩ : ∃ F, rd js l = F := ⟨_, rfl⟩
    rw [hF] at x0 q0 HE
    rw [hZ] at xl ql HE
    have tz : IntKind.i64.wrap (Z + 1) = Z + 1 := IntWalk.i64_in _ (by omega)
    have SOF := hid (fun (v : World) (h : Below w.heap.size w v) => And.intro ((h.cell (p := ⟨b, 0, none⟩) bl).trans x0) ((h.cell (p := ⟨b, l * 2, none⟩) bl).trans xl))
    have hb0 := Below.refl w.heap.size w
    have rz := (Row.new w 91 [.int .i64 0, .int .i64 0]).below (n := w.heap.size + 1) (Below.refl _ _).drew (by omega)
    have k0 := rz.cell 0; have k1 := rz.cell 1; have f0 := rz.frozen 0; have f1 := rz.frozen 1
    simp only [List.getElem?_cons_zero, List.getElem?_cons_succ] at k0 k1
    clear hF hZ hn hv hR hl ht hu a0 al hnl el' q0 ql h0 rz
    go_enter Try.func87, Try.ntmps87
    go_wp2_with fail
    go_region_held3 (fun w' : World => w'.cell? ⟨b, 0, none⟩ = some (.int .i64 F) ∧ w'.cell? ⟨b, l * 2, none⟩ = some (.int .i64 Z)) (exact SOF.out _ (by (repeat (first | assumption | refine Below.drew ?_ | refine Below.setCell ?_ (by first | omega | (simp; done) | (simp; omega)) _ | refine Below.alloc ?_ (by first | omega | (simp; done) | (simp; omega)) _)))) (fail)
    go_wp2_with fail
    exact bodyPost_ret (v := .agg #[.int .i64 F, .int .i64 (Z + 1)]) (by simp [results, Try.results87, go_sem]) rfl ⟨by rw [HE.out], by (repeat (first | assumption | refine Below.drew ?_ | refine Below.setCell ?_ (by first | omega | (simp; done) | (simp; omega)) _ | refine Below.alloc ?_ (by first | omega | (simp; done) | (simp; omega)) _))⟩
set_option maxRecDepth 100000 in
set_option maxHeartbeats 2000000 in
theorem growthT_any (f : Int → Int) (b n cap : Nat) (low high : Int) (h0 : 0 ≤ low ∧ low ≤ 1000000) (h1 : high ≤ 1000000) (hf : ∀ a, low ≤ a → a < high → 0 ≤ f a ∧ f a ≤ 1000000000000000) (w : World)
    (HF : ∀ a, low ≤ a → a < high → ∀ w', Below w.heap.size w w' → Calls Try.prog 88 #[.slice (some ⟨b, 0, none⟩) n cap, .int .i64 a] w' (GivesB w' (.int .i64 (f a)))) :
    Calls Try.prog 85 #[.agg #[.int .i64 low, .int .i64 high], .func (.func 88) #[.slice (some ⟨b, 0, none⟩) n cap] #[]] w (GrowR w (grL f low (high - 1 - low).toNat)) := by
  obtain ⟨i0, hi, iz0, iz1, iz2⟩ := info_parts Try.infoI64'
  obtain ⟨W, hW⟩ : ∃ W, W = w.alloc (.cells #[.int .i64 low, .int .i64 high] 91) := ⟨_, rfl⟩
  have b0 : Below w.heap.size w W := by rw [hW]; exact box2_bel _ _ _ _
  have r0 : Row W w.heap.size 91 [.int .i64 low, .int .i64 high] := by rw [hW]; exact Row.new _ _ _
  have R0 := hid r0
  have B0 := hid b0
  have HW := hid hW
  have HHF := hid HF
  have Hf := hid hf
  have k0 := r0.cell 0
  simp only [List.getElem?_cons_zero] at k0
  clear r0 b0 hW HF hf
  go_enter Try.func85, Try.ntmps85
  go_wp2_with fail
  rw [← HW.out]
  go_loopw [5, 6] (fun v s wr => ∃ k : Nat, s = .int .i64 (low + k) ∧ (k = 0 ∨ low + k < high) ∧ Row wr w.heap.size 91 [.int .i64 low, .int .i64 high] ∧ wr.ownsRow w.heap.size 2 1 v k ((grL f low k).map (Value.int .i64)) ∧ Below w.heap.size w wr) (fun _ s _ => (high - intOf s).toNat)
  case atStart => exact ⟨0, by simp, .inl rfl, R0.out, World.ownsRow_nil _ _ _ _, B0.out⟩
  case round =>
    clear k0
    obtain ⟨k, rfl, hk, hrow, hown, hB⟩ := hrel
    have hzr := hB.size
    have HO := hid hown
    have HR := hid hrow
    have HB := hid hB
    have c0 := hrow.cell 0
    have c1 := hrow.cell 1
    simp only [List.getElem?_cons_zero, List.getElem?_cons_succ] at c0 c1
    have HK := hid hk
    have HKB := hid (show (k : Int) ≤ 1000000 by omega)
    clear hown hrow hB
    obtain ⟨a, ha⟩ : ∃ a, low + (k : Int) = a := ⟨_, rfl⟩
    rw [ha]
    have ta : IntKind.i64.wrap (a + 1) = a + 1 := IntWalk.i64_in _ (by omega)
    have HA := hid ha
    clear ha hk
    by_cases hlt : a + 1 < high
    · have F1 := hid (HHF.out (a + 1) (by have := HA.out; omega) hlt)
      have F0 := hid (HHF.out a (by have := HA.out; omega) (by omega))
      have b1 := Hf.out (a + 1) (by have := HA.out; omega) hlt
      have b2 := Hf.out a (by have := HA.out; omega) (by omega)
      have HS := hid (show grL f low (k + 1) = grL f low k ++ [f (a + 1) - f a] by rw [grL_succ, HA.out])
      obtain ⟨x, hx⟩ : ∃ x, f (a + 1) = x := ⟨_, rfl⟩
      obtain ⟨y, hy⟩ : ∃ x, f a = x := ⟨_, rfl⟩
      rw [hx] at F1 b1 HS
      rw [hy] at F0 b2 HS
      obtain ⟨t, ht⟩ : ∃ t, x - y = t := ⟨_, rfl⟩
      rw [ht] at HS
      have t1 : IntKind.i64.wrap t = t := IntWalk.i64_in _ (by omega)
      have HL := hid hlt
      clear hx hy b1 b2
      go_wp2_with fail
      refine (F1.out _ HB.out).mono ?_
      rintro e w1 ⟨rfl, hB1⟩
      have B1 := hid (HB.out.trans (hB1.mono hzr))
      have O1 := hid (owns_below HO.out hB1)
      have R1 := hid (HR.out.below hB1 HR.out.lt)
      clear c0 c1 hB1
      go_wp2_with fail
      refine (F0.out _ B1.out).mono ?_
      rintro e w3 ⟨rfl, hB3⟩
      have hz3 := hB3.size
      have hz1 := B1.out.size
      have HB1 := hid ((B1.out.trans (hB3.mono hz1)).alloc (by omega) (.cells #[.int .i64 t] 2))
      have HO1 := hid ((owns_below O1.out hB3).alloc (.cells #[.int .i64 t] 2))
      have HR1 := hid ((R1.out.below hB3 R1.out.lt).alloc (.cells #[.int .i64 t] 2))
      have news := Row.new w3 2 [.int .i64 t]
      have nc := news.cell 0
      simp only [List.getElem?_cons_zero] at nc
      clear news hB3
      have KB := HKB.out
      go_upto_region 4 with (at_builtin; refine wpList_append_own _ rfl _ _ 69 rfl w.heap.size 2 i0 (.int .i64 0) 1 8 Try.underlying69 hi iz0 iz1 iz2 rfl (by decide) _ _ _ rfl HO1.out ⟨w3.heap.size, 0, none⟩ 1 1 [.int .i64 t] rfl rfl (by intro j u hj; match j, hj with | 0, hj => simp at hj; subst hj; simp [Addr.add, nc]) (by intro u hu; simp at hu; subst hu; rfl) (by unfold maxLen; omega) (by omega) (by simp; omega) ?_; intro v' w2 hown' hgrow _)
      have hg2 : (w3.alloc (.cells #[.int .i64 t] 2)).grownBy w2 u5.ownBlock := hgrow
      have HR2 := hid (HR1.out.grown hg2 (own_type HO1.out HR1.out (by decide)))
      have HB2 := hid (HB1.out.grown hg2 (by simp; omega) (fun k e => by have := (HO1.out.lt k e).1; omega))
      have hown2 := hid (show w2.ownsRow w.heap.size 2 1 v' (k + 1) ((grL f low (k + 1)).map (Value.int .i64)) by rw [HS.out, List.map_append]; exact hown')
      clear hown' hgrow hg2 nc HO1 HR1 HB1 ht
      go_wp2_with fail
      go_roundw
      case rel => exact ⟨k + 1, by have := HA.out; first | (congr 1; omega) | (congr 1; push_cast; omega), .inr (by have := HA.out; have := HL.out; omega), HR2.out, hown2.out, HB2.out⟩
      case measure => simp [intOf]; have := HL.out; omega
    · have e1 : (high - 1 - low).toNat = k := by have := HA.out; have := HK.out; omega
      have HE := hid e1
      clear e1
      go_wp2_with fail
      go_ret
      exact ⟨_, rfl, by rw [HE.out]; exact OwnI.of_owns (n := k) HO.out (by rw [grL_len]; have := HKB.out; omega), HB.out⟩
/-- the counts by day, with a code -/
def cbR (js : List (Int × Int)) : List Int × Int :=
  if okTs js = true then (if js.length = 0 then ([], 6) else if 400 < rd js (js.length - 1) - rd js 0 then ([], 3) else (grL (onI js) (rd js 0) (rd js (js.length - 1) - rd js 0).toNat, 0)) else ([], 1)
theorem cbR_no {js : List (Int × Int)} (h : okTs js = false) : cbR js = ([], 1) := by simp [cbR, h]
theorem cbR_none {js : List (Int × Int)} (h : okTs js = true) (k : js.length = 0) : cbR js = ([], 6) := by rw [cbR, if_pos h, if_pos k]
theorem cbR_limit {js : List (Int × Int)} (h : okTs js = true) (k : js.length ≠ 0) (c : 400 < rd js (js.length - 1) - rd js 0) : cbR js = ([], 3) := by rw [cbR, if_pos h, if_neg k, if_pos c]
theorem cbR_yes {js : List (Int × Int)} (h : okTs js = true) (k : js.length ≠ 0) (c : ¬ 400 < rd js (js.length - 1) - rd js 0) : cbR js = (grL (onI js) (rd js 0) (rd js (js.length - 1) - rd js 0).toNat, 0) := by rw [cbR, if_pos h, if_neg k, if_neg c]
set_option maxRecDepth 100000 in
set_option maxHeartbeats 4000000 in
theorem implCountsByDay_any (b n cap : Nat) (js : List (Int × Int)) (hn : n = js.length) (w : World) (hR : Rst w b js) :
    Calls Try.prog 52 #[.slice (some ⟨b, 0, none⟩) n cap] w (OwnR w (cbR js)) := by
  have HV := hid (implTotals_any b n cap js hn w hR)
  have HRR := hid hR
  have bl := hid hR.1
  have HN := hid hn
  have HL : n ≤ 1048576 := by rw [hn]; exact hR.2.2
  cases hv : okTs js with
  | false =>
    rw [cbR_no hv]
    rw [hv] at HV
    clear hv hn hR
    go_enter Try.func52, Try.ntmps52
    go_wp2_with fail
    refine HV.out.mono ?_
    rintro e w1 ⟨rfl, hB⟩
    go_wp2_with fail
    go_ret2
    exact ⟨_, rfl, OwnI.nil _ _ _ _, hB⟩
  | true =>
    rw [hv] at HV
    by_cases h0 : n = 0
    · rw [cbR_none hv (by omega)]
      subst h0
      clear hv hn hR
      go_enter Try.func52, Try.ntmps52
      go_wp2_with fail
      refine HV.out.mono ?_
      rintro e w1 ⟨rfl, hB⟩
      go_wp2_with fail
      go_ret2
      exact ⟨_, rfl, OwnI.nil _ _ _ _, hB⟩
    obtain ⟨hl, ht, hu⟩ := okTs_out hv
    have HDA := hid (fun w h => days_tally_any b n cap js hn hv w h)
    rw [show dayB js = (rd js 0, rd js (js.length - 1) + 1) by rw [dayB, if_neg (by omega)]] at HDA
    have q0 := okTd_out (ht 0 (by omega))
    have ql := okTd_out (ht (js.length - 1) (by omega))
    have HGR := hid (fun (w : World) (h : Rst w b js) => growthT_any (onI js) b n cap (rd js 0) (rd js (js.length - 1) + 1) (by omega) (by omega) (fun a h1 h2 => by
      have := on_bd hv (day := a) ⟨by omega, h1, by omega⟩
      omega) w (fun a h1 h2 w' hB => on_any b n cap js hn hv a ⟨by omega, h1, by omega⟩ w' (h.below hB h.1)))
    rw [show (rd js (js.length - 1) + 1 - 1 - rd js 0) = rd js (js.length - 1) - rd js 0 by omega] at HGR
    have hn0 : ((n : Int) == 0) = false := by simp; omega
    by_cases hc : 400 < rd js (js.length - 1) - rd js 0
    · rw [cbR_limit hv (by omega) hc]
      obtain ⟨F, hF⟩ : ∃ F, rd js 0 = F := ⟨_, rfl⟩
      obtain ⟨Z, hZ⟩ : ∃ F, rd js (js.length - 1) = F := ⟨_, rfl⟩
      rw [hF, hZ] at HDA hc
      rw [hF] at q0
      rw [hZ] at ql
      have t1 : IntKind.i64.wrap Z = Z := IntWalk.i64_in _ (by omega)
      have t2 : IntKind.i64.wrap (Z - F) = Z - F := IntWalk.i64_in _ (by omega)
      clear hF hZ hn hv hR hl ht hu q0 ql HGR
      go_enter Try.func52, Try.ntmps52
      go_wp2_with fail
      refine HV.out.mono ?_
      rintro e w1 ⟨rfl, hB⟩
      have B1 := hid hB
      have R1 := hid (HRR.out.below hB bl.out)
      clear hB
      go_wp2_with fail
      refine (HDA.out _ R1.out).mono ?_
      rintro e w2 ⟨rfl, hB⟩
      go_wp2_with fail
      go_ret2
      exact ⟨_, rfl, OwnI.nil _ _ _ _, (B1.out.trans (hB.mono B1.out.size)).alloc (B1.out.trans (hB.mono B1.out.size)).size _⟩
    · rw [cbR_yes hv (by omega) hc]
      obtain ⟨F, hF⟩ : ∃ F, rd js 0 = F := ⟨_, rfl⟩
      obtain ⟨Z, hZ⟩ : ∃ F, rd js (js.length - 1) = F := ⟨_, rfl⟩
      rw [hF, hZ] at HDA HGR hc ⊢
      rw [hF] at q0
      rw [hZ] at ql
      have t1 : IntKind.i64.wrap Z = Z := IntWalk.i64_in _ (by omega)
      have t2 : IntKind.i64.wrap (Z - F) = Z - F := IntWalk.i64_in _ (by omega)
      have hc2 : Z - F ≤ 400 := by omega
      clear hF hZ hn hv hR hl ht hu q0 ql hc
      go_enter Try.func52, Try.ntmps52
      go_wp2_with fail
      refine HV.out.mono ?_
      rintro e w1 ⟨rfl, hB⟩
      have B1 := hid hB
      have R1 := hid (HRR.out.below hB bl.out)
      clear hB
      go_wp2_with fail
      refine (HDA.out _ R1.out).mono ?_
      rintro e w2 ⟨rfl, hB⟩
      have B2 := hid (B1.out.trans (hB.mono B1.out.size))
      have R2 := hid (R1.out.below hB R1.out.1)
      obtain ⟨V, hV⟩ : ∃ V, V = w2.alloc (.cells #[.int .i64 F, .int .i64 (Z + 1)] 91) := ⟨_, rfl⟩
      have bV : Below w2.heap.size w2 V := by rw [hV]; exact box2_bel _ _ _ _
      have rV : Row V w2.heap.size 91 [.int .i64 F, .int .i64 (Z + 1)] := by rw [hV]; exact Row.new _ _ _
      have B3 := hid (B2.out.trans (bV.mono B2.out.size))
      have R3 := hid (R2.out.below bV R2.out.1)
      have HVV := hid hV
      have k0 := rV.cell 0; have k1 := rV.cell 1
      simp only [List.getElem?_cons_zero, List.getElem?_cons_succ] at k0 k1
      clear hB bV rV hV
      go_upto_region 7 with fail
      rw [← HVV.out]
      go_wp2_with fail
      refine (HGR.out _ R3.out).mono ?_
      rintro e w4 ⟨v, rfl, hO, hB⟩
      have HO := hid (hO.base B3.out.size)
      have B4 := hid (B3.out.trans (hB.mono B3.out.size))
      clear hO hB k0 k1
      go_wp2_with fail
      go_ret2
      exact ⟨_, rfl, HO.out, B4.out⟩
set_option maxRecDepth 100000 in
set_option maxHeartbeats 8000000 in
theorem specCountsByDay_any (b n cap : Nat) (js : List (Int × Int)) (hn : n = js.length) (w : World) (hR : Rst w b js) :
    Calls Try.prog 51 #[.slice (some ⟨b, 0, none⟩) n cap] w (OwnR w (cbR js)) := by
  obtain ⟨i0, hi, iz0, iz1, iz2⟩ := info_parts Try.infoI64'
  have HV := hid (l06Totals_any b n cap js hn w hR)
  have HRR := hid hR
  have bl := hid hR.1
  have HN := hid hn
  have HL : n ≤ 1048576 := by rw [hn]; exact hR.2.2
  cases hv : okTs js with
  | false =>
    rw [cbR_no hv]
    rw [hv] at HV
    clear hv hn hR
    go_enter Try.func51, Try.ntmps51
    go_wp2_with fail
    refine HV.out.mono ?_
    rintro e w1 ⟨rfl, hB⟩
    go_wp2_with fail
    go_ret2
    exact ⟨_, rfl, OwnI.nil _ _ _ _, hB.alloc hB.size _⟩
  | true =>
    rw [hv] at HV
    by_cases h0 : n = 0
    · rw [cbR_none hv (by omega)]
      subst h0
      clear hv hn hR
      go_enter Try.func51, Try.ntmps51
      go_wp2_with fail
      refine HV.out.mono ?_
      rintro e w1 ⟨rfl, hB⟩
      go_wp2_with fail
      go_ret2
      exact ⟨_, rfl, OwnI.nil _ _ _ _, hB.alloc hB.size _⟩
    obtain ⟨hl, ht, hu⟩ := okTs_out hv
    have q0 := okTd_out (ht 0 (by omega))
    have ql := okTd_out (ht (js.length - 1) (by omega))
    have HON := hid (fun (day : Int) (h : I64 day) (w : World) (hR : Rst w b js) => l06On_any b n cap js hn hv day h w hR)
    have HBD := hid (fun (day : Int) (h : hasOn js day) => on_bd hv h)
    have hn0 : ((n : Int) == 0) = false := by simp; omega
    obtain ⟨l, hnl⟩ : ∃ l, n = l + 1 := ⟨n - 1, by omega⟩
    have el' : js.length - 1 = l := by omega
    rw [el'] at ql
    have el : (n : Int) - 1 = (l : Int) := by omega
    have tl : IntKind.i64.wrap (l : Int) = (l : Int) := IntWalk.i64_in _ (by omega)
    have hl0 : (0 : Int) ≤ (l : Int) := by omega
    have hln : (l : Int) < (n : Int) := by omega
    have hln' : l < n := by omega
    have hnp : (0 : Int) < (n : Int) := by omega
    have hnp' : 0 < n := by omega
    have HAS := hid (fun (day : Int) (h1 : rd js 0 ≤ day) (h2 : day ≤ rd js l) => show hasOn js day from ⟨by omega, h1, by rw [el']; exact h2⟩)
    have HCL := hid (fun (v : World) (h : Rst v b js) => And.intro (show v.cell? ⟨b, 0, none⟩ = some (.int .i64 (rd js 0)) by simpa using (h.2.1 0 (by omega)).1) (h.2.1 l (by omega)).1)
    by_cases hc : 400 < rd js l - rd js 0
    · rw [cbR_limit hv (by omega) (by rw [el']; exact hc)]
      obtain ⟨F, hF⟩ : ∃ F, rd js 0 = F := ⟨_, rfl⟩
      obtain ⟨Z, hZ⟩ : ∃ F, rd js l = F := ⟨_, rfl⟩
      rw [hF, hZ] at hc HCL
      rw [hF] at q0
      rw [hZ] at ql
      have t2 : IntKind.i64.wrap (Z - F) = Z - F := IntWalk.i64_in _ (by omega)
      clear hF hZ hn hv hR hl ht hu q0 ql h0 el' hnl HON HBD HAS
      go_enter Try.func51, Try.ntmps51
      go_wp2_with fail
      refine HV.out.mono ?_
      rintro e w1 ⟨rfl, hB⟩
      have B1 := hid hB
      obtain ⟨x0, xl⟩ := HCL.out w1 (HRR.out.below hB bl.out)
      clear hB
      go_wp2_with fail
      go_quiet (fail)
      go_wp2_with fail
      go_ret2
      exact ⟨_, rfl, OwnI.nil _ _ _ _, (below_drewN B1.out _).alloc (below_drewN B1.out _).size _⟩
    · rw [cbR_yes hv (by omega) (by rw [el']; exact hc), el']
      have HFZ := hid (show rd js 0 ≤ rd js l from (mono_le hu (Nat.zero_le _) (by omega)).1)
      obtain ⟨F, hF⟩ : ∃ F, rd js 0 = F := ⟨_, rfl⟩
      obtain ⟨Z, hZ⟩ : ∃ F, rd js l = F := ⟨_, rfl⟩
      rw [hF, hZ] at hc HCL HAS HFZ ⊢
      rw [hF] at q0
      rw [hZ] at ql
      have t2 : IntKind.i64.wrap (Z - F) = Z - F := IntWalk.i64_in _ (by omega)
      have hc2 : decide (400 < Z - F) = false := decide_eq_false hc
      have Q0 := hid q0
      have QL := hid ql
      have HC := hid hc
      clear hF hZ hn hv hR hl ht hu q0 ql h0 el' hnl hc
      go_enter Try.func51, Try.ntmps51
      go_wp2_with fail
      refine HV.out.mono ?_
      rintro e w1 ⟨rfl, hB⟩
      have B1 := hid hB
      have R1 := hid (HRR.out.below hB bl.out)
      obtain ⟨x0, xl⟩ := HCL.out w1 R1.out
      clear hB
      go_wp2_with fail
      go_quiet (fail)
      obtain ⟨U, hU⟩ : ∃ U, U = (w1.drewN nq).alloc (.cells #[] 2) := ⟨_, rfl⟩
      have bU : Below w1.heap.size w1 U := by rw [hU]; exact (below_drewN (Below.refl _ _) nq).alloc (by simp) _
      have oU : U.ownsRow w.heap.size 2 1 (.slice (some ⟨w1.heap.size, 0, none⟩) 0 0) 0 [] := by
        have h := Row.new (w1.drewN nq) 2 []
        rw [hU]
        exact ⟨rfl, .inr ⟨w1.heap.size, 0, #[], rfl, B1.out.size, h, by omega, by unfold maxLen; omega, rfl, rfl⟩⟩
      have OU := hid oU
      have B2 := hid (B1.out.trans (bU.mono B1.out.size))
      have R2 := hid (R1.out.below bU R1.out.1)
      have HUU := hid hU
      clear x0 xl bU oU hU
      obtain ⟨x0, xl⟩ := HCL.out U R2.out
      have x0' := x0
      rw [HUU.out] at x0'
      go_upto_region 9 with fail
      rw [← HUU.out]
      clear x0'
      go_wp2_with fail
      clear x0 xl
      go_loopw [5, 6, 7, 8, 9, 10] (fun v s _ _ _ _ wr => ∃ k : Nat, s = .int .i64 (F + k) ∧ F + k ≤ Z ∧ wr.ownsRow w.heap.size 2 1 v k ((grL (onI js) F k).map (Value.int .i64)) ∧ Below w.heap.size w wr) (fun _ s _ _ _ _ _ => (Z + 1 - intOf s).toNat)
      case atStart => exact ⟨0, by simp, by have := HFZ.out; omega, OU.out, B2.out⟩
      case round =>
        obtain ⟨k, rfl, hkz, hown, hB⟩ := hrel
        have hzr := hB.size
        have HO := hid hown
        have HB := hid hB
        have RR := hid (HRR.out.below hB bl.out)
        obtain ⟨x0, xl⟩ := HCL.out wr RR.out
        obtain ⟨a, ha⟩ : ∃ a, F + (k : Int) = a := ⟨_, rfl⟩
        rw [ha] at hkz ⊢
        have HA := hid ha
        have ta : IntKind.i64.wrap (a + 1) = a + 1 := IntWalk.i64_in _ (by have := QL.out; have := Q0.out; omega)
        clear hown hB ha
        by_cases hlt : a < Z
        · have Hh1 := hid (HAS.out a (by have := HA.out; omega) (by omega))
          have Hh2 := hid (HAS.out (a + 1) (by have := HA.out; omega) (by omega))
          have a64 : I64 a := by unfold I64; have := QL.out; have := Q0.out; have := HA.out; omega
          have a64' : I64 (a + 1) := by unfold I64; have := QL.out; have := Q0.out; have := HA.out; omega
          have F0 := hid (fun (w : World) (h : Rst w b js) => HON.out a a64 w h)
          have F1 := hid (fun (w : World) (h : Rst w b js) => HON.out (a + 1) a64' w h)
          rw [onR_yes Hh1.out] at F0
          rw [onR_yes Hh2.out] at F1
          have b1 := HBD.out (a + 1) Hh2.out
          have b2 := HBD.out a Hh1.out
          have HS := hid (show grL (onI js) F (k + 1) = grL (onI js) F k ++ [onI js (a + 1) - onI js a] by rw [grL_succ, HA.out])
          obtain ⟨x, hx⟩ : ∃ x, onI js (a + 1) = x := ⟨_, rfl⟩
          obtain ⟨y, hy⟩ : ∃ x, onI js a = x := ⟨_, rfl⟩
          rw [hx] at F1 b1 HS
          rw [hy] at F0 b2 HS
          obtain ⟨t, ht⟩ : ∃ t, x - y = t := ⟨_, rfl⟩
          rw [ht] at HS
          have t1 : IntKind.i64.wrap t = t := IntWalk.i64_in _ (by omega)
          have HLT := hid hlt
          clear hx hy b1 b2 a64 a64'
          go_wp2_with fail
          refine (F0.out _ RR.out).mono ?_
          rintro e w' ⟨rfl, d1, rfl⟩
          have R3 := hid (RR.out.below (below_drewN (Below.refl _ _) d1) RR.out.1)
          clear x0 xl
          go_wp2_with fail
          refine (F1.out _ R3.out).mono ?_
          rintro e w' ⟨rfl, d2, rfl⟩
          obtain ⟨w3, hw3⟩ : ∃ w3, w3 = (wr.drewN d1).drewN d2 := ⟨_, rfl⟩
          have bD : Below wr.heap.size wr w3 := by rw [hw3]; exact below_drewN (below_drewN (Below.refl _ _) _) _
          rw [← hw3]
          clear hw3
          have hz3 := bD.size
          have HB1 := hid ((HB.out.trans (bD.mono hzr)).alloc (by omega) (.cells #[.int .i64 t] 2))
          have HO1 := hid ((owns_below HO.out bD).alloc (.cells #[.int .i64 t] 2))
          have news := Row.new w3 2 [.int .i64 t]
          have nc := news.cell 0
          simp only [List.getElem?_cons_zero] at nc
          clear news bD
          have KB : k ≤ 400 := by have := HA.out; have := HC.out; omega
          go_upto_region 11 with (at_builtin; refine wpList_append_own _ rfl _ _ 69 rfl w.heap.size 2 i0 (.int .i64 0) 1 8 Try.underlying69 hi iz0 iz1 iz2 rfl (by decide) _ _ _ rfl HO1.out ⟨w3.heap.size, 0, none⟩ 1 1 [.int .i64 t] rfl rfl (by intro j u hj; match j, hj with | 0, hj => simp at hj; subst hj; simp [Addr.add, nc]) (by intro u hu; simp at hu; subst hu; rfl) (by unfold maxLen; omega) (by omega) (by simp; omega) ?_; intro v' w2 hown' hgrow _)
          have hg2 : (w3.alloc (.cells #[.int .i64 t] 2)).grownBy w2 u5.ownBlock := hgrow
          have HB2 := hid (HB1.out.grown hg2 (by simp; omega) (fun k e => by have := (HO1.out.lt k e).1; omega))
          have hown2 := hid (show w2.ownsRow w.heap.size 2 1 v' (k + 1) ((grL (onI js) F (k + 1)).map (Value.int .i64)) by rw [HS.out, List.map_append]; exact hown')
          clear hown' hgrow hg2 nc HO1 HB1 ht
          go_wp2_with fail
          go_roundw
          case rel => exact ⟨k + 1, by have := HA.out; first | (congr 1; omega) | (congr 1; push_cast; omega), by have := HA.out; have := HLT.out; omega, hown2.out, HB2.out⟩
          case measure => simp [intOf]; have := HLT.out; omega
        · have HE := hid (show (Z - F).toNat = k by have := HA.out; omega)
          have KB := hid (show k ≤ 400 by have := HA.out; have := HC.out; omega)
          have hlt2 : ¬ a < Z := hlt
          go_wp2_with fail
          go_ret2
          exact ⟨_, rfl, by rw [HE.out]; exact OwnI.of_owns (n := k) HO.out (by rw [grL_len]; have := KB.out; omega), HB.out⟩
end Go.Proofs.Ytgehkjaeahhloaa
