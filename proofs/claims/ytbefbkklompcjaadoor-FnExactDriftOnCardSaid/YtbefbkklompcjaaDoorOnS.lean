/- How much has been counted up to a day; the model's. -/
import Derived.Test.YtbefbkklompcjaaDoorOnM
import Derived.Test.YtbefbkklompcjaaDoorTotV
import Derived.Test.YtbefbkklompcjaaDoorMetC
namespace Go.Proofs.YtbefbkklompcjaaDoor
open Go.RowKit
set_option linter.unusedVariables false
set_option maxRecDepth 100000 in
set_option maxHeartbeats 4000000 in
theorem l06On_any (b n cap : Nat) (js : List (Int × Int)) (hn : n = js.length) (hv : okTs js = true) (day : Int) (hd64 : I64 day) (w : World) (hR : Rst w b js) :
    Calls Tryd.prog 32 #[.slice (some ⟨b, 0, none⟩) n cap, .int .i64 day] w fun e w' => e = .returned (.tuple #[.int .i64 (onR js day).1, .bool (onR js day).2]) ∧ ∃ d, w' = w.drewN d := by
  obtain ⟨hl, ht, hu⟩ := okTs_out hv
  have hC := hid hR.2.1
  have HN := hid hn
  by_cases h0 : n = 0
  · rw [onR_no (fun h => by have := h.1; omega)]
    subst h0
    clear hn hv hR hl ht hu hd64
    go_enter Tryd.func32, Tryd.ntmps32
    go_wp2_with fail
    go_ret2
    exact ⟨rfl, 0, rfl⟩
  obtain ⟨l, hnl⟩ : ∃ l, n = l + 1 := ⟨n - 1, by omega⟩
  have hn60 : n ≤ 60 := by omega
  have a0 := hC.out 0 (by omega)
  have al := hC.out l (by omega)
  have x0 : w.cell? ⟨b, 0, none⟩ = some (.int .i64 (rd js 0)) := by simpa using a0.1
  have xl := al.1
  have el : (n : Int) - 1 = (l : Int) := by omega
  have tl : IntKind.i64.wrap (l : Int) = (l : Int) := IntWalk.i64_in _ (by omega)
  have hl0 : (0 : Int) ≤ (l : Int) := by omega
  have hln : (l : Int) < (n : Int) := by omega
  have hln' : l < n := by omega
  have hn0 : ((n : Int) == 0) = false := by simp; omega
  have hnp : (0 : Int) < (n : Int) := by omega
  have hnp' : 0 < n := by omega
  have HL := hid hnl
  have e1 : js.length - 1 = l := by omega
  have HO := hid (show hasOn js day ↔ (rd js 0 ≤ day ∧ day ≤ rd js l) by unfold hasOn; rw [e1]; constructor; (intro h; exact h.2); (intro h; exact ⟨by omega, h⟩))
  have HT := hid ht
  have HU := hid hu
  have HV := hid hv
  clear a0 al hnl hn hv hR ht hu e1 hl
  by_cases c1 : day < rd js 0
  · rw [onR_no (fun h => by have := HO.out.1 h; omega)]
    obtain ⟨F, hF⟩ : ∃ F, rd js 0 = F := ⟨_, rfl⟩
    rw [hF] at x0 c1
    clear hF hd64
    go_enter Tryd.func32, Tryd.ntmps32
    go_wp2_with fail
    go_ret2
    exact ⟨rfl, 0, rfl⟩
  by_cases c2 : rd js l < day
  · rw [onR_no (fun h => by have := HO.out.1 h; omega)]
    obtain ⟨F, hF⟩ : ∃ F, rd js 0 = F := ⟨_, rfl⟩
    obtain ⟨Z, hZ⟩ : ∃ F, rd js l = F := ⟨_, rfl⟩
    rw [hF] at x0 c1
    rw [hZ] at xl c2
    clear hF hZ hd64
    go_enter Tryd.func32, Tryd.ntmps32
    go_wp2_with fail
    go_ret2
    exact ⟨rfl, 0, rfl⟩
  have HAS := hid (HO.out.2 ⟨by omega, by omega⟩)
  rw [onR_yes HAS.out]
  have HC1 := hid (show rd js 0 ≤ day by omega)
  obtain ⟨F, hF⟩ : ∃ F, rd js 0 = F := ⟨_, rfl⟩
  obtain ⟨Z, hZ⟩ : ∃ F, rd js l = F := ⟨_, rfl⟩
  have HZ := hid hZ
  rw [hF] at x0 c1
  rw [hZ] at xl c2
  have d1 : decide (day < F) = false := decide_eq_false c1
  have d2 : decide (Z < day) = false := decide_eq_false c2
  obtain ⟨x, hx⟩ : ∃ x, onI js day = x := ⟨_, rfl⟩
  have HX := hid hx
  rw [hx]
  clear hF hZ hx
  go_enter Tryd.func32, Tryd.ntmps32
  go_wp2_with fail
  clear x0 xl
  go_loop [7] (fun i => ∃ k : Nat, k < n ∧ rd js k ≤ day ∧ i = .int .i64 k) (fun i => n - (intOf i).toNat)
  case atStart => exact ⟨0, hnp', HC1.out, rfl⟩
  case round =>
    obtain ⟨k, hk, hkd, rfl⟩ := hrel
    obtain ⟨m, hm⟩ : ∃ m, m = k + 1 := ⟨_, rfl⟩
    have ec : (k : Int) + 1 = (m : Int) := by omega
    have tm : IntKind.i64.wrap (m : Int) = (m : Int) := IntWalk.i64_in _ (by omega)
    have hk0 : (0 : Int) ≤ (k : Int) := by omega
    have hm0 : (0 : Int) ≤ (m : Int) := by omega
    have hkn : (k : Int) < (n : Int) := by omega
    have hkn' : k < n := hk
    have ck := hC.out k (by have := HN.out; omega)
    have y1 := ck.1
    have y2 := ck.2
    have HM := hid hm
    have HKD := hid hkd
    clear ck hm
    by_cases hmn : m < n
    · have cm := hC.out m (by have := HN.out; omega)
      have z1 := cm.1
      have z2 := cm.2
      have hmn' : (m : Int) < (n : Int) := by omega
      have dm : decide (m < n) = true := decide_eq_true hmn
      clear cm
      by_cases hle : rd js m ≤ day
      · have HLE := hid hle
        obtain ⟨D, hD⟩ : ∃ D, rd js m = D := ⟨_, rfl⟩
        rw [hD] at z1 hle
        have hm1 : ((k : Int) + 1) = (m : Int) := ec
        clear hD
        go_wp2_with fail
        go_round
        case rel => exact ⟨m, hmn, HLE.out, rfl⟩
        case measure => simp [intOf]; omega
      · have hgt : day < rd js m := by omega
        have dm2 : decide (rd js m ≤ day) = false := decide_eq_false hle
        have HAT := hid (show atI js day k from ⟨by have := HN.out; omega, HKD.out, fun _ => by rw [← HM.out]; exact hgt⟩)
        have HXV := hid (HX.out.symm.trans (onI_at HU.out HAT.out))
        have HKL := hid (okTd_out (HT.out k (by have := HN.out; omega)))
        have HML := hid (okTd_out (HT.out m (by have := HN.out; omega)))
        have HMO := hid (show rv js k ≤ rv js m by rw [HM.out]; exact (HU.out k (by have := HN.out; have := HM.out; omega)).2)
        unfold onV at HXV
        rw [← HM.out] at HXV
        obtain ⟨D, hD⟩ : ∃ D, rd js m = D := ⟨_, rfl⟩
        obtain ⟨E, hE⟩ : ∃ D, rv js m = D := ⟨_, rfl⟩
        obtain ⟨P, hP⟩ : ∃ D, rd js k = D := ⟨_, rfl⟩
        obtain ⟨Q, hQ⟩ : ∃ D, rv js k = D := ⟨_, rfl⟩
        rw [hD] at z1 hle hgt dm2 HXV HML
        rw [hE] at z2 HXV HML HMO
        rw [hP] at y1 HXV HKL hkd
        rw [hQ] at y2 HXV HKL HMO
        clear hD hE hP hQ
        by_cases heq : P = day
        · have hxq : x = Q := by rw [HXV.out, if_pos heq]
          have hb : (P == day) = true := by simp [heq]
          have HQ := hid hxq
          clear heq hxq
          go_wp2_with fail
          go_ret2
          exact ⟨by rw [HQ.out]; rfl, 0, rfl⟩
        · have hxq : x = Q + (E - Q) * (day - P) / (D - P) := by rw [HXV.out, if_neg heq]
          have hb : (P == day) = false := by simp [heq]
          have ml := HML.out
          have kl := HKL.out
          have mo := HMO.out
          have fb := frac_bd (d := E - Q) (k := day - P) (n := D - P) (by omega) (by omega) (by omega) (by omega)
          obtain ⟨f1, f2, f3, f4⟩ := fb
          have fd : (E - Q) * (D - P) ≤ 1000000000000 * 100000 := Int.mul_le_mul (by omega) (by omega) (by omega) (by omega)
          obtain ⟨u, hu⟩ : ∃ u, E - Q = u := ⟨_, rfl⟩
          obtain ⟨g, hg⟩ : ∃ u, day - P = u := ⟨_, rfl⟩
          obtain ⟨r, hr⟩ : ∃ u, D - P = u := ⟨_, rfl⟩
          rw [hu, hg, hr] at hxq f3 f4
          rw [hu, hg] at f1
          rw [hu, hg, hr] at f2
          rw [hu, hr] at fd
          obtain ⟨T, hT⟩ : ∃ z, u * g = z := ⟨_, rfl⟩
          rw [hT] at hxq f1 f2 f3 f4
          have e1 : T.tdiv r = T / r := Int.tdiv_eq_ediv_of_nonneg f1
          obtain ⟨q, hq⟩ : ∃ z, T / r = z := ⟨_, rfl⟩
          rw [hq] at hxq f3 f4 e1
          have tu : IntKind.i64.wrap u = u := IntWalk.i64_in _ (by omega)
          have tg : IntKind.i64.wrap g = g := IntWalk.i64_in _ (by omega)
          have tr : IntKind.i64.wrap r = r := IntWalk.i64_in _ (by omega)
          have tT : IntKind.i64.wrap T = T := IntWalk.i64_in _ (by omega)
          have tq : IntKind.i64.wrap q = q := IntWalk.i64_in _ (by omega)
          have tz : IntKind.i64.wrap (Q + q) = Q + q := IntWalk.i64_in _ (by omega)
          have nr : r ≠ 0 := by omega
          have HQ := hid hxq
          clear hxq heq hq f1 f2 f3 f4 fd ml kl mo hkd
          go_wp2_with fail
          go_quiet (fail)
          go_wp2_with fail
          go_quiet (fail)
          go_wp2_with fail
          go_ret2
          exact ⟨by rw [HQ.out]; rfl, _, by rw [World.drewN_drewN]⟩
    · have hmn' : ¬ (m : Int) < (n : Int) := by omega
      have dm : decide (m < n) = false := decide_eq_false hmn
      have hkl : k = l := by have := HL.out; have := HM.out; omega
      have heq : rd js k = day := by
        have a := HZ.out
        rw [← hkl] at a
        have := HKD.out
        omega
      have HAT := hid (show atI js day k from ⟨by have := HN.out; omega, HKD.out, fun h => absurd h (by have := HN.out; have := HM.out; omega)⟩)
      have HQ := hid (show x = rv js k by rw [← HX.out, onI_at HU.out HAT.out, onV, if_pos heq])
      obtain ⟨Q, hQ⟩ : ∃ D, rv js k = D := ⟨_, rfl⟩
      rw [hQ] at y2 HQ
      rw [heq] at y1
      have hb : (day == day) = true := by simp
      clear heq hkl hQ hkd
      go_wp2_with fail
      go_ret2
      exact ⟨by rw [HQ.out]; rfl, 0, rfl⟩
end Go.Proofs.YtbefbkklompcjaaDoor
