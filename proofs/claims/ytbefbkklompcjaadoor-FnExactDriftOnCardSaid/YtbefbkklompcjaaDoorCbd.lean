/- The days of totals; what grows on them. -/
import Derived.Test.YtbefbkklompcjaaDoorOnC
import Derived.Test.YtbefbkklompcjaaDoorOnS
import Derived.Test.YtbefbkklompcjaaDoorShares
namespace Go.Proofs.YtbefbkklompcjaaDoor
open Go.RowKit
set_option linter.unusedVariables false
/-- the first day, and the one behind the last -/
def dayB (js : List (Int × Int)) : Int × Int := if js.length = 0 then (0, 0) else (rd js 0, rd js (js.length - 1) + 1)
set_option maxRecDepth 100000 in
set_option maxHeartbeats 2000000 in
theorem days_tally_any (b n cap : Nat) (js : List (Int × Int)) (hn : n = js.length) (hv : okTs js = true) (w : World) (hR : Rst w b js) :
    Calls Tryd.prog 46 #[.slice (some ⟨b, 0, none⟩) n cap] w (GivesB w (.agg #[.int .i64 (dayB js).1, .int .i64 (dayB js).2])) := by
  obtain ⟨hl, ht, hu⟩ := okTs_out hv
  have bel := hid (box2_bel w 81 (.int .i64 0) (.int .i64 0))
  by_cases h0 : n = 0
  · have HE := hid (show dayB js = (0, 0) by rw [dayB, if_pos (by omega)])
    subst h0
    clear hn hv hR hl ht hu
    go_enter Tryd.func46, Tryd.ntmps46
    go_wp2_with fail
    exact bodyPost_ret (v := .agg #[.int .i64 0, .int .i64 0]) (by simp [results, Tryd.results46, go_sem]) rfl ⟨by rw [HE.out], bel.out⟩
  · have HE := hid (show dayB js = (rd js 0, rd js (js.length - 1) + 1) by rw [dayB, if_neg (by omega)])
    obtain ⟨l, hnl⟩ : ∃ l, n = l + 1 := ⟨n - 1, by omega⟩
    have el' : js.length - 1 = l := by omega
    rw [el'] at HE
    have a0 := hR.2.1 0 (by omega)
    have al := hR.2.1 l (by omega)
    have bl := hR.1
    have x0 : w.cell? ⟨b, 0, none⟩ = some (.int .i64 (rd js 0)) := by simpa using a0.1
    have xl := al.1
    have q0 := okTd_out (ht 0 (by omega))
    have ql := okTd_out (ht l (by omega))
    have el : (n : Int) - 1 = (l : Int) := by omega
    have tl : IntKind.i64.wrap (l : Int) = (l : Int) := IntWalk.i64_in _ (by omega)
    have hl0 : (0 : Int) ≤ (l : Int) := by omega
    have hln : (l : Int) < (n : Int) := by omega
    have hln' : l < n := by omega
    have hn0 : ((n : Int) == 0) = false := by simp; omega
    have hnp : (0 : Int) < (n : Int) := by omega
    have hnp' : 0 < n := by omega
    obtain ⟨F, hF⟩ : ∃ F, rd js 0 = F := ⟨_, rfl⟩
    obtain ⟨Z, hZ⟩ : ∃ F, rd js l = F := ⟨_, rfl⟩
    rw [hF] at x0 q0 HE
    rw [hZ] at xl ql HE
    have tz : IntKind.i64.wrap (Z + 1) = Z + 1 := IntWalk.i64_in _ (by omega)
    have SOF := hid (fun (v : World) (h : Below w.heap.size w v) => And.intro ((h.cell (p := ⟨b, 0, none⟩) bl).trans x0) ((h.cell (p := ⟨b, l * 2, none⟩) bl).trans xl))
    have hb0 := Below.refl w.heap.size w
    have rz := (Row.new w 81 [.int .i64 0, .int .i64 0]).below (n := w.heap.size + 1) (Below.refl _ _).drew (by omega)
    have k0 := rz.cell 0; have k1 := rz.cell 1; have f0 := rz.frozen 0; have f1 := rz.frozen 1
    simp only [List.getElem?_cons_zero, List.getElem?_cons_succ] at k0 k1
    clear hF hZ hn hv hR hl ht hu a0 al hnl el' q0 ql h0 rz
    go_enter Tryd.func46, Tryd.ntmps46
    go_wp2_with fail
    go_region_held3 (fun w' : World => w'.cell? ⟨b, 0, none⟩ = some (.int .i64 F) ∧ w'.cell? ⟨b, l * 2, none⟩ = some (.int .i64 Z)) (exact SOF.out _ (by (repeat (first | assumption | refine Below.drew ?_ | refine Below.setCell ?_ (by first | omega | (simp; done) | (simp; omega)) _ | refine Below.alloc ?_ (by first | omega | (simp; done) | (simp; omega)) _)))) (fail)
    go_wp2_with fail
    exact bodyPost_ret (v := .agg #[.int .i64 F, .int .i64 (Z + 1)]) (by simp [results, Tryd.results46, go_sem]) rfl ⟨by rw [HE.out], by (repeat (first | assumption | refine Below.drew ?_ | refine Below.setCell ?_ (by first | omega | (simp; done) | (simp; omega)) _ | refine Below.alloc ?_ (by first | omega | (simp; done) | (simp; omega)) _))⟩
/-- the counts by day, with a code -/
def cbR (js : List (Int × Int)) : List Int × Int :=
  if okTs js = true then (if js.length = 0 then ([], 6) else if 400 < rd js (js.length - 1) - rd js 0 then ([], 3) else (grL (onI js) (rd js 0) (rd js (js.length - 1) - rd js 0).toNat, 0)) else ([], 1)
theorem cbR_no {js : List (Int × Int)} (h : okTs js = false) : cbR js = ([], 1) := by simp [cbR, h]
theorem cbR_none {js : List (Int × Int)} (h : okTs js = true) (k : js.length = 0) : cbR js = ([], 6) := by rw [cbR, if_pos h, if_pos k]
theorem cbR_limit {js : List (Int × Int)} (h : okTs js = true) (k : js.length ≠ 0) (c : 400 < rd js (js.length - 1) - rd js 0) : cbR js = ([], 3) := by rw [cbR, if_pos h, if_neg k, if_pos c]
theorem cbR_yes {js : List (Int × Int)} (h : okTs js = true) (k : js.length ≠ 0) (c : ¬ 400 < rd js (js.length - 1) - rd js 0) : cbR js = (grL (onI js) (rd js 0) (rd js (js.length - 1) - rd js 0).toNat, 0) := by rw [cbR, if_pos h, if_neg k, if_neg c]
end Go.Proofs.YtbefbkklompcjaaDoor
