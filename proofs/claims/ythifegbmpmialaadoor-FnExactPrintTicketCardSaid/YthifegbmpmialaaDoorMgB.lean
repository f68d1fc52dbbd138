/- Texts of this seat, merged: Until Rounds Set Of OfC Act Acts ActE RoundsC Keep DvA DvB DvC DvD. -/
import Derived.RegionIn
import Derived.OrdersHeld
import Derived.OrdersIn
import Derived.Deep.RegionHeld3
import Derived.OwnWalk
import Derived.Deep.QuietTactic
import Derived.Laws.EntriesVeiled
import Derived.RangeFuncNested
import Derived.RangeFuncBound
import Derived.RangeFuncCalls
import Derived.RangeFuncLeaves
import Derived.RangeFuncBox
import Derived.Shelf.Abstract
import Derived.Shelf.RegionOpen
import Derived.OwnWalkIn
import Derived.TacticsInMore
import Derived.LoopNIn
import Derived.LoopIn
import Derived.Sort.CutIn
import Derived.Stop.RegionWithIn
import Derived.BigRegionIn
import Derived.Deep.MidRow
import Derived.Test.YthifegbmpmialaaDoorMgA

namespace Go.Proofs.YthifegbmpmialaaDoor
open Go.RowKit
/-- from x, that lies within a round of nothing, to 1 to a whole round -/
def untX (x z : Int) : Int := if x ≤ 0 then x + z else x
theorem untX_mod {x z : Int} (h1 : -z < x) (h2 : x < z) : 1 + (x - 1) % z = untX x z := by
  unfold untX
  by_cases h : x ≤ 0
  · rw [if_pos h]
    have e : (x - 1) % z = (x - 1 + z) % z := by rw [Int.add_emod_right]
    rw [e, Int.emod_eq_of_lt (by omega) (by omega)]
    omega
  · rw [if_neg h, Int.emod_eq_of_lt (by omega) (by omega)]
    omega
theorem untX_bd {x z : Int} (h1 : -z < x) (h2 : x < z) : 1 ≤ untX x z ∧ untX x z ≤ z := by
  unfold untX
  by_cases h : x ≤ 0
  · rw [if_pos h]; omega
  · rw [if_neg h]; omega
theorem valDev_bd {zs : List Int} {d0 d1 d2 d3 d4 d5 d6 d7 : Int} (hv : okV zs [d0, d1, d2, d3, d4, d5, d6, d7] = true) (ho : Oct d0 d1 d2 d3 d4 d5 d6 d7) : 0 ≤ valL zs [d0, d1, d2, d3, d4, d5, d6, d7] zs.length ∧ valL zs [d0, d1, d2, d3, d4, d5, d6, d7] zs.length < szL zs := by
  obtain ⟨hv1, hv2⟩ := okV_out hv
  obtain ⟨_, h8, hin, _, _⟩ := okL_out hv1
  have hlt := okD_lt hv2 h8 (fun j hj => (oct_bd ho j hj).1)
  have := valL_bd zs [d0, d1, d2, d3, d4, d5, d6, d7] zs.length (Nat.le_refl _) hin hlt
  rw [List.take_length] at this
  exact this
set_option maxRecDepth 100000 in
set_option maxHeartbeats 4000000 in
theorem untilStop_any (B n cap : Nat) (zs : List Int) (d0 d1 d2 d3 d4 d5 d6 d7 : Int) (pr : Int) (st : Bool) (tk : Int) (s x : Int) (w : World) (hS : Stk w B zs) (hn : n = zs.length) (ho : Oct d0 d1 d2 d3 d4 d5 d6 d7) (hv : okV zs [d0, d1, d2, d3, d4, d5, d6, d7] = true) (hp : 0 ≤ pr ∧ pr < szL zs) (hx : (pr - valL zs [d0, d1, d2, d3, d4, d5, d6, d7] zs.length) * s = x) (hb : -szL zs < x ∧ x < szL zs) :
    Calls Tryd.prog 132 #[.agg #[.slice (some ⟨B, 0, none⟩) n cap, .int .u8 d0, .int .u8 d1, .int .u8 d2, .int .u8 d3, .int .u8 d4, .int .u8 d5, .int .u8 d6, .int .u8 d7, .int .i64 pr, .bool st, .int .i64 tk], .int .i64 s] w (GivesB w (.int .i64 (if st then 0 else untX x (szL zs)))) := by
  obtain ⟨W, hW⟩ : ∃ W, W = (w.alloc (.cells #[.slice (some ⟨B, 0, none⟩) n cap, .int .u8 d0, .int .u8 d1, .int .u8 d2, .int .u8 d3, .int .u8 d4, .int .u8 d5, .int .u8 d6, .int .u8 d7, .int .i64 pr, .bool st, .int .i64 tk] 33)) := ⟨_, rfl⟩
  have bel : Below w.heap.size w W := by rw [hW]; exact boxD_bel _ _ _
  have r0 : Row W w.heap.size 33 [.slice (some ⟨B, 0, none⟩) n cap, .int .u8 d0, .int .u8 d1, .int .u8 d2, .int .u8 d3, .int .u8 d4, .int .u8 d5, .int .u8 d6, .int .u8 d7, .int .i64 pr, .bool st, .int .i64 tk] := by rw [hW]; exact Row.new _ _ _
  have hK := hS.below bel hS.1
  cases st with
  | true =>
    have c10 := r0.cell 10
    simp only [List.getElem?_cons_zero, List.getElem?_cons_succ] at c10
    have BE := hid bel
    have HW := hid hW
    clear bel hW hK hS hn r0 ho hv hp hx hb
    go_enter Tryd.func132, Tryd.ntmps132
    go_wp2_with fail
    rw [← HW.out]
    go_wp2_with fail
    go_ret
    exact ⟨rfl, BE.out⟩
  | false =>
    have hv1 := (okV_out hv).1
    obtain ⟨_, _, _, z1, z2⟩ := okL_out hv1
    have HS0 := hid (heldDev r0 (Below.refl _ _).drew)
    have HL := hid (fun (w' : World) (h : (fun w' : World => Below W.heap.size W w' ∧ w'.cell? ⟨w.heap.size, 0, none⟩ = some (.slice (some ⟨B, 0, none⟩) n cap) ∧ w'.cell? ⟨w.heap.size, 1, none⟩ = some (.int .u8 d0) ∧ w'.cell? ⟨w.heap.size, 2, none⟩ = some (.int .u8 d1) ∧ w'.cell? ⟨w.heap.size, 3, none⟩ = some (.int .u8 d2) ∧ w'.cell? ⟨w.heap.size, 4, none⟩ = some (.int .u8 d3) ∧ w'.cell? ⟨w.heap.size, 5, none⟩ = some (.int .u8 d4) ∧ w'.cell? ⟨w.heap.size, 6, none⟩ = some (.int .u8 d5) ∧ w'.cell? ⟨w.heap.size, 7, none⟩ = some (.int .u8 d6) ∧ w'.cell? ⟨w.heap.size, 8, none⟩ = some (.int .u8 d7) ∧ w'.cell? ⟨w.heap.size, 9, none⟩ = some (.int .i64 pr) ∧ w'.cell? ⟨w.heap.size, 10, none⟩ = some (.bool false) ∧ w'.cell? ⟨w.heap.size, 11, none⟩ = some (.int .i64 tk)) w') => (devValue_any B n cap zs d0 d1 d2 d3 d4 d5 d6 d7 pr false tk w' (hK.below h.1 hK.1) hn ho hv).mono fun e w'' ⟨he, hB⟩ => And.intro (show e = Ending.returned (.int .i64 (valL zs [d0, d1, d2, d3, d4, d5, d6, d7] zs.length)) from he) (heldDev r0 (h.1.trans (hB.mono h.1.size))))
    have HZ := hid (fun (w' : World) (h : (fun w' : World => Below W.heap.size W w' ∧ w'.cell? ⟨w.heap.size, 0, none⟩ = some (.slice (some ⟨B, 0, none⟩) n cap) ∧ w'.cell? ⟨w.heap.size, 1, none⟩ = some (.int .u8 d0) ∧ w'.cell? ⟨w.heap.size, 2, none⟩ = some (.int .u8 d1) ∧ w'.cell? ⟨w.heap.size, 3, none⟩ = some (.int .u8 d2) ∧ w'.cell? ⟨w.heap.size, 4, none⟩ = some (.int .u8 d3) ∧ w'.cell? ⟨w.heap.size, 5, none⟩ = some (.int .u8 d4) ∧ w'.cell? ⟨w.heap.size, 6, none⟩ = some (.int .u8 d5) ∧ w'.cell? ⟨w.heap.size, 7, none⟩ = some (.int .u8 d6) ∧ w'.cell? ⟨w.heap.size, 8, none⟩ = some (.int .u8 d7) ∧ w'.cell? ⟨w.heap.size, 9, none⟩ = some (.int .i64 pr) ∧ w'.cell? ⟨w.heap.size, 10, none⟩ = some (.bool false) ∧ w'.cell? ⟨w.heap.size, 11, none⟩ = some (.int .i64 tk)) w') => (size_any B n cap zs hn hv1 w' (hK.below h.1 hK.1)).mono fun e w'' ⟨he, hB⟩ => And.intro (show e = Ending.returned (.int .i64 (szL zs)) from he) (heldDev r0 (h.1.trans (hB.mono h.1.size))))
    have HF := hid (fun (w' : World) (h : (fun w' : World => Below W.heap.size W w' ∧ w'.cell? ⟨w.heap.size, 0, none⟩ = some (.slice (some ⟨B, 0, none⟩) n cap) ∧ w'.cell? ⟨w.heap.size, 1, none⟩ = some (.int .u8 d0) ∧ w'.cell? ⟨w.heap.size, 2, none⟩ = some (.int .u8 d1) ∧ w'.cell? ⟨w.heap.size, 3, none⟩ = some (.int .u8 d2) ∧ w'.cell? ⟨w.heap.size, 4, none⟩ = some (.int .u8 d3) ∧ w'.cell? ⟨w.heap.size, 5, none⟩ = some (.int .u8 d4) ∧ w'.cell? ⟨w.heap.size, 6, none⟩ = some (.int .u8 d5) ∧ w'.cell? ⟨w.heap.size, 7, none⟩ = some (.int .u8 d6) ∧ w'.cell? ⟨w.heap.size, 8, none⟩ = some (.int .u8 d7) ∧ w'.cell? ⟨w.heap.size, 9, none⟩ = some (.int .i64 pr) ∧ w'.cell? ⟨w.heap.size, 10, none⟩ = some (.bool false) ∧ w'.cell? ⟨w.heap.size, 11, none⟩ = some (.int .i64 tk)) w') => (floorMod_any (x - 1) (szL zs) (by omega) (by omega) w').mono fun e w'' ⟨he, hB⟩ => And.intro (show e = Ending.returned (.int .i64 ((x - 1) % szL zs)) from he) (hB ▸ h))
    have c10 := r0.cell 10
    simp only [List.getElem?_cons_zero, List.getElem?_cons_succ] at c10
    have vb := valDev_bd hv ho
    have eu := untX_mod hb.1 hb.2
    have bu := untX_bd hb.1 hb.2
    simp only [Bool.false_eq_true, if_false]
    rw [← eu] at bu ⊢
    obtain ⟨v, hvv⟩ : ∃ v, valL zs [d0, d1, d2, d3, d4, d5, d6, d7] zs.length = v := ⟨_, rfl⟩
    obtain ⟨z, hz⟩ : ∃ z, szL zs = z := ⟨_, rfl⟩
    rw [hvv] at HL vb hx
    rw [hz] at HZ HF z1 z2 vb hp hb bu ⊢
    obtain ⟨r, hr⟩ : ∃ r, (x - 1) % z = r := ⟨_, rfl⟩
    rw [hr] at HF bu ⊢
    have t1 : IntKind.i64.wrap (pr - v) = pr - v := IntWalk.i64_in _ (by omega)
    have t2 : IntKind.i64.wrap x = x := IntWalk.i64_in _ (by omega)
    have t3 : IntKind.i64.wrap (x - 1) = x - 1 := IntWalk.i64_in _ (by omega)
    have t4 : IntKind.i64.wrap (1 + r) = 1 + r := IntWalk.i64_in _ (by omega)
    have BE := hid bel
    have HW := hid hW
    clear bel hW hK hS hn r0 ho hv hv1 hp hb hvv hz hr eu vb z1 z2 bu
    go_enter Tryd.func132, Tryd.ntmps132
    go_wp2_with fail
    rw [← HW.out]
    go_wp2_with fail
    clear c10
    go_region_held3 (fun w' : World => Below W.heap.size W w' ∧ w'.cell? ⟨w.heap.size, 0, none⟩ = some (.slice (some ⟨B, 0, none⟩) n cap) ∧ w'.cell? ⟨w.heap.size, 1, none⟩ = some (.int .u8 d0) ∧ w'.cell? ⟨w.heap.size, 2, none⟩ = some (.int .u8 d1) ∧ w'.cell? ⟨w.heap.size, 3, none⟩ = some (.int .u8 d2) ∧ w'.cell? ⟨w.heap.size, 4, none⟩ = some (.int .u8 d3) ∧ w'.cell? ⟨w.heap.size, 5, none⟩ = some (.int .u8 d4) ∧ w'.cell? ⟨w.heap.size, 6, none⟩ = some (.int .u8 d5) ∧ w'.cell? ⟨w.heap.size, 7, none⟩ = some (.int .u8 d6) ∧ w'.cell? ⟨w.heap.size, 8, none⟩ = some (.int .u8 d7) ∧ w'.cell? ⟨w.heap.size, 9, none⟩ = some (.int .i64 pr) ∧ w'.cell? ⟨w.heap.size, 10, none⟩ = some (.bool false) ∧ w'.cell? ⟨w.heap.size, 11, none⟩ = some (.int .i64 tk)) (first | with_reducible assumption | with_reducible exact HS0.out)
      ((first | (go_at_call 73; with_reducible refine (HL.out _ (by assumption)).mono ?_; rintro e v ⟨rfl, hv⟩) | (go_at_call 98; with_reducible refine (HZ.out _ (by assumption)).mono ?_; rintro e v ⟨rfl, hv⟩) | (go_at_call 134; with_reducible refine (HF.out _ (by assumption)).mono ?_; rintro e v ⟨rfl, hv⟩)))
    all_goals
      go_wp2_with fail
      go_ret
      exact ⟨rfl, BE.out.trans (hv.1.mono BE.out.size)⟩
set_option maxRecDepth 100000 in
set_option maxHeartbeats 4000000 in
theorem l07Until_on (g B n cap : Nat) (zs : List Int) (d0 d1 d2 d3 d4 d5 d6 d7 : Int) (pr : Int) (st : Bool) (tk : Int) (w : World) (hS : Stk w B zs) (hn : n = zs.length) (ho : Oct d0 d1 d2 d3 d4 d5 d6 d7) (hv : okV zs [d0, d1, d2, d3, d4, d5, d6, d7] = true) (hp : 0 ≤ pr ∧ pr < szL zs) (hR : Row w g 33 [.slice (some ⟨B, 0, none⟩) n cap, .int .u8 d0, .int .u8 d1, .int .u8 d2, .int .u8 d3, .int .u8 d4, .int .u8 d5, .int .u8 d6, .int .u8 d7, .int .i64 pr, .bool st, .int .i64 tk]) :
    Calls Tryd.prog 80 #[.pointer (some ⟨g, 0, none⟩), .bool false] w (GivesB w (.int .i64 (untX (pr - valL zs [d0, d1, d2, d3, d4, d5, d6, d7] zs.length) (szL zs)))) := by
  have hv1 := (okV_out hv).1
  obtain ⟨_, _, _, z1, z2⟩ := okL_out hv1
  have HS0 := hid (heldDev hR (Below.refl _ _).drew)
  have HL := hid (fun (w' : World) (h : (fun w' : World => Below w.heap.size w w' ∧ w'.cell? ⟨g, 0, none⟩ = some (.slice (some ⟨B, 0, none⟩) n cap) ∧ w'.cell? ⟨g, 1, none⟩ = some (.int .u8 d0) ∧ w'.cell? ⟨g, 2, none⟩ = some (.int .u8 d1) ∧ w'.cell? ⟨g, 3, none⟩ = some (.int .u8 d2) ∧ w'.cell? ⟨g, 4, none⟩ = some (.int .u8 d3) ∧ w'.cell? ⟨g, 5, none⟩ = some (.int .u8 d4) ∧ w'.cell? ⟨g, 6, none⟩ = some (.int .u8 d5) ∧ w'.cell? ⟨g, 7, none⟩ = some (.int .u8 d6) ∧ w'.cell? ⟨g, 8, none⟩ = some (.int .u8 d7) ∧ w'.cell? ⟨g, 9, none⟩ = some (.int .i64 pr) ∧ w'.cell? ⟨g, 10, none⟩ = some (.bool st) ∧ w'.cell? ⟨g, 11, none⟩ = some (.int .i64 tk)) w') => (l01Value_ok B n cap zs d0 d1 d2 d3 d4 d5 d6 d7 ho hv (by omega) w' (hS.below h.1 hS.1)).mono fun e w'' ⟨he, hB⟩ => And.intro (show e = Ending.returned (.int .i64 (valL zs [d0, d1, d2, d3, d4, d5, d6, d7] n)) from he) (heldDev hR (h.1.trans (hB.mono h.1.size))))
  have HZ := hid (fun (w' : World) (h : Below w.heap.size w w') => l01Size_dev B n cap zs hn hv1 w' (hS.below h hS.1))
  have HC := hid (fun (w' : World) (h : Below w.heap.size w w') => (heldDev hR h).2)
  rw [hn] at HL
  have vb := valDev_bd hv ho
  have c9 := hR.cell 9
  simp only [List.getElem?_cons_zero, List.getElem?_cons_succ] at c9
  obtain ⟨v, hvv⟩ : ∃ v, valL zs [d0, d1, d2, d3, d4, d5, d6, d7] zs.length = v := ⟨_, rfl⟩
  obtain ⟨z, hz⟩ : ∃ z, szL zs = z := ⟨_, rfl⟩
  rw [hvv] at HL vb ⊢
  rw [← hn] at HL
  rw [hz] at HZ z1 z2 vb hp ⊢
  have dd0 : decide (pr < 0) = false := decide_eq_false (by omega)
  have t1 : IntKind.i64.wrap (pr - v) = pr - v := IntWalk.i64_in _ (by omega)
  have t2 : IntKind.i64.wrap (-(pr - v)) = -(pr - v) := IntWalk.i64_in _ (by omega)
  have tz : IntKind.i64.wrap (pr - v + z) = pr - v + z := IntWalk.i64_in _ (by omega)
  have ty : IntKind.i64.wrap (-(pr - v) + z) = -(pr - v) + z := IntWalk.i64_in _ (by omega)
  clear hS hn ho hv hv1 hvv hz hR
  unfold untX
  by_cases hx : pr - v ≤ 0
  · rw [if_pos hx]
    have dx : decide (pr - v ≤ 0) = true := decide_eq_true hx
    skip
    clear hx hp vb z1 z2
    go_enter Tryd.func80, Tryd.ntmps80
    go_wp2_with fail
    go_region_held3 (fun w' : World => Below w.heap.size w w' ∧ w'.cell? ⟨g, 0, none⟩ = some (.slice (some ⟨B, 0, none⟩) n cap) ∧ w'.cell? ⟨g, 1, none⟩ = some (.int .u8 d0) ∧ w'.cell? ⟨g, 2, none⟩ = some (.int .u8 d1) ∧ w'.cell? ⟨g, 3, none⟩ = some (.int .u8 d2) ∧ w'.cell? ⟨g, 4, none⟩ = some (.int .u8 d3) ∧ w'.cell? ⟨g, 5, none⟩ = some (.int .u8 d4) ∧ w'.cell? ⟨g, 6, none⟩ = some (.int .u8 d5) ∧ w'.cell? ⟨g, 7, none⟩ = some (.int .u8 d6) ∧ w'.cell? ⟨g, 8, none⟩ = some (.int .u8 d7) ∧ w'.cell? ⟨g, 9, none⟩ = some (.int .i64 pr) ∧ w'.cell? ⟨g, 10, none⟩ = some (.bool st) ∧ w'.cell? ⟨g, 11, none⟩ = some (.int .i64 tk)) (first | with_reducible assumption | with_reducible exact HS0.out)
      ((go_at_call 63; with_reducible refine (HL.out _ (by assumption)).mono ?_; rintro e v' ⟨rfl, hv⟩))
    obtain ⟨k0, k1, k2, k3, k4, k5, k6, k7, k8, k9, k10, k11⟩ := HC.out _ hv.1
    go_wp2_with fail
    refine (HZ.out _ hv.1).mono ?_
    rintro e w1 ⟨rfl, rfl⟩
    go_wp2_with fail
    go_ret
    exact ⟨rfl, hv.1⟩
  · rw [if_neg hx]
    have dx : decide (pr - v ≤ 0) = false := decide_eq_false hx
    skip
    clear hx hp vb z1 z2
    go_enter Tryd.func80, Tryd.ntmps80
    go_wp2_with fail
    go_region_held3 (fun w' : World => Below w.heap.size w w' ∧ w'.cell? ⟨g, 0, none⟩ = some (.slice (some ⟨B, 0, none⟩) n cap) ∧ w'.cell? ⟨g, 1, none⟩ = some (.int .u8 d0) ∧ w'.cell? ⟨g, 2, none⟩ = some (.int .u8 d1) ∧ w'.cell? ⟨g, 3, none⟩ = some (.int .u8 d2) ∧ w'.cell? ⟨g, 4, none⟩ = some (.int .u8 d3) ∧ w'.cell? ⟨g, 5, none⟩ = some (.int .u8 d4) ∧ w'.cell? ⟨g, 6, none⟩ = some (.int .u8 d5) ∧ w'.cell? ⟨g, 7, none⟩ = some (.int .u8 d6) ∧ w'.cell? ⟨g, 8, none⟩ = some (.int .u8 d7) ∧ w'.cell? ⟨g, 9, none⟩ = some (.int .i64 pr) ∧ w'.cell? ⟨g, 10, none⟩ = some (.bool st) ∧ w'.cell? ⟨g, 11, none⟩ = some (.int .i64 tk)) (first | with_reducible assumption | with_reducible exact HS0.out)
      ((go_at_call 63; with_reducible refine (HL.out _ (by assumption)).mono ?_; rintro e v' ⟨rfl, hv⟩))
    go_wp2_with fail
    go_ret
    exact ⟨rfl, hv.1⟩
set_option maxRecDepth 100000 in
set_option maxHeartbeats 4000000 in
theorem l07Until_back (g B n cap : Nat) (zs : List Int) (d0 d1 d2 d3 d4 d5 d6 d7 : Int) (pr : Int) (st : Bool) (tk : Int) (w : World) (hS : Stk w B zs) (hn : n = zs.length) (ho : Oct d0 d1 d2 d3 d4 d5 d6 d7) (hv : okV zs [d0, d1, d2, d3, d4, d5, d6, d7] = true) (hp : 0 ≤ pr ∧ pr < szL zs) (hR : Row w g 33 [.slice (some ⟨B, 0, none⟩) n cap, .int .u8 d0, .int .u8 d1, .int .u8 d2, .int .u8 d3, .int .u8 d4, .int .u8 d5, .int .u8 d6, .int .u8 d7, .int .i64 pr, .bool st, .int .i64 tk]) :
    Calls Tryd.prog 80 #[.pointer (some ⟨g, 0, none⟩), .bool true] w (GivesB w (.int .i64 (untX (-(pr - (valL zs [d0, d1, d2, d3, d4, d5, d6, d7] zs.length))) (szL zs)))) := by
  have hv1 := (okV_out hv).1
  obtain ⟨_, _, _, z1, z2⟩ := okL_out hv1
  have HS0 := hid (heldDev hR (Below.refl _ _).drew)
  have HL := hid (fun (w' : World) (h : (fun w' : World => Below w.heap.size w w' ∧ w'.cell? ⟨g, 0, none⟩ = some (.slice (some ⟨B, 0, none⟩) n cap) ∧ w'.cell? ⟨g, 1, none⟩ = some (.int .u8 d0) ∧ w'.cell? ⟨g, 2, none⟩ = some (.int .u8 d1) ∧ w'.cell? ⟨g, 3, none⟩ = some (.int .u8 d2) ∧ w'.cell? ⟨g, 4, none⟩ = some (.int .u8 d3) ∧ w'.cell? ⟨g, 5, none⟩ = some (.int .u8 d4) ∧ w'.cell? ⟨g, 6, none⟩ = some (.int .u8 d5) ∧ w'.cell? ⟨g, 7, none⟩ = some (.int .u8 d6) ∧ w'.cell? ⟨g, 8, none⟩ = some (.int .u8 d7) ∧ w'.cell? ⟨g, 9, none⟩ = some (.int .i64 pr) ∧ w'.cell? ⟨g, 10, none⟩ = some (.bool st) ∧ w'.cell? ⟨g, 11, none⟩ = some (.int .i64 tk)) w') => (l01Value_ok B n cap zs d0 d1 d2 d3 d4 d5 d6 d7 ho hv (by omega) w' (hS.below h.1 hS.1)).mono fun e w'' ⟨he, hB⟩ => And.intro (show e = Ending.returned (.int .i64 (valL zs [d0, d1, d2, d3, d4, d5, d6, d7] n)) from he) (heldDev hR (h.1.trans (hB.mono h.1.size))))
  have HZ := hid (fun (w' : World) (h : Below w.heap.size w w') => l01Size_dev B n cap zs hn hv1 w' (hS.below h hS.1))
  have HC := hid (fun (w' : World) (h : Below w.heap.size w w') => (heldDev hR h).2)
  rw [hn] at HL
  have vb := valDev_bd hv ho
  have c9 := hR.cell 9
  simp only [List.getElem?_cons_zero, List.getElem?_cons_succ] at c9
  obtain ⟨v, hvv⟩ : ∃ v, valL zs [d0, d1, d2, d3, d4, d5, d6, d7] zs.length = v := ⟨_, rfl⟩
  obtain ⟨z, hz⟩ : ∃ z, szL zs = z := ⟨_, rfl⟩
  rw [hvv] at HL vb ⊢
  rw [← hn] at HL
  rw [hz] at HZ z1 z2 vb hp ⊢
  have dd0 : decide (pr < 0) = false := decide_eq_false (by omega)
  have t1 : IntKind.i64.wrap (pr - v) = pr - v := IntWalk.i64_in _ (by omega)
  have t2 : IntKind.i64.wrap (-(pr - v)) = -(pr - v) := IntWalk.i64_in _ (by omega)
  have tz : IntKind.i64.wrap (pr - v + z) = pr - v + z := IntWalk.i64_in _ (by omega)
  have ty : IntKind.i64.wrap (-(pr - v) + z) = -(pr - v) + z := IntWalk.i64_in _ (by omega)
  clear hS hn ho hv hv1 hvv hz hR
  unfold untX
  by_cases hx : -(pr - v) ≤ 0
  · rw [if_pos hx]
    have dx : decide (-(pr - v) ≤ 0) = true := decide_eq_true hx
    have dy : decide (v ≤ pr) = true := decide_eq_true (by omega)
    clear hx hp vb z1 z2
    go_enter Tryd.func80, Tryd.ntmps80
    go_wp2_with fail
    go_region_held3 (fun w' : World => Below w.heap.size w w' ∧ w'.cell? ⟨g, 0, none⟩ = some (.slice (some ⟨B, 0, none⟩) n cap) ∧ w'.cell? ⟨g, 1, none⟩ = some (.int .u8 d0) ∧ w'.cell? ⟨g, 2, none⟩ = some (.int .u8 d1) ∧ w'.cell? ⟨g, 3, none⟩ = some (.int .u8 d2) ∧ w'.cell? ⟨g, 4, none⟩ = some (.int .u8 d3) ∧ w'.cell? ⟨g, 5, none⟩ = some (.int .u8 d4) ∧ w'.cell? ⟨g, 6, none⟩ = some (.int .u8 d5) ∧ w'.cell? ⟨g, 7, none⟩ = some (.int .u8 d6) ∧ w'.cell? ⟨g, 8, none⟩ = some (.int .u8 d7) ∧ w'.cell? ⟨g, 9, none⟩ = some (.int .i64 pr) ∧ w'.cell? ⟨g, 10, none⟩ = some (.bool st) ∧ w'.cell? ⟨g, 11, none⟩ = some (.int .i64 tk)) (first | with_reducible assumption | with_reducible exact HS0.out)
      ((go_at_call 63; with_reducible refine (HL.out _ (by assumption)).mono ?_; rintro e v' ⟨rfl, hv⟩))
    obtain ⟨k0, k1, k2, k3, k4, k5, k6, k7, k8, k9, k10, k11⟩ := HC.out _ hv.1
    go_wp2_with fail
    refine (HZ.out _ hv.1).mono ?_
    rintro e w1 ⟨rfl, rfl⟩
    go_wp2_with fail
    go_ret
    exact ⟨rfl, hv.1⟩
  · rw [if_neg hx]
    have dx : decide (-(pr - v) ≤ 0) = false := decide_eq_false hx
    have dy : decide (v ≤ pr) = false := decide_eq_false (by omega)
    clear hx hp vb z1 z2
    go_enter Tryd.func80, Tryd.ntmps80
    go_wp2_with fail
    go_region_held3 (fun w' : World => Below w.heap.size w w' ∧ w'.cell? ⟨g, 0, none⟩ = some (.slice (some ⟨B, 0, none⟩) n cap) ∧ w'.cell? ⟨g, 1, none⟩ = some (.int .u8 d0) ∧ w'.cell? ⟨g, 2, none⟩ = some (.int .u8 d1) ∧ w'.cell? ⟨g, 3, none⟩ = some (.int .u8 d2) ∧ w'.cell? ⟨g, 4, none⟩ = some (.int .u8 d3) ∧ w'.cell? ⟨g, 5, none⟩ = some (.int .u8 d4) ∧ w'.cell? ⟨g, 6, none⟩ = some (.int .u8 d5) ∧ w'.cell? ⟨g, 7, none⟩ = some (.int .u8 d6) ∧ w'.cell? ⟨g, 8, none⟩ = some (.int .u8 d7) ∧ w'.cell? ⟨g, 9, none⟩ = some (.int .i64 pr) ∧ w'.cell? ⟨g, 10, none⟩ = some (.bool st) ∧ w'.cell? ⟨g, 11, none⟩ = some (.int .i64 tk)) (first | with_reducible assumption | with_reducible exact HS0.out)
      ((go_at_call 63; with_reducible refine (HL.out _ (by assumption)).mono ?_; rintro e v' ⟨rfl, hv⟩))
    go_wp2_with fail
    go_ret
    exact ⟨rfl, hv.1⟩
/-- how many pulses there are until a device stops, with a code -/
def puR (zs ds : List Int) (pr : Int) (st : Bool) (tk : Int) : Int × Int :=
  if okDev zs ds pr st tk then (if pr < 0 then (0, 6) else (if st then 0 else untX (pr - valL zs ds zs.length) (szL zs), 0)) else (0, 1)
theorem puR_no {zs ds : List Int} {pr : Int} {st : Bool} {tk : Int} (h : okDev zs ds pr st tk = false) : puR zs ds pr st tk = (0, 1) := by simp [puR, h]
theorem puR_none {zs ds : List Int} {pr : Int} {st : Bool} {tk : Int} (h : okDev zs ds pr st tk = true) (k : pr < 0) : puR zs ds pr st tk = (0, 6) := by rw [puR, if_pos h, if_pos k]
theorem puR_yes {zs ds : List Int} {pr : Int} {st : Bool} {tk : Int} (h : okDev zs ds pr st tk = true) (k : ¬ pr < 0) : puR zs ds pr st tk = (if st then 0 else untX (pr - valL zs ds zs.length) (szL zs), 0) := by rw [puR, if_pos h, if_neg k]
end Go.Proofs.YthifegbmpmialaaDoor

namespace Go.Proofs.YthifegbmpmialaaDoor
open Go

section
variable {F : Fence} {n : Nat} {P : Program} {ops : Array Oper} {Q : Exit → Act → World → Prop} {md : Region.Mode} {S : World → Prop}

/-- no operation of the region is a defer statement -/
def NoDefer (ops : Array Oper) : Prop := ∀ (j : Nat) (o : Oper), ops[j]? = some o → ∀ c, o.op ≠ .defer c

/-- in every world that meets S the operation yields v, changes nothing, and is about to make no call -/
structure Gives (P : Program) (ops : Array Oper) (S : World → Prop) (o : Oper) (v : Value) (a : Act) : Prop where
  wanted : Region.wanted o (yielded ops a.tmps) = true
  run : ∀ w, S w → (execOp a.eval o).run P w = .ok (.value v) w
  calm : ∀ w, o.about P w a.eval = none

theorem Gives.now {i : Nat} {o : Oper} {v : Value} {a : Act} {K : Act → World → Prop} {w : World} (hd : NoDefer ops) (hi : ops[i]? = some o) (hy : Gives P ops S o v a) (hS : S w) (h : K (a.put o.dst v) w) :
    wpOpIn F n P ops Q i K a w := by
  unfold wpOpIn
  simp only [hi, hy.wanted, if_true]
  unfold Oper.wpIn
  refine ⟨fun f hf => (by rw [hy.calm w] at hf; cases hf), ?_⟩
  rw [Oper.semAt_eq _ _ _ (hd i o hi), hy.run w hS]
  exact h

theorem Gives.same {o : Oper} {v : Value} {a a' : Act} (hy : Gives P ops S o v a) (he : execOp a'.eval o = execOp a.eval o)
    (hw : Region.wanted o (yielded ops a'.tmps) = Region.wanted o (yielded ops a.tmps)) (hb : ∀ w, o.about P w a'.eval = o.about P w a.eval) : Gives P ops S o v a' :=
  ⟨hw.trans hy.wanted, fun w hw' => by rw [he]; exact hy.run w hw', fun w => (hb w).trans (hy.calm w)⟩

/-- an operation that does not touch what the first one reads and writes does the same behind it -/
theorem Gives.past {j : Nat} {oi oj : Oper} {v : Value} (hd : NoDefer ops) (hj : ops[j]? = some oj) (hap : oi.apart ops oj = true)
    (hsi : ∀ cs b, oi.op ≠ .select cs b) (hsj : ∀ cs b, oj.op ≠ .select cs b) (hQ : ∀ c a w, Q (.panic c) (a.put oi.dst v) w → Q (.panic c) a w)
    {K : Act → World → Prop} {a : Act} {w : World} (hy : Gives P ops S oi v a) (h : wpOpIn F n P ops Q j K (a.put oi.dst v) w) :
    wpOpIn F n P ops Q j (fun a' w' => Gives P ops S oi v a' ∧ K (a'.put oi.dst v) w') a w := by
  obtain ⟨h1, h2, h3⟩ := Oper.apart_spec hap
  have keep : ∀ (a : Act), Gives P ops S oi v a → ∀ u, Gives P ops S oi v (a.put oj.dst u) := fun a hy u =>
    hy.same (execOp_put oi hsi a oj.dst u h3) (wanted_put oi a oj.dst u h3) (fun w => about_put oi w a oj.dst u h3)
  have keepD : ∀ d, Gives P ops S oi v { a with defers := d :: a.defers } := fun d => hy.same rfl rfl (fun _ => rfl)
  have hdj := hd j oj hj
  unfold wpOpIn at *
  simp only [hj] at *
  rw [wanted_put oj a oi.dst v h1, about_put oj w a oi.dst v h1] at h
  by_cases hw : Region.wanted oj (yielded ops a.tmps) = true
  · simp only [hw, if_true] at h ⊢
    unfold Oper.wpIn at *
    rw [about_put oj w a oi.dst v h1] at h
    refine ⟨h.1, ?_⟩
    have h := h.2
    rw [Oper.semAt_eq _ _ _ hdj, execOp_put oj hsj a oi.dst v h1] at h
    rw [Oper.semAt_eq _ _ _ hdj]
    revert h
    cases (execOp a.eval oj).run P w with
    | ok x w' =>
      intro h
      cases x with
      | value u => exact ⟨keep a hy u, by rw [← Act.put_comm a v u h2]; exact h⟩
      | skip => exact ⟨keep a hy _, by rw [← Act.put_comm a v undef h2]; exact h⟩
      | defer d =>
        refine ⟨keep _ (keepD d) _, ?_⟩
        rw [← Act.put_comm _ v undef h2, ← Act.put_defers]
        exact h
      | enter f args =>
        refine ⟨h.1, CallsIn.mono h.2 fun e w'' he => ?_⟩
        cases e with
        | returned u => exact ⟨keep a hy u, by rw [← Act.put_comm a v u h2]; exact he⟩
        | panicked c => exact hQ _ _ _ he
        | outgrown => exact he
      | row row args => exact ⟨h.1, RowsIn.mono h.2 fun u w'' he => ⟨keep a hy u, by rw [← Act.put_comm a v u h2]; exact he⟩⟩
      | round l f tmps assign body =>
        refine ⟨h.1, RoundIn.mono h.2 fun e w'' he => ?_⟩
        cases e with
        | returned u => exact ⟨keep a hy u, by rw [← Act.put_comm a v u h2]; exact he⟩
        | panicked c => exact hQ _ _ _ he
        | outgrown => exact he
      | _ => exact h
    | halt x w' =>
      intro h
      cases x with
      | panic u => exact hQ _ _ _ h
      | _ => exact h
  · simp only [hw] at h ⊢
    exact ⟨h.1, keep a hy _, by rw [← Act.put_comm a v undef h2]; exact h.2⟩

/-- whichever order is picked, S holding behind every operation that is carried out -/
def anyS (F : Fence) (n : Nat) (P : Program) (md : Region.Mode) (ops : Array Oper) (Q : Exit → Act → World → Prop) (S : World → Prop) : Nat → Array Bool → Act → World → Prop
  | 0, listed, a, w => Region.ready md ops listed = [] ∧ Q .normal a w
  | fuel + 1, listed, a, w => (Region.ready md ops listed = [] → Q .normal a w) ∧
    ∀ i ∈ Region.ready md ops listed, wpOpIn F n P ops Q i (fun a' w' => S w' ∧ anyS F n P md ops Q S fuel (listed.setIfInBounds i true) a' w') a w
theorem anyS_any : ∀ (fuel : Nat) (listed : Array Bool) (a : Act) (w : World), anyS F n P md ops Q S fuel listed a w → wpAnyIn F n P md ops Q fuel listed a w
  | 0, _, _, _, h => h
  | fuel + 1, _, _, _, h => ⟨h.1, fun i hi => wpOpIn_mono (fun a' w' h' => anyS_any fuel _ a' w' h'.2) (h.2 i hi)⟩

theorem anyS_first {i : Nat} {oi : Oper} {v : Value} (hd : NoDefer ops) (hi : ops[i]? = some oi) (hsel : ∀ (j : Nat) (o : Oper) cs b, ops[j]? = some o → o.op ≠ .select cs b)
    (hQ : ∀ c a w, Q (.panic c) (a.put oi.dst v) w → Q (.panic c) a w) : ∀ (fuel : Nat) (listed : Array Bool) (a : Act) (w : World),
      (∀ j oj, ops[j]? = some oj → j ≠ i → listed.getD j true = false → (∀ e ∈ oj.after, Region.binds md e = true → e.on ≠ i) → oi.apart ops oj = true) →
      i ∈ Region.ready md ops listed → Gives P ops S oi v a → S w → anyS F n P md ops Q S fuel (listed.setIfInBounds i true) (a.put oi.dst v) w → anyS F n P md ops Q S (fuel + 1) listed a w
  | 0, listed, a, w, _, hr, hy, hS, H => by
    refine ⟨fun h => (by rw [h] at hr; cases hr), fun j hj => ?_⟩
    by_cases hji : j = i
    · subst hji; exact hy.now hd hi hS ⟨hS, H⟩
    · have := ready_mono hj hji
      rw [H.1] at this
      cases this
  | fuel + 1, listed, a, w, hfree, hr, hy, hS, H => by
    refine ⟨fun h => (by rw [h] at hr; cases hr), fun j hj => ?_⟩
    by_cases hji : j = i
    · subst hji; exact hy.now hd hi hS ⟨hS, H⟩
    · obtain ⟨hjun, oj, hoj, hall⟩ := mem_ready.1 hj
      have hnot : ∀ e ∈ oj.after, Region.binds md e = true → e.on ≠ i := fun e he hb heq => by
        have q1 := hall e he hb
        have q0 := (mem_ready.1 hr).1
        rw [heq] at q1
        rcases Nat.lt_or_ge i listed.size with h' | h'
        · simp [h'] at q0 q1; rw [q0] at q1; cases q1
        · simp [Array.getElem?_eq_none h'] at q1
      have h2 := hy.past hd hoj (hfree j oj hoj hji hjun hnot) (fun cs b => hsel i oi cs b hi) (fun cs b => hsel j oj cs b hoj) hQ (H.2 j (ready_mono hj hji))
      refine wpOpIn_mono (fun a' w' h3 => ⟨h3.2.1, anyS_first hd hi hsel hQ fuel (listed.setIfInBounds j true) a' w' (fun k ok hk hki hun hno => ?_) (ready_mono hr (Ne.symm hji)) h3.1 h3.2.1 ?_⟩) h2
      · refine hfree k ok hk hki ?_ hno
        by_cases hjk : j = k
        · subst hjk; exact hjun
        · rw [getD_set_ne true hjk] at hun; exact hun
      · rw [Array.setIfInBounds_comm _ _ hji]
        exact h3.2.2

theorem anyS_take {i : Nat} {oi : Oper} {v : Value} {fuel : Nat} {listed : Array Bool} {a : Act} {w : World} (hd : NoDefer ops) (hi : ops[i]? = some oi)
    (hs : Region.noSelect ops = true) (hf : Region.free md ops listed i = true) (hr : (Region.ready md ops listed).contains i = true) (hQ : ∀ c a w, Q (.panic c) (a.put oi.dst v) w → Q (.panic c) a w)
    (hy : Gives P ops S oi v a) (hS : S w) (h : anyS F n P md ops Q S fuel (listed.setIfInBounds i true) (a.put oi.dst v) w) : anyS F n P md ops Q S (fuel + 1) listed a w :=
  anyS_first hd hi (Region.noSelect_spec hs) hQ fuel listed a w (Region.free_spec hi hf) (by simpa using hr) hy hS h
theorem anyS_takeD {i : Nat} (d : Option Nat) {oi : Oper} {v : Value} {fuel : Nat} {listed : Array Bool} {a : Act} {w : World} (hd : NoDefer ops) (hi : ops[i]? = some oi) (hdst : oi.dst = d)
    (hs : Region.noSelect ops = true) (hf : Region.free md ops listed i = true) (hr : (Region.ready md ops listed).contains i = true) (hQ : ∀ c a w, Q (.panic c) (a.put d v) w → Q (.panic c) a w)
    (hy : Gives P ops S oi v a) (hS : S w) (h : anyS F n P md ops Q S fuel (listed.setIfInBounds i true) (a.put d v) w) : anyS F n P md ops Q S (fuel + 1) listed a w := by
  subst hdst; exact anyS_take hd hi hs hf hr hQ hy hS h
/-- one operation alone may come up: a store, say -/
theorem anyS_one {i : Nat} {o : Oper} {fuel : Nat} {listed : Array Bool} {a : Act} {w w' : World} (hd : NoDefer ops) (hr : Region.ready md ops listed = [i]) (hi : ops[i]? = some o)
    (hw : Region.wanted o (yielded ops a.tmps) = true) (hc : o.about P w a.eval = none) (hrun : (execOp a.eval o).run P w = .ok .skip w') (hS : S w')
    (h : anyS F n P md ops Q S fuel (listed.setIfInBounds i true) (a.put o.dst undef) w') : anyS F n P md ops Q S (fuel + 1) listed a w :=
  ⟨fun h0 => (by rw [hr] at h0; cases h0), fun j hj => by
    rw [hr] at hj
    obtain rfl : j = i := by simpa using hj
    unfold wpOpIn
    simp only [hi, hw, if_true]
    unfold Oper.wpIn
    refine ⟨fun f hf => (by rw [hc] at hf; cases hf), ?_⟩
    rw [Oper.semAt_eq _ _ _ (hd j o hi), hrun]
    exact ⟨hS, h⟩⟩
theorem anyS_oneD {i : Nat} (d : Option Nat) {o : Oper} {fuel : Nat} {listed : Array Bool} {a : Act} {w w' : World} (hd : NoDefer ops) (hr : Region.ready md ops listed = [i]) (hi : ops[i]? = some o) (hdst : o.dst = d)
    (hw : Region.wanted o (yielded ops a.tmps) = true) (hc : o.about P w a.eval = none) (hrun : (execOp a.eval o).run P w = .ok .skip w') (hS : S w')
    (h : anyS F n P md ops Q S fuel (listed.setIfInBounds i true) (a.put d undef) w') : anyS F n P md ops Q S (fuel + 1) listed a w := by
  subst hdst; exact anyS_one hd hr hi hw hc hrun hS h
theorem anyS_done {listed : Array Bool} {a : Act} {w : World} (hr : Region.ready md ops listed = []) (h : Q .normal a w) : ∀ fuel, anyS F n P md ops Q S fuel listed a w
  | 0 => ⟨hr, h⟩
  | _ + 1 => ⟨fun _ => h, by rw [hr]; simp⟩
def noDeferB (ops : Array Oper) : Bool := ops.toList.all fun o => match o.op with | .defer _ => false | _ => true
theorem noDefer_of (h : noDeferB ops = true) : NoDefer ops := fun j o hj c he => by
  have := (List.all_eq_true.1 h) o (List.mem_of_getElem? (i := j) (by simpa using hj))
  rw [he] at this
  cases this
theorem region_held {id : Nat} {a : Act} {w : World} (hm : P.follows .mixedOrders = true) (hd : noDeferB ops = true) (h : NoDefer ops → anyS F n P .any ops Q S ops.size (Array.replicate ops.size false) a w.drew) : (Code.region id ops true).wpIn F n P Q a w :=
  wpIn_region_any hm (anyS_any _ _ _ _ (h (noDefer_of hd)))
end
end Go.Proofs.YthifegbmpmialaaDoor

namespace Go.Proofs.YthifegbmpmialaaDoor
open Go.RowKit Go.Shelf

theorem Row.set8 {w : World} {g : Nat} {e : TypeId} {xs : List Value} (h : Row w g e xs) (hl : xs.length = 8) (v0 v1 v2 v3 v4 v5 v6 v7 : Value) :
    Row ((((((((w.setCell ⟨g, 0, none⟩ v0).setCell ⟨g, 1, none⟩ v1).setCell ⟨g, 2, none⟩ v2).setCell ⟨g, 3, none⟩ v3).setCell ⟨g, 4, none⟩ v4).setCell ⟨g, 5, none⟩ v5).setCell ⟨g, 6, none⟩ v6).setCell ⟨g, 7, none⟩ v7) g e [v0, v1, v2, v3, v4, v5, v6, v7] := by
  have r := (((((((h.set 0 v0).set 1 v1).set 2 v2).set 3 v3).set 4 v4).set 5 v5).set 6 v6).set 7 v7
  match xs, hl with
  | [_, _, _, _, _, _, _, _], _ => exact r
theorem below_set8 {w w0 : World} {g n : Nat} (h : Below n w0 w) (hn : n ≤ g) (v0 v1 v2 v3 v4 v5 v6 v7 : Value) : Below n w0 ((((((((w.setCell ⟨g, 0, none⟩ v0).setCell ⟨g, 1, none⟩ v1).setCell ⟨g, 2, none⟩ v2).setCell ⟨g, 3, none⟩ v3).setCell ⟨g, 4, none⟩ v4).setCell ⟨g, 5, none⟩ v5).setCell ⟨g, 6, none⟩ v6).setCell ⟨g, 7, none⟩ v7) :=
  (((((((h.setCell (p := ⟨g, 0, none⟩) hn v0).setCell (p := ⟨g, 1, none⟩) hn v1).setCell (p := ⟨g, 2, none⟩) hn v2).setCell (p := ⟨g, 3, none⟩) hn v3).setCell (p := ⟨g, 4, none⟩) hn v4).setCell (p := ⟨g, 5, none⟩) hn v5).setCell (p := ⟨g, 6, none⟩) hn v6).setCell (p := ⟨g, 7, none⟩) hn v7
theorem heap_set8 {g : Nat} (w : World) (D : Nat) (hD : D ≠ g) (v0 v1 v2 v3 v4 v5 v6 v7 : Value) : ((((((((w.setCell ⟨g, 0, none⟩ v0).setCell ⟨g, 1, none⟩ v1).setCell ⟨g, 2, none⟩ v2).setCell ⟨g, 3, none⟩ v3).setCell ⟨g, 4, none⟩ v4).setCell ⟨g, 5, none⟩ v5).setCell ⟨g, 6, none⟩ v6).setCell ⟨g, 7, none⟩ v7).heap[D]? = w.heap[D]? := by
  rw [Below.heap_setCell _ _ _ _ hD, Below.heap_setCell _ _ _ _ hD, Below.heap_setCell _ _ _ _ hD, Below.heap_setCell _ _ _ _ hD, Below.heap_setCell _ _ _ _ hD, Below.heap_setCell _ _ _ _ hD, Below.heap_setCell _ _ _ _ hD, Below.heap_setCell _ _ _ _ hD]
end Go.Proofs.YthifegbmpmialaaDoor

namespace Go.Proofs.YthifegbmpmialaaDoor
open Go.RowKit Go.Shelf

attribute [local go_sem] Oper.semAt_some
theorem Row.kept {A B : World} {g : Nat} {e : TypeId} {xs : List Value} {row : Option Nat} (h : Row A g e xs) (hg : A.grownBy B row) (hr : ∀ r, row = some r → ∃ o : Obj, A.heap[r]? = some o ∧ o.isCells = false) : Row B g e xs :=
  (grownBy_keeps_cells hg hr h rfl).trans h

theorem digit_raw2 (v p z : Int) (hv : 0 ≤ v) (hv2 : v ≤ 1000000000000) (hp : 1 ≤ p) (hz : 2 ≤ z) (hz2 : z ≤ 100) :
    IntKind.u8.wrap ((IntKind.i64.wrap (v.tdiv p)).tmod z) = v / p % z := by
  have e1 : v.tdiv p = v / p := Int.tdiv_eq_ediv_of_nonneg hv
  have h0 : 0 ≤ v / p := Int.ediv_nonneg hv (by omega)
  have h1 : v / p ≤ v := Int.ediv_le_self _ hv
  rw [e1, IntWalk.i64_in (v / p) (by omega)]
  have e2 : (v / p).tmod z = v / p % z := Int.tmod_eq_emod_of_nonneg h0
  have h2 := Int.emod_nonneg (v / p) (show z ≠ 0 by omega)
  have h3 := Int.emod_lt_of_pos (v / p) (show 0 < z by omega)
  rw [e2]
  simp only [IntKind.wrap, IntKind.signed, IntKind.bits]
  simp
  omega

set_option maxRecDepth 100000 in
set_option maxHeartbeats 4000000 in
theorem digits_in (F : Fence) (m : Nat) (hf1 : F.fn 135) (hf2 : F.fn 99) (hf3 : F.fn 101) (hro : F.round = none) (hm : 3 ≤ m)
    (b n cap : Nat) (zs : List Int) (hn : n = zs.length) (h8 : n ≤ 8) (hin : inB zs n) (v : Int) (hv : 0 ≤ v) (hv2 : v ≤ 1000000000000) (w : World) (hS : Stk w b zs) :
    CallsIn F m Tryd.prog 135 #[.slice (some ⟨b, 0, none⟩) n cap, .int .i64 v] w fun e W' => e = .returned (.agg #[.int .u8 (dg (dgL zs v) 0), .int .u8 (dg (dgL zs v) 1), .int .u8 (dg (dgL zs v) 2), .int .u8 (dg (dgL zs v) 3), .int .u8 (dg (dgL zs v) 4), .int .u8 (dg (dgL zs v) 5), .int .u8 (dg (dgL zs v) 6), .int .u8 (dg (dgL zs v) 7)]) ∧ Below w.heap.size w W' := by
  have h1 : 1 ≤ m := by omega
  have hlt := hS.1
  have hC := hid hS.2.1
  have hI := hid hin
  have hN := hid hn
  clear hS hin hn
  refine callsIn_of_wp_marks Tryd.func135 rfl hf1 ?_ hro
  simp only [Tryd.ntmps135, List.size_toArray, List.length_cons, List.length_nil, Nat.reduceAdd, Nat.reduceSub, Array.replicate_succ, Array.replicate_zero, List.push_toArray, List.append_toArray, List.nil_append, List.cons_append]
  gi_wp2_with (gi_at_call 99; refine (places_in F (m - 1) hf2 hro _ _ _ _).mono ?_; rintro e w' ⟨rfl, rfl⟩)
  have rS := Row.new w 30 [.slice (some ⟨b, 0, none⟩) n cap]
  have rV := Row.new (w.alloc (.cells #[.slice (some ⟨b, 0, none⟩) n cap] 30)) 2 [.int .i64 v]
  have rR := Row.new ((w.alloc (.cells #[.slice (some ⟨b, 0, none⟩) n cap] 30)).alloc (.cells #[.int .i64 v] 2)) 31 zero8
  have rD := Row.new (((w.alloc (.cells #[.slice (some ⟨b, 0, none⟩) n cap] 30)).alloc (.cells #[.int .i64 v] 2)).alloc (.cells zero8.toArray 31)) 31 zero8
  have bN := Boxed.new ((((w.alloc (.cells #[.slice (some ⟨b, 0, none⟩) n cap] 30)).alloc (.cells #[.int .i64 v] 2)).alloc (.cells zero8.toArray 31)).alloc (.cells zero8.toArray 31)) 30 (.slice (some ⟨b, 0, none⟩) n cap)
  simp only [World.size_alloc] at rV rR rD bN
  have hB0 : Below w.heap.size w (((((w.alloc (.cells #[.slice (some ⟨b, 0, none⟩) n cap] 30)).alloc (.cells #[.int .i64 v] 2)).alloc (.cells zero8.toArray 31)).alloc (.cells zero8.toArray 31)).alloc (.cells #[.slice (some ⟨b, 0, none⟩) n cap] 30)) :=
    (((((Below.refl _ w).alloc (Nat.le_refl _) _).alloc (by simp) _).alloc (by simp; omega) _).alloc (by simp; omega) _).alloc (by simp; omega) _
  have rS' := hid ((((rS.alloc (.cells #[.int .i64 v] 2)).alloc (.cells zero8.toArray 31)).alloc (.cells zero8.toArray 31)).alloc (.cells #[.slice (some ⟨b, 0, none⟩) n cap] 30))
  have rV' := hid (((rV.alloc (.cells zero8.toArray 31)).alloc (.cells zero8.toArray 31)).alloc (.cells #[.slice (some ⟨b, 0, none⟩) n cap] 30))
  have rR' := hid ((rR.alloc (.cells zero8.toArray 31)).alloc (.cells #[.slice (some ⟨b, 0, none⟩) n cap] 30))
  have rD' := hid (rD.alloc (.cells #[.slice (some ⟨b, 0, none⟩) n cap] 30))
  clear rS rV rR rD
  refine wpIn_rangeFunc_ownG hro h1 (gf := 101) (lb := #[.pointer (some ⟨w.heap.size + 1 + 1 + 1 + 1, 0, none⟩)]) rfl hf3 (enters_of Tryd.func101 (by kernel_rfl) rfl)
    (places_stops F (m - 1) hf3 hro (by omega) (w.heap.size + 1 + 1 + 1 + 1) w.heap.size b n cap zs hN.out h8 hI.out _ (by simp) (by simp; omega) hlt bN.cell (fun j hj => (hB0.cell (p := ⟨b, j, none⟩) hlt).trans (hC.out j (by rw [← hN.out]; exact hj)))) belowK_t (belowK_b (by simp; omega)) (Below.refl _ _) (fun _ => rfl)
    (fun pre W => (Row W w.heap.size 30 [.slice (some ⟨b, 0, none⟩) n cap] ∧ Row W (w.heap.size + 1) 2 [.int .i64 v] ∧ Row W (w.heap.size + 1 + 1) 31 zero8 ∧ Row W (w.heap.size + 1 + 1 + 1) 31 (dfold zs v pre)) ∧ Below w.heap.size w W)
    (fun _ _ _ => False)
    (OwnFrom.and (Own.from (fun s A B row hs hg hr => ⟨hs.1.kept hg hr, hs.2.1.kept hg hr, hs.2.2.1.kept hg hr, hs.2.2.2.kept hg hr⟩) _) (ownFrom_below (Nat.le_refl _) (by simp; omega)))
    (fun _ _ _ _ _ hs _ _ => hs)
    ⟨⟨rS'.out, rV'.out, rR'.out, rD'.out⟩, hB0⟩
    (fun x => { tmps := #[.slice (some ⟨b, 0, none⟩) n cap, .int .i64 v, .pointer (some ⟨w.heap.size, 0, none⟩), .pointer (some ⟨w.heap.size + 1, 0, none⟩), .pointer (some ⟨w.heap.size + 1 + 1, 0, none⟩), .pointer (some ⟨w.heap.size + 1 + 1 + 1, 0, none⟩), .int .i64 (x.1 : Int), .int .i64 (szL (zs.take x.1)), .slice (some ⟨b, 0, none⟩) n cap, .func (.func 101) #[] #[.pointer (some ⟨w.heap.size + 1 + 1 + 1 + 1, 0, none⟩)], .int .i64 (x.1 : Int), .int .i64 (szL (zs.take x.1)), undef, undef, undef, undef, undef, undef, undef, undef, undef, undef, undef, undef, undef], defers := [] }) ?assign ?body ?done ?stop
  case assign =>
    intro l x W K hK
    gi_wp2
    exact hK
  case body =>
    rintro l pre x W ⟨⟨hs, hvv, hr, hd⟩, hB⟩ _
    have hk := x.2
    have hc0 := hs.cell 0
    have hc1 := hvv.cell 0
    have hc2 : W.cell? ⟨b, x.1, none⟩ = some (.int .u8 (zs[x.1]?.getD 0)) := (hB.cell (p := ⟨b, x.1, none⟩) hlt).trans (hC.out x.1 (by rw [← hN.out]; exact hk))
    obtain ⟨old, hc3⟩ : ∃ u, W.cell? ⟨w.heap.size + 1 + 1 + 1, x.1, none⟩ = some u := ⟨_, (hd.cell x.1).trans (List.getElem?_eq_getElem (by rw [dfold_len]; omega))⟩
    have hf3 := hd.frozen x.1
    have hset := hid (hd.set x.1 (.int .u8 (v / szL (zs.take x.1) % zs[x.1]?.getD 0)))
    rw [← dfold_snoc] at hset
    have hzb := hI.out x.1 hk
    obtain ⟨s1, s2, _, _⟩ := szL_step zs x.1 (by rw [← hN.out]; exact hk) (by rw [← hN.out]; exact h8) (fun j hj => hI.out j (by omega))
    have HS := hid hs; have HV := hid hvv; have HR := hid hr; have HD := hid hd
    clear hs hvv hr hd
    obtain ⟨z, hz⟩ : ∃ z, z = zs[x.1]?.getD 0 := ⟨_, rfl⟩
    obtain ⟨p, hp⟩ : ∃ p, p = szL (zs.take x.1) := ⟨_, rfl⟩
    rw [← hp, ← hz] at hset
    rw [← hz] at hc2 hzb
    rw [← hp] at s1 s2
    rw [← hp]
    clear hp hz
    have n1 : (p == 0) = false := by simp; omega
    have n3 : IntKind.i64.wrap z = z := IntWalk.i64_in z (by omega)
    have n4 : z ≠ 0 := by omega
    have n5 : p ≠ 0 := by omega
    have n6 : (x.1 : Int) < 8 := by omega
    simp only [List.getElem?_cons_zero] at hc0 hc1
    gi_wp2
    refine region_held (S := fun W' => W'.cell? ⟨w.heap.size, 0, none⟩ = some (.slice (some ⟨b, 0, none⟩) n cap) ∧ W'.cell? ⟨w.heap.size + 1, 0, none⟩ = some (.int .i64 v) ∧ W'.cell? ⟨b, x.1, none⟩ = some (.int .u8 z)) (by kernel_rfl) (by kernel_rfl) (fun hnd => ?_)
    have hS : (fun W' : World => W'.cell? ⟨w.heap.size, 0, none⟩ = some (.slice (some ⟨b, 0, none⟩) n cap) ∧ W'.cell? ⟨w.heap.size + 1, 0, none⟩ = some (.int .i64 v) ∧ W'.cell? ⟨b, x.1, none⟩ = some (.int .u8 z)) W.drew := ⟨hc0, hc1, hc2⟩
    refine anyS_takeD (some 12) (i := 0) (v := ?_) hnd rfl rfl (by kernel_rfl) (by kernel_rfl) (by kernel_rfl) (fun _ _ _ h => h) ⟨by rfl, ?_, fun _ => rfl⟩ hS ?_
    rotate_left
    · intro w' hw'
      obtain ⟨hw1, hw2, hw3⟩ := hw'
      go_simp
      try with_reducible rfl
    simp only [Act.put, List.setIfInBounds_toArray, List.set_cons_zero, List.set_cons_succ]
    refine anyS_takeD (some 13) (i := 1) (v := ?_) hnd rfl rfl (by kernel_rfl) (by kernel_rfl) (by kernel_rfl) (fun _ _ _ h => h) ⟨by rfl, ?_, fun _ => rfl⟩ hS ?_
    rotate_left
    · intro w' hw'
      obtain ⟨hw1, hw2, hw3⟩ := hw'
      go_simp
      try with_reducible rfl
    simp only [Act.put, List.setIfInBounds_toArray, List.set_cons_zero, List.set_cons_succ]
    refine anyS_takeD (some 14) (i := 2) (v := ?_) hnd rfl rfl (by kernel_rfl) (by kernel_rfl) (by kernel_rfl) (fun _ _ _ h => h) ⟨by rfl, ?_, fun _ => rfl⟩ hS ?_
    rotate_left
    · intro w' hw'
      obtain ⟨hw1, hw2, hw3⟩ := hw'
      go_simp
      try with_reducible rfl
    simp only [Act.put, List.setIfInBounds_toArray, List.set_cons_zero, List.set_cons_succ]
    refine anyS_takeD (some 15) (i := 3) (v := ?_) hnd rfl rfl (by kernel_rfl) (by kernel_rfl) (by kernel_rfl) (fun _ _ _ h => h) ⟨by rfl, ?_, fun _ => rfl⟩ hS ?_
    rotate_left
    · intro w' hw'
      obtain ⟨hw1, hw2, hw3⟩ := hw'
      go_simp
      try with_reducible rfl
    simp only [Act.put, List.setIfInBounds_toArray, List.set_cons_zero, List.set_cons_succ]
    refine anyS_takeD (some 16) (i := 4) (v := ?_) hnd rfl rfl (by kernel_rfl) (by kernel_rfl) (by kernel_rfl) (fun _ _ _ h => h) ⟨by rfl, ?_, fun _ => rfl⟩ hS ?_
    rotate_left
    · intro w' hw'
      obtain ⟨hw1, hw2, hw3⟩ := hw'
      go_simp
      try with_reducible rfl
    simp only [Act.put, List.setIfInBounds_toArray, List.set_cons_zero, List.set_cons_succ]
    refine anyS_takeD (some 17) (i := 5) (v := ?_) hnd rfl rfl (by kernel_rfl) (by kernel_rfl) (by kernel_rfl) (fun _ _ _ h => h) ⟨by rfl, ?_, fun _ => rfl⟩ hS ?_
    rotate_left
    · intro w' hw'
      obtain ⟨hw1, hw2, hw3⟩ := hw'
      go_simp
      try with_reducible rfl
    simp only [Act.put, List.setIfInBounds_toArray, List.set_cons_zero, List.set_cons_succ]
    refine anyS_takeD (some 18) (i := 6) (v := ?_) hnd rfl rfl (by kernel_rfl) (by kernel_rfl) (by kernel_rfl) (fun _ _ _ h => h) ⟨by rfl, ?_, fun _ => rfl⟩ hS ?_
    rotate_left
    · intro w' hw'
      obtain ⟨hw1, hw2, hw3⟩ := hw'
      go_simp
      try with_reducible rfl
    simp only [Act.put, List.setIfInBounds_toArray, List.set_cons_zero, List.set_cons_succ]
    refine anyS_takeD (some 19) (i := 7) (v := ?_) hnd rfl rfl (by kernel_rfl) (by kernel_rfl) (by kernel_rfl) (fun _ _ _ h => h) ⟨by rfl, ?_, fun _ => rfl⟩ hS ?_
    rotate_left
    · intro w' hw'
      obtain ⟨hw1, hw2, hw3⟩ := hw'
      go_simp
      try with_reducible rfl
    simp only [Act.put, List.setIfInBounds_toArray, List.set_cons_zero, List.set_cons_succ]
    refine anyS_takeD (some 20) (i := 8) (v := ?_) hnd rfl rfl (by kernel_rfl) (by kernel_rfl) (by kernel_rfl) (fun _ _ _ h => h) ⟨by rfl, ?_, fun _ => rfl⟩ hS ?_
    rotate_left
    · intro w' hw'
      obtain ⟨hw1, hw2, hw3⟩ := hw'
      go_simp
      try with_reducible rfl
    simp only [Act.put, List.setIfInBounds_toArray, List.set_cons_zero, List.set_cons_succ]
    refine anyS_takeD (some 21) (i := 9) (v := ?_) hnd rfl rfl (by kernel_rfl) (by kernel_rfl) (by kernel_rfl) (fun _ _ _ h => h) ⟨by rfl, ?_, fun _ => rfl⟩ hS ?_
    rotate_left
    · intro w' hw'
      obtain ⟨hw1, hw2, hw3⟩ := hw'
      go_simp
      try with_reducible rfl
    simp only [Act.put, List.setIfInBounds_toArray, List.set_cons_zero, List.set_cons_succ]
    refine anyS_takeD (some 22) (i := 10) (v := ?_) hnd rfl rfl (by kernel_rfl) (by kernel_rfl) (by kernel_rfl) (fun _ _ _ h => h) ⟨by rfl, ?_, fun _ => rfl⟩ hS ?_
    rotate_left
    · intro w' hw'
      obtain ⟨hw1, hw2, hw3⟩ := hw'
      go_simp
      try with_reducible rfl
    simp only [Act.put, List.setIfInBounds_toArray, List.set_cons_zero, List.set_cons_succ]
    refine anyS_takeD (some 23) (i := 11) (v := ?_) hnd rfl rfl (by kernel_rfl) (by kernel_rfl) (by kernel_rfl) (fun _ _ _ h => h) ⟨by rfl, ?_, fun _ => rfl⟩ hS ?_
    rotate_left
    · intro w' hw'
      obtain ⟨hw1, hw2, hw3⟩ := hw'
      go_simp
      try with_reducible rfl
    simp only [Act.put, List.setIfInBounds_toArray, List.set_cons_zero, List.set_cons_succ]
    have hc3' : W.drew.cell? ⟨w.heap.size + 1 + 1 + 1, x.1, none⟩ = some old := hc3
    have hf3' : W.drew.frozen? ⟨w.heap.size + 1 + 1 + 1, x.1, none⟩ = false := hf3
    have HQ2 : Hid (IntKind.u8.wrap ((IntKind.i64.wrap (v.tdiv p)).tmod z) = v / p % z) := hid (digit_raw2 v p z hv hv2 s1 (by omega) (by omega))
    refine anyS_oneD none (i := 12) (w' := W.drew.setCell ⟨w.heap.size + 1 + 1 + 1, x.1, none⟩ (.int .u8 (IntKind.u8.wrap ((IntKind.i64.wrap (v.tdiv p)).tmod z)))) hnd (by kernel_rfl) rfl rfl (by rfl) rfl ?_ ?_ (anyS_done (by kernel_rfl) ?_ _)
    · go_simp
    · exact ⟨(cell_far (by show w.heap.size ≠ w.heap.size + 1 + 1 + 1; omega)).trans hc0, (cell_far (by show w.heap.size + 1 ≠ w.heap.size + 1 + 1 + 1; omega)).trans hc1, (cell_far (by show b ≠ w.heap.size + 1 + 1 + 1; omega)).trans hc2⟩
    · rw [HQ2.out]
      exact ⟨((KeepsOthers.drew _).trans (KeepsOthers.setCell _ _ _)).from _, ((Below.refl w.heap.size W).drew).setCell (p := ⟨w.heap.size + 1 + 1 + 1, x.1, none⟩) (by show _ ≤ w.heap.size + 1 + 1 + 1; omega) _,
        ⟨HS.out.other (a := ⟨w.heap.size + 1 + 1 + 1, x.1, none⟩) (by show w.heap.size + 1 + 1 + 1 ≠ w.heap.size; omega) _, HV.out.other (a := ⟨w.heap.size + 1 + 1 + 1, x.1, none⟩) (by show w.heap.size + 1 + 1 + 1 ≠ w.heap.size + 1; omega) _, HR.out.other (a := ⟨w.heap.size + 1 + 1 + 1, x.1, none⟩) (by show w.heap.size + 1 + 1 + 1 ≠ w.heap.size + 1 + 1; omega) _, hset.out⟩, (hB.drew).setCell (p := ⟨w.heap.size + 1 + 1 + 1, x.1, none⟩) (by show _ ≤ w.heap.size + 1 + 1 + 1; omega) _⟩
  case done =>
    rintro D ys W hD rfl ⟨⟨hs, hvv, hr, hd⟩, hB⟩ hK
    rw [dfold_all zs v hN.out h8] at hd
    obtain ⟨a0, e0⟩ : ∃ a, a = dg (dgL zs v) 0 := ⟨_, rfl⟩
    obtain ⟨a1, e1⟩ : ∃ a, a = dg (dgL zs v) 1 := ⟨_, rfl⟩
    obtain ⟨a2, e2⟩ : ∃ a, a = dg (dgL zs v) 2 := ⟨_, rfl⟩
    obtain ⟨a3, e3⟩ : ∃ a, a = dg (dgL zs v) 3 := ⟨_, rfl⟩
    obtain ⟨a4, e4⟩ : ∃ a, a = dg (dgL zs v) 4 := ⟨_, rfl⟩
    obtain ⟨a5, e5⟩ : ∃ a, a = dg (dgL zs v) 5 := ⟨_, rfl⟩
    obtain ⟨a6, e6⟩ : ∃ a, a = dg (dgL zs v) 6 := ⟨_, rfl⟩
    obtain ⟨a7, e7⟩ : ∃ a, a = dg (dgL zs v) 7 := ⟨_, rfl⟩
    rw [← e0, ← e1, ← e2, ← e3, ← e4, ← e5, ← e6, ← e7] at hd
    replace e0 := hid e0
    replace e1 := hid e1
    replace e2 := hid e2
    replace e3 := hid e3
    replace e4 := hid e4
    replace e5 := hid e5
    replace e6 := hid e6
    replace e7 := hid e7
    have c0 := hd.cell 0; have c1 := hd.cell 1; have c2 := hd.cell 2; have c3 := hd.cell 3; have c4 := hd.cell 4; have c5 := hd.cell 5; have c6 := hd.cell 6; have c7 := hd.cell 7
    have k0 := hr.frozen 0; have k1 := hr.frozen 1; have k2 := hr.frozen 2; have k3 := hr.frozen 3; have k4 := hr.frozen 4; have k5 := hr.frozen 5; have k6 := hr.frozen 6; have k7 := hr.frozen 7
    have z0 := hr.cell 0; have z1 := hr.cell 1; have z2 := hr.cell 2; have z3 := hr.cell 3; have z4 := hr.cell 4; have z5 := hr.cell 5; have z6 := hr.cell 6; have z7 := hr.cell 7
    simp only [zero8, List.getElem?_cons_zero, List.getElem?_cons_succ] at c0 c1 c2 c3 c4 c5 c6 c7 z0 z1 z2 z3 z4 z5 z6 z7
    have r2 := hid (hr.set8 rfl (.int .u8 a0) (.int .u8 a1) (.int .u8 a2) (.int .u8 a3) (.int .u8 a4) (.int .u8 a5) (.int .u8 a6) (.int .u8 a7))
    have b2 := hid (below_set8 (g := w.heap.size + 1 + 1) hB (by omega) (.int .u8 a0) (.int .u8 a1) (.int .u8 a2) (.int .u8 a3) (.int .u8 a4) (.int .u8 a5) (.int .u8 a6) (.int .u8 a7))
    have hD2 : w.heap.size + 1 + 1 ≠ D := by simp at hD; omega
    have hD3 : w.heap.size ≤ D := by simp at hD; omega
    have hK2 := hid (heap_set8 (g := w.heap.size + 1 + 1) W D (Ne.symm hD2) (.int .u8 a0) (.int .u8 a1) (.int .u8 a2) (.int .u8 a3) (.int .u8 a4) (.int .u8 a5) (.int .u8 a6) (.int .u8 a7))
    rw [hK] at hK2
    clear hD hr hd hs hvv rS' rV' rR' rD' hB bN hB0
    gi_wp2
    clear c0 c1 c2 c3 c4 c5 c6 c7 k0 k1 k2 k3 k4 k5 k6 k7 z0 z1 z2 z3 z4 z5 z6 z7 hK
    obtain ⟨V, hV⟩ : ∃ V, V = ((((((((W.setCell ⟨w.heap.size + 1 + 1, 0, none⟩ (.int .u8 a0)).setCell ⟨w.heap.size + 1 + 1, 1, none⟩ (.int .u8 a1)).setCell ⟨w.heap.size + 1 + 1, 2, none⟩ (.int .u8 a2)).setCell ⟨w.heap.size + 1 + 1, 3, none⟩ (.int .u8 a3)).setCell ⟨w.heap.size + 1 + 1, 4, none⟩ (.int .u8 a4)).setCell ⟨w.heap.size + 1 + 1, 5, none⟩ (.int .u8 a5)).setCell ⟨w.heap.size + 1 + 1, 6, none⟩ (.int .u8 a6)).setCell ⟨w.heap.size + 1 + 1, 7, none⟩ (.int .u8 a7)) := ⟨_, rfl⟩
    rw [← hV] at r2 b2 hK2 ⊢
    clear hV
    have r2 := r2.out.kept (grownBy_putObj' V D (.deferred none)) (fun r e => by cases e; exact ⟨_, hK2.out, rfl⟩)
    have g0 := r2.cell 0; have g1 := r2.cell 1; have g2 := r2.cell 2; have g3 := r2.cell 3; have g4 := r2.cell 4; have g5 := r2.cell 5; have g6 := r2.cell 6; have g7 := r2.cell 7
    simp only [List.getElem?_cons_zero, List.getElem?_cons_succ] at g0 g1 g2 g3 g4 g5 g6 g7
    refine ⟨by simp, .inl ⟨_, _, rfl, run_takeDeferred hK2.out, ?_⟩⟩
    exact ⟨.agg #[.int .u8 a0, .int .u8 a1, .int .u8 a2, .int .u8 a3, .int .u8 a4, .int .u8 a5, .int .u8 a6, .int .u8 a7], by simp [results, Tryd.results135, go_sem, g0, g1, g2, g3, g4, g5, g6, g7], by rw [e0.out, e1.out, e2.out, e3.out, e4.out, e5.out, e6.out, e7.out], b2.out.trans (belowK_b (w := w) (Nat.le_refl _) V D _ _ hD3 hK2.out rfl rfl)⟩
  case stop =>
    rintro D c pre W _ _ h _
    exact h.elim
end Go.Proofs.YthifegbmpmialaaDoor

namespace Go.Proofs.YthifegbmpmialaaDoor
open Go.RowKit

def dofR (zs : List Int) (v : Int) : List Int × Int := if okL zs then (if 0 ≤ v ∧ v < szL zs then (dgL zs v, 0) else ([0, 0, 0, 0, 0, 0, 0, 0], 2)) else ([0, 0, 0, 0, 0, 0, 0, 0], 1)
theorem dofR_no {zs : List Int} (v : Int) (h : okL zs = false) : dofR zs v = ([0, 0, 0, 0, 0, 0, 0, 0], 1) := by simp [dofR, h]
theorem dofR_out {zs : List Int} (v : Int) (h : okL zs = true) (hk : ¬ (0 ≤ v ∧ v < szL zs)) : dofR zs v = ([0, 0, 0, 0, 0, 0, 0, 0], 2) := by simp only [dofR, h, if_true, if_neg hk]
theorem dofR_yes {zs : List Int} (v : Int) (h : okL zs = true) (hk : 0 ≤ v ∧ v < szL zs) : dofR zs v = (dgL zs v, 0) := by simp only [dofR, h, if_true, if_pos hk]
theorem digits_any (b n cap : Nat) (zs : List Int) (hn : n = zs.length) (hv : okL zs = true) (v : Int) (h0 : 0 ≤ v) (h2 : v ≤ 1000000000000) (w : World) (hS : Stk w b zs) :
    Calls Tryd.prog 135 #[.slice (some ⟨b, 0, none⟩) n cap, .int .i64 v] w fun e W' => e = .returned (.agg #[.int .u8 (dg (dgL zs v) 0), .int .u8 (dg (dgL zs v) 1), .int .u8 (dg (dgL zs v) 2), .int .u8 (dg (dgL zs v) 3), .int .u8 (dg (dgL zs v) 4), .int .u8 (dg (dgL zs v) 5), .int .u8 (dg (dgL zs v) 6), .int .u8 (dg (dgL zs v) 7)]) ∧ Below w.heap.size w W' := by
  obtain ⟨_, h8, hin, _, _⟩ := okL_out hv
  exact callsIn_wide.1 (digits_in Fence.wide 8 trivial trivial trivial rfl (by omega) b n cap zs hn (by omega) (by rw [hn]; exact hin) v h0 h2 w hS)

end Go.Proofs.YthifegbmpmialaaDoor

namespace Go.Proofs.YthifegbmpmialaaDoor
open Go.RowKit Go.ChangeShapes Go.WideShapes Go.ChangeAt
section
variable {H : Type} {enc : TypeId × Value → H} {P : Program} {W : World}
theorem open_act {r : Reach} {b0 : Nat} {t : TypeId} {f0 f1 : Field} {v : Value} {d : DataW H} {p : List MemPlace} (hs : P.underlying t = some (.struct #[f0, f1])) (hone : Go.Deep.oneCellFields P #[f0, f1] = true) (hC : P.cellsOf t = 2)
    (k0 : P.underlying f0.type = some (.int .i8)) (k1 : P.underlying f1.type = some (.int .i64))
    (hv : Value.okWide P W r b0 t v) (h : DataW.Trod enc P W 0 (fun _ => true) true t v d p) :
    ∃ x y : Int, v = .agg #[.int .i8 x, .int .i64 y] ∧ (-128 ≤ x ∧ x ≤ 127) ∧ I64 y := by
  obtain ⟨v0, v1, y0, y1, n, rfl, _, _, g0, g1⟩ := Go.Joins.open_agg2 hs hone hC hv h
  obtain ⟨z0, e0, _, w0⟩ := DataW.trod_int k0 g0
  obtain ⟨z1, e1, _, w1⟩ := DataW.trod_int k1 g1
  simp only [List.cons.injEq, and_true] at e0 e1
  subst e0 e1
  exact ⟨z0, z1, rfl, bounds_i8 w0, wf64 w1⟩
end
/-- an act that is valid -/
def okAct (k n : Int) : Bool :=
  if k = 1 ∨ k = 2 then decide (0 ≤ n) && decide (n ≤ 1000000000000) else if k = 3 then decide (-1 ≤ n) && decide (n ≤ 1000000000000) else if k = 4 ∨ k = 5 then decide (n = 0) else false
theorem okAct_count {k n : Int} (h : k = 1 ∨ k = 2) : okAct k n = (decide (0 ≤ n) && decide (n ≤ 1000000000000)) := if_pos h
theorem okAct_preset {n : Int} : okAct 3 n = (decide (-1 ≤ n) && decide (n ≤ 1000000000000)) := by rw [okAct, if_neg (by omega), if_pos rfl]
theorem okAct_plain {k n : Int} (h : k = 4 ∨ k = 5) : okAct k n = (n == 0) := by
  rw [okAct, if_neg (by omega), if_neg (by omega), if_pos h]
  by_cases e : n = 0
  · simp [e]
  · simp [e]
theorem okAct_none {k n : Int} (h1 : k ≠ 1) (h2 : k ≠ 2) (h3 : k ≠ 3) (h4 : k ≠ 4) (h5 : k ≠ 5) : okAct k n = false := by
  rw [okAct, if_neg (by omega), if_neg h3, if_neg (by omega)]
theorem isCount_any (n : Int) (w : World) : Calls Tryd.prog 89 #[.int .i64 n] w fun e w' => e = .returned (.bool (decide (0 ≤ n) && decide (n ≤ 1000000000000))) ∧ w = w' := by
  by_cases h : 0 ≤ n
  · have h1 : decide (0 ≤ n) = true := decide_eq_true h
    go_enter Tryd.func89, Tryd.ntmps89
    go_wp2
    go_ret
    exact ⟨by rw [h1]; rfl, rfl⟩
  · have h1 : decide (0 ≤ n) = false := decide_eq_false h
    go_enter Tryd.func89, Tryd.ntmps89
    go_wp2
    go_ret
    exact ⟨rfl, rfl⟩
theorem toAct_any (k n : Int) (w : World) : Calls Tryd.prog 12 #[.agg #[.int .i8 k, .int .i64 n]] w (GivesB w (.agg #[.int .i8 k, .int .i64 n])) := by
  go_enter Tryd.func12, Tryd.ntmps12
  go_wp2
  exact bodyPost_ret (v := .agg #[.int .i8 k, .int .i64 n]) (by simp [results, Tryd.results12, go_sem]) rfl ⟨rfl, (((Below.refl _ _).alloc (Nat.le_refl _) _).alloc (by simp) _).alloc (by simp; omega) _⟩
theorem eqAct_same (k n : Int) (w : World) : Calls Tryd.prog 54 #[.agg #[.int .i8 k, .int .i64 n], .agg #[.int .i8 k, .int .i64 n]] w (GivesB w (.bool true)) := by
  have n1 : (k != k) = false := by simp
  have n2 : (n != n) = false := by simp
  go_enter Tryd.func54, Tryd.ntmps54
  go_wp2
  go_ret
  exact ⟨rfl, ((Below.refl _ _).alloc (Nat.le_refl _) _).alloc (by simp) _⟩
set_option maxHeartbeats 2000000 in
theorem l07Act_any (k n : Int) (w : World) : Calls Tryd.prog 42 #[.agg #[.int .i8 k, .int .i64 n]] w (GivesB w (.bool (okAct k n))) := by
  by_cases h1 : k = 1
  · subst h1
    rw [okAct_count (by omega)]
    go_enter Tryd.func42, Tryd.ntmps42
    go_wp2_with fail
    refine (inr_any _ _ _ _).mono ?_
    rintro e w1 ⟨rfl, rfl⟩
    go_wp2_with fail
    go_ret
    exact ⟨rfl, box2_bel _ _ _ _⟩
  have d1 : (k == 1) = false := by simp [h1]
  by_cases h2 : k = 2
  · subst h2
    rw [okAct_count (by omega)]
    go_enter Tryd.func42, Tryd.ntmps42
    go_wp2_with fail
    refine (inr_any _ _ _ _).mono ?_
    rintro e w1 ⟨rfl, rfl⟩
    go_wp2_with fail
    go_ret
    exact ⟨rfl, box2_bel _ _ _ _⟩
  have d2 : (k == 2) = false := by simp [h2]
  by_cases h3 : k = 3
  · subst h3
    rw [okAct_preset]
    go_enter Tryd.func42, Tryd.ntmps42
    go_wp2_with fail
    refine (inr_any _ _ _ _).mono ?_
    rintro e w1 ⟨rfl, rfl⟩
    go_wp2_with fail
    go_ret
    exact ⟨rfl, box2_bel _ _ _ _⟩
  have d3 : (k == 3) = false := by simp [h3]
  by_cases h4 : k = 4
  · subst h4
    rw [okAct_plain (by omega)]
    go_enter Tryd.func42, Tryd.ntmps42
    go_wp2_with fail
    go_ret
    exact ⟨rfl, box2_bel _ _ _ _⟩
  have d4 : (k == 4) = false := by simp [h4]
  by_cases h5 : k = 5
  · subst h5
    rw [okAct_plain (by omega)]
    go_enter Tryd.func42, Tryd.ntmps42
    go_wp2_with fail
    go_ret
    exact ⟨rfl, box2_bel _ _ _ _⟩
  have d5 : (k == 5) = false := by simp [h5]
  rw [okAct_none h1 h2 h3 h4 h5]
  clear h1 h2 h3 h4 h5
  go_enter Tryd.func42, Tryd.ntmps42
  go_wp2_with fail
  go_ret
  exact ⟨rfl, box2_bel _ _ _ _⟩
set_option maxHeartbeats 2000000 in
theorem implValidAct_any (k n : Int) (w : World) : Calls Tryd.prog 75 #[.agg #[.int .i8 k, .int .i64 n]] w (GivesB w (.bool (okAct k n))) := by
  by_cases h1 : k = 1
  · subst h1
    rw [okAct_count (by omega)]
    go_enter Tryd.func75, Tryd.ntmps75
    go_wp2_with fail
    refine (isCount_any _ _).mono ?_
    rintro e w1 ⟨rfl, rfl⟩
    go_wp2_with fail
    go_ret
    exact ⟨rfl, box2_bel _ _ _ _⟩
  have d1 : (k == 1) = false := by simp [h1]
  by_cases h2 : k = 2
  · subst h2
    rw [okAct_count (by omega)]
    go_enter Tryd.func75, Tryd.ntmps75
    go_wp2_with fail
    refine (isCount_any _ _).mono ?_
    rintro e w1 ⟨rfl, rfl⟩
    go_wp2_with fail
    go_ret
    exact ⟨rfl, box2_bel _ _ _ _⟩
  have d2 : (k == 2) = false := by simp [h2]
  by_cases h3 : k = 3
  · subst h3
    rw [okAct_preset]
    by_cases hp : n = -1
    · subst hp
      go_enter Tryd.func75, Tryd.ntmps75
      go_wp2_with fail
      go_ret
      exact ⟨rfl, box2_bel _ _ _ _⟩
    · have dp : (n == -1) = false := by simp [hp]
      have e0 : (decide (-1 ≤ n) && decide (n ≤ 1000000000000)) = (decide (0 ≤ n) && decide (n ≤ 1000000000000)) := by
        by_cases h : 0 ≤ n
        · rw [decide_eq_true h, decide_eq_true (show -1 ≤ n by omega)]
        · rw [decide_eq_false h, decide_eq_false (show ¬ -1 ≤ n by omega)]
      rw [e0]
      clear e0
      go_enter Tryd.func75, Tryd.ntmps75
      go_wp2_with fail
      refine (isCount_any _ _).mono ?_
      rintro e w1 ⟨rfl, rfl⟩
      go_wp2_with fail
      go_ret
      exact ⟨rfl, box2_bel _ _ _ _⟩
  have d3 : (k == 3) = false := by simp [h3]
  by_cases h4 : k = 4
  · subst h4
    rw [okAct_plain (by omega)]
    go_enter Tryd.func75, Tryd.ntmps75
    go_wp2_with fail
    go_ret
    exact ⟨rfl, box2_bel _ _ _ _⟩
  have d4 : (k == 4) = false := by simp [h4]
  by_cases h5 : k = 5
  · subst h5
    rw [okAct_plain (by omega)]
    go_enter Tryd.func75, Tryd.ntmps75
    go_wp2_with fail
    go_ret
    exact ⟨rfl, box2_bel _ _ _ _⟩
  have d5 : (k == 5) = false := by simp [h5]
  rw [okAct_none h1 h2 h3 h4 h5]
  clear h1 h2 h3 h4 h5
  go_enter Tryd.func75, Tryd.ntmps75
  go_wp2_with fail
  go_ret
  exact ⟨rfl, box2_bel _ _ _ _⟩
end Go.Proofs.YthifegbmpmialaaDoor

namespace Go.Proofs.YthifegbmpmialaaDoor
open Go.RowKit
set_option linter.unusedVariables false
def ak (js : List (Int × Int)) (j : Nat) : Int := (js[j]?.getD (0, 0)).1
def an (js : List (Int × Int)) (j : Nat) : Int := (js[j]?.getD (0, 0)).2
def Ast (w : World) (b : Nat) (js : List (Int × Int)) : Prop :=
  b < w.heap.size ∧ (∀ j, j < js.length → w.cell? ⟨b, j * 2, none⟩ = some (.int .i8 (ak js j)) ∧ w.cell? ⟨b, j * 2 + 1, none⟩ = some (.int .i64 (an js j))) ∧ js.length ≤ 1048576
theorem Ast.below {w w' : World} {b n : Nat} {js : List (Int × Int)} (h : Ast w b js) (hb : Below n w w') (hn : b < n) : Ast w' b js :=
  ⟨Nat.lt_of_lt_of_le h.1 hb.size, fun j hj => ⟨(hb.cell (p := ⟨b, j * 2, none⟩) hn).trans (h.2.1 j hj).1, (hb.cell (p := ⟨b, j * 2 + 1, none⟩) hn).trans (h.2.1 j hj).2⟩, h.2.2⟩
theorem eqActs_same (b1 b2 n c1 c2 : Nat) (js : List (Int × Int)) (w : World) (h1 : Ast w b1 js) (h2 : Ast w b2 js) (hn : n = js.length) :
    Calls Tryd.prog 21 #[.slice (some ⟨b1, 0, none⟩) n c1, .slice (some ⟨b2, 0, none⟩) n c2] w fun e w' => e = .returned (.bool true) ∧ Below w.heap.size w w' := by
  have hl := h1.2.2
  have hC1 := hid h1.2.1
  have hC2 := hid h2.2.1
  have hb1 := h1.1
  have hb2 := h2.1
  have hN := hid hn
  rw [← hn] at hl
  clear h1 h2 hn
  have hne : ((n : Int) != (n : Int)) = false := by simp
  go_enter Tryd.func21, Tryd.ntmps21
  go_wp2
  go_loopw [5] (fun i wr => ∃ k : Nat, k ≤ n ∧ i = .int .i64 k ∧ Below w.heap.size w wr) (fun i _ => n - (intOf i).toNat)
  case atStart => exact ⟨0, Nat.zero_le _, rfl, Below.refl _ _⟩
  case round =>
    obtain ⟨k, hk, rfl, hB⟩ := hrel
    by_cases hlt : k < n
    · have x1 := (hB.cell (p := ⟨b1, k * 2, none⟩) hb1).trans (hC1.out k (by rw [← hN.out]; exact hlt)).1
      have x2 := (hB.cell (p := ⟨b1, k * 2 + 1, none⟩) hb1).trans (hC1.out k (by rw [← hN.out]; exact hlt)).2
      have y1 := (hB.cell (p := ⟨b2, k * 2, none⟩) hb2).trans (hC2.out k (by rw [← hN.out]; exact hlt)).1
      have y2 := (hB.cell (p := ⟨b2, k * 2 + 1, none⟩) hb2).trans (hC2.out k (by rw [← hN.out]; exact hlt)).2
      have hlt' : (k : Int) < (n : Int) := by omega
      have hk0 : (0 : Int) ≤ (k : Int) := by omega
      have hzr := hB.size
      obtain ⟨x, hx⟩ : ∃ x, x = ak js k := ⟨_, rfl⟩
      obtain ⟨y, hy⟩ : ∃ y, y = an js k := ⟨_, rfl⟩
      rw [← hx] at x1 y1
      rw [← hy] at x2 y2
      clear hx hy
      go_wp2_with fail
      go_region_held3 (fun w' => w'.cell? ⟨b1, k * 2, none⟩ = some (.int .i8 x) ∧ w'.cell? ⟨b1, k * 2 + 1, none⟩ = some (.int .i64 y) ∧ w'.cell? ⟨b2, k * 2, none⟩ = some (.int .i8 x) ∧ w'.cell? ⟨b2, k * 2 + 1, none⟩ = some (.int .i64 y)) (first | exact hq | exact ⟨x1, x2, y1, y2⟩) ((go_at_call 54; have hX := eqAct_same x y wr.drew; refine hX.mono ?_; clear hX; rintro e w1 ⟨rfl, hB1⟩; have hq := And.intro ((hB1.cell (p := ⟨b1, k * 2, none⟩) (Nat.lt_of_lt_of_le hb1 hzr)).trans x1) (And.intro ((hB1.cell (p := ⟨b1, k * 2 + 1, none⟩) (Nat.lt_of_lt_of_le hb1 hzr)).trans x2) (And.intro ((hB1.cell (p := ⟨b2, k * 2, none⟩) (Nat.lt_of_lt_of_le hb2 hzr)).trans y1) ((hB1.cell (p := ⟨b2, k * 2 + 1, none⟩) (Nat.lt_of_lt_of_le hb2 hzr)).trans y2)))))
      go_wp2_with fail
      all_goals go_roundw
      case rel => exact ⟨k + 1, by omega, by go_num, hB.trans ((Below.refl wr.heap.size wr).drew.mono hzr |>.trans (hB1.mono hzr))⟩
      case measure => simp [intOf]; omega
    · obtain rfl : k = n := by omega
      go_wp2_with fail
      go_ret
      exact ⟨rfl, hB⟩

end Go.Proofs.YthifegbmpmialaaDoor

namespace Go.Proofs.YthifegbmpmialaaDoor
open Go.RowKit
set_option linter.unusedVariables false
set_option linter.unusedSimpArgs false
theorem okAct_kind {k n : Int} (h : okAct k n = true) : k = 1 ∨ k = 2 ∨ k = 3 ∨ k = 4 ∨ k = 5 := by
  by_cases h1 : k = 1
  · omega
  by_cases h2 : k = 2
  · omega
  by_cases h3 : k = 3
  · omega
  by_cases h4 : k = 4
  · omega
  by_cases h5 : k = 5
  · omega
  rw [okAct_none h1 h2 h3 h4 h5] at h
  cases h
theorem okAct_bd {k n : Int} (h : okAct k n = true) : -1 ≤ n ∧ n ≤ 1000000000000 ∧ (k ≠ 3 → 0 ≤ n) ∧ (4 ≤ k → n = 0) := by
  rcases okAct_kind h with rfl | rfl | rfl | rfl | rfl
  · rw [okAct_count (by omega)] at h; simp at h; omega
  · rw [okAct_count (by omega)] at h; simp at h; omega
  · rw [okAct_preset] at h; simp at h; omega
  · rw [okAct_plain (by omega)] at h; simp at h; omega
  · rw [okAct_plain (by omega)] at h; simp at h; omega
def okATo (js : List (Int × Int)) (k : Nat) : Prop := ∀ j, j < k → okAct (ak js j) (an js j) = true
def okAs (js : List (Int × Int)) : Bool := (List.range js.length).all fun j => okAct (ak js j) (an js j)
theorem okAs_out {js : List (Int × Int)} (h : okAs js = true) : okATo js js.length := fun j hj => by
  simp only [okAs, List.all_eq_true, List.mem_range] at h
  exact h j hj
theorem okAs_of {js : List (Int × Int)} (h : okATo js js.length) : okAs js = true := by
  simp only [okAs, List.all_eq_true, List.mem_range]
  exact fun j hj => h j hj
theorem okAs_bad {js : List (Int × Int)} (k : Nat) (hk : k < js.length) (h : okAct (ak js k) (an js k) = false) : okAs js = false := by
  cases e : okAs js with
  | false => rfl
  | true => have := okAs_out e k hk; rw [h] at this; cases this
theorem okATo_zero (js : List (Int × Int)) : okATo js 0 := fun j hj => by omega
theorem okATo_succ {js : List (Int × Int)} {k : Nat} (h : okATo js k) (e : okAct (ak js k) (an js k) = true) : okATo js (k + 1) := fun j hj => by
  by_cases he : j = k
  · subst he; exact e
  · exact h j (by omega)
theorem isBad_any (k n : Int) (w : World) : Calls Tryd.prog 83 #[.agg #[.int .i8 k, .int .i64 n]] w (GivesB w (.bool (!okAct k n))) := by
  have bB : Below w.heap.size w (w.alloc (.cells #[.int .i8 k, .int .i64 n] 37)) := (Below.refl _ _).alloc (Nat.le_refl _) _
  have HV := hid (implValidAct_any k n (w.alloc (.cells #[.int .i8 k, .int .i64 n] 37)))
  obtain ⟨x, hx⟩ : ∃ x, okAct k n = x := ⟨_, rfl⟩
  rw [hx] at HV ⊢
  have BB := hid bB
  clear hx bB
  go_enter Tryd.func83, Tryd.ntmps83
  go_wp2_with (go_at_call 75; refine HV.out.mono ?_; rintro e w1 ⟨rfl, hB1⟩)
  go_ret
  exact ⟨rfl, BB.out.trans (hB1.mono BB.out.size)⟩
set_option maxRecDepth 100000 in
set_option maxHeartbeats 4000000 in
theorem indexAct_any (b n cap : Nat) (js : List (Int × Int)) (w : World) (hA : Ast w b js) (hn : n = js.length) :
    Calls Tryd.prog 97 #[.slice (some ⟨b, 0, none⟩) n cap, .func (Fn.func 83) #[] #[]] w fun e w' => (∃ x : Int, e = .returned (.int .i64 x) ∧ ((okAs js = true ∧ x = -1) ∨ (okAs js = false ∧ 0 ≤ x ∧ x ≤ 1048576))) ∧ Below w.heap.size w w' := by
  have hl := hA.2.2
  rw [← hn] at hl
  have HA := hid hA; have HN := hid hn
  clear hA hn
  go_enter Tryd.func97, Tryd.ntmps97
  go_wp2_with fail
  go_loopw [8] (fun i wr => ∃ k : Nat, k ≤ n ∧ i = .int .i64 k ∧ okATo js k ∧ Below w.heap.size w wr) (fun i _ => n - (intOf i).toNat)
  case atStart => exact ⟨0, Nat.zero_le _, rfl, okATo_zero js, Below.refl _ _⟩
  case round =>
    obtain ⟨k, hk, rfl, hto, hB⟩ := hrel
    have hzr := hB.size
    by_cases hkn : k < n
    · have hkl : k < js.length := by have := HN.out; omega
      obtain ⟨x0, x1⟩ := (HA.out.below hB HA.out.1).2.1 k hkl
      have HTO := hid hto
      have HBD := hid (fun h => okAs_bad (js := js) k hkl h)
      have HST := hid (fun h => okATo_succ (js := js) (k := k) HTO.out h)
      have HF := hid (isBad_any (ak js k) (an js k) wr)
      obtain ⟨r, hr⟩ : ∃ r, okAct (ak js k) (an js k) = r := ⟨_, rfl⟩
      rw [hr] at HF HBD HST
      obtain ⟨p, hp⟩ : ∃ y, ak js k = y := ⟨_, rfl⟩
      obtain ⟨q, hq⟩ : ∃ y, an js k = y := ⟨_, rfl⟩
      rw [hp] at x0 HF
      rw [hq] at x1 HF
      have k0 : (0 : Int) ≤ (k : Int) := by omega
      have k1 : (k : Int) < (n : Int) := by omega
      have w1' : IntKind.i64.wrap ((k : Int) + 1) = (k : Int) + 1 := IntWalk.i64_in _ (by omega)
      have HB := hid hB
      clear hr hp hq hto hB
      cases r
      · go_wp2_with fail
        refine HF.out.mono ?_
        rintro e w1 ⟨rfl, hB1⟩
        go_wp2_with fail
        go_ret
        exact ⟨⟨_, rfl, .inr ⟨HBD.out (by simp), by omega, by omega⟩⟩, HB.out.trans (hB1.mono hzr)⟩
      · go_wp2_with fail
        refine HF.out.mono ?_
        rintro e w1 ⟨rfl, hB1⟩
        have HB1 := hid (HB.out.trans (hB1.mono hzr))
        clear hB1
        go_wp2_with fail
        go_roundw
        case rel => exact ⟨k + 1, by omega, by go_num, HST.out (by simp), HB1.out⟩
        case measure => simp [intOf]; omega
    · obtain rfl : k = n := by omega
      have k1 : ¬ (k : Int) < (k : Int) := by omega
      have HO := hid (okAs_of (js := js) (by rw [← HN.out]; exact hto))
      clear hto
      go_wp2_with fail
      go_ret
      exact ⟨⟨_, rfl, .inl ⟨HO.out, rfl⟩⟩, hB⟩
set_option maxRecDepth 100000 in
set_option maxHeartbeats 4000000 in
theorem containsAct_any (b n cap : Nat) (js : List (Int × Int)) (w : World) (hA : Ast w b js) (hn : n = js.length) :
    Calls Tryd.prog 82 #[.slice (some ⟨b, 0, none⟩) n cap, .func (Fn.func 83) #[] #[]] w (GivesB w (.bool (!okAs js))) := by
  have HI := hid (indexAct_any b n cap js w hA hn)
  clear hA hn
  go_enter Tryd.func82, Tryd.ntmps82
  go_wp2_with fail
  refine HI.out.mono ?_
  rintro e w1 ⟨⟨x, rfl, hx⟩, hB1⟩
  rcases hx with ⟨h1, rfl⟩ | ⟨h1, h2, h3⟩
  · go_wp2_with fail
    go_ret
    exact ⟨by rw [h1]; rfl, hB1⟩
  · go_wp2_with fail
    go_ret
    exact ⟨by rw [h1]; rfl, hB1⟩
/-- acts that are not refused -/
theorem actsErr_ok (b n cap : Nat) (js : List (Int × Int)) (w : World) (hA : Ast w b js) (hn : n = js.length) (hv : okAs js = true) (h60 : n ≤ 60) :
    Calls Tryd.prog 67 #[.slice (some ⟨b, 0, none⟩) n cap] w (GivesB w .nilIface) := by
  have HC := hid (containsAct_any b n cap js w hA hn)
  rw [hv] at HC
  have hg : (n : Int) ≤ 60 := by omega
  clear hA hn hv
  go_enter Tryd.func67, Tryd.ntmps67
  go_wp2_with fail
  refine HC.out.mono ?_
  rintro e w1 ⟨rfl, hB1⟩
  go_wp2_with fail
  go_ret
  exact ⟨rfl, hB1⟩
theorem actsErr_bad (b n cap : Nat) (js : List (Int × Int)) (w : World) (hA : Ast w b js) (hn : n = js.length) (hv : okAs js = false) (E0 : Value) (hE : w.cell? ⟨0, 0, none⟩ = some E0) (hlt : 0 < w.heap.size) :
    Calls Tryd.prog 67 #[.slice (some ⟨b, 0, none⟩) n cap] w (GivesB w E0) := by
  have HC := hid (containsAct_any b n cap js w hA hn)
  rw [hv] at HC
  have HE := hid hE
  clear hA hn hv hE
  go_enter Tryd.func67, Tryd.ntmps67
  go_wp2_with fail
  refine HC.out.mono ?_
  rintro e w1 ⟨rfl, hB1⟩
  have c := (hB1.cell (p := ⟨0, 0, none⟩) hlt).trans HE.out
  go_wp2_with fail
  go_ret
  exact ⟨rfl, hB1⟩
theorem actsErr_long (b n cap : Nat) (js : List (Int × Int)) (w : World) (hA : Ast w b js) (hn : n = js.length) (hv : okAs js = true) (h60 : 60 < n) (E1 : Value) (hE : w.cell? ⟨2, 0, none⟩ = some E1) (hlt : 2 < w.heap.size) :
    Calls Tryd.prog 67 #[.slice (some ⟨b, 0, none⟩) n cap] w (GivesB w E1) := by
  have HC := hid (containsAct_any b n cap js w hA hn)
  rw [hv] at HC
  have HE := hid hE
  have hg : (60 : Int) < (n : Int) := by omega
  clear hA hn hv hE
  go_enter Tryd.func67, Tryd.ntmps67
  go_wp2_with fail
  refine HC.out.mono ?_
  rintro e w1 ⟨rfl, hB1⟩
  have c := (hB1.cell (p := ⟨2, 0, none⟩) hlt).trans HE.out
  go_wp2_with fail
  go_ret
  exact ⟨rfl, hB1⟩
/-- what a valid act does, as a value -/
def deedV (k n : Int) : Value := if k = 1 then .iface 154 (.agg #[.int .i64 n, .int .i64 1]) else if k = 2 then .iface 154 (.agg #[.int .i64 n, .int .i64 (-1)]) else if k = 3 then .iface 155 (.int .i64 n) else if k = 4 then .iface 157 (.agg #[]) else .iface 158 (.agg #[])
theorem act_onward (k n : Int) (w : World) : Calls Tryd.prog 90 #[.agg #[.int .i8 k, .int .i64 n]] w (GivesB w (.iface 154 (.agg #[.int .i64 n, .int .i64 1]))) := by
  go_enter Tryd.func90, Tryd.ntmps90
  go_wp2_with fail
  go_ret
  exact ⟨rfl, (Below.refl _ _).alloc (Nat.le_refl _) _⟩
theorem act_backward (k n : Int) (w : World) : Calls Tryd.prog 91 #[.agg #[.int .i8 k, .int .i64 n]] w (GivesB w (.iface 154 (.agg #[.int .i64 n, .int .i64 (-1)]))) := by
  go_enter Tryd.func91, Tryd.ntmps91
  go_wp2_with fail
  go_ret
  exact ⟨rfl, (Below.refl _ _).alloc (Nat.le_refl _) _⟩
theorem act_preset (k n : Int) (w : World) : Calls Tryd.prog 92 #[.agg #[.int .i8 k, .int .i64 n]] w (GivesB w (.iface 155 (.int .i64 n))) := by
  go_enter Tryd.func92, Tryd.ntmps92
  go_wp2_with fail
  go_ret
  exact ⟨rfl, (Below.refl _ _).alloc (Nat.le_refl _) _⟩
theorem act_reset (k n : Int) (w : World) : Calls Tryd.prog 93 #[.agg #[.int .i8 k, .int .i64 n]] w (GivesB w (.iface 157 (.agg #[]))) := by
  go_enter Tryd.func93, Tryd.ntmps93
  go_wp2_with fail
  go_ret
  exact ⟨rfl, (Below.refl _ _).alloc (Nat.le_refl _) _⟩
theorem act_ticket (k n : Int) (w : World) : Calls Tryd.prog 94 #[.agg #[.int .i8 k, .int .i64 n]] w (GivesB w (.iface 158 (.agg #[]))) := by
  go_enter Tryd.func94, Tryd.ntmps94
  go_wp2_with fail
  go_ret
  exact ⟨rfl, (Below.refl _ _).alloc (Nat.le_refl _) _⟩
set_option maxRecDepth 100000 in
set_option maxHeartbeats 4000000 in
theorem deed_1 (n : Int) (w : World) : Calls Tryd.prog 76 #[.agg #[.int .i8 1, .int .i64 n]] w (GivesB w (deedV 1 n)) := by
  have bel : ∀ o1 o2, Below w.heap.size w ((w.alloc o1).alloc o2) := fun o1 o2 => ((Below.refl _ _).alloc (Nat.le_refl _) _).alloc (by simp) _
  have HF := hid (fun W => act_onward 1 n W)
  go_enter Tryd.func76, Tryd.ntmps76
  go_wp2_with fail
  refine (HF.out _).mono ?_
  rintro e w1 ⟨rfl, hB1⟩
  simp only [World.size_alloc] at hB1
  go_wp2_with fail
  go_ret
  exact ⟨rfl, (bel _ _).trans (hB1.mono (by omega))⟩
set_option maxRecDepth 100000 in
set_option maxHeartbeats 4000000 in
theorem deed_2 (n : Int) (w : World) : Calls Tryd.prog 76 #[.agg #[.int .i8 2, .int .i64 n]] w (GivesB w (deedV 2 n)) := by
  have bel : ∀ o1 o2, Below w.heap.size w ((w.alloc o1).alloc o2) := fun o1 o2 => ((Below.refl _ _).alloc (Nat.le_refl _) _).alloc (by simp) _
  have HF := hid (fun W => act_backward 2 n W)
  go_enter Tryd.func76, Tryd.ntmps76
  go_wp2_with fail
  refine (HF.out _).mono ?_
  rintro e w1 ⟨rfl, hB1⟩
  simp only [World.size_alloc] at hB1
  go_wp2_with fail
  go_ret
  exact ⟨rfl, (bel _ _).trans (hB1.mono (by omega))⟩
set_option maxRecDepth 100000 in
set_option maxHeartbeats 4000000 in
theorem deed_3 (n : Int) (w : World) : Calls Tryd.prog 76 #[.agg #[.int .i8 3, .int .i64 n]] w (GivesB w (deedV 3 n)) := by
  have bel : ∀ o1 o2, Below w.heap.size w ((w.alloc o1).alloc o2) := fun o1 o2 => ((Below.refl _ _).alloc (Nat.le_refl _) _).alloc (by simp) _
  have HF := hid (fun W => act_preset 3 n W)
  go_enter Tryd.func76, Tryd.ntmps76
  go_wp2_with fail
  refine (HF.out _).mono ?_
  rintro e w1 ⟨rfl, hB1⟩
  simp only [World.size_alloc] at hB1
  go_wp2_with fail
  go_ret
  exact ⟨rfl, (bel _ _).trans (hB1.mono (by omega))⟩
set_option maxRecDepth 100000 in
set_option maxHeartbeats 4000000 in
theorem deed_4 (n : Int) (w : World) : Calls Tryd.prog 76 #[.agg #[.int .i8 4, .int .i64 n]] w (GivesB w (deedV 4 n)) := by
  have bel : ∀ o1 o2, Below w.heap.size w ((w.alloc o1).alloc o2) := fun o1 o2 => ((Below.refl _ _).alloc (Nat.le_refl _) _).alloc (by simp) _
  have HF := hid (fun W => act_reset 4 n W)
  go_enter Tryd.func76, Tryd.ntmps76
  go_wp2_with fail
  refine (HF.out _).mono ?_
  rintro e w1 ⟨rfl, hB1⟩
  simp only [World.size_alloc] at hB1
  go_wp2_with fail
  go_ret
  exact ⟨rfl, (bel _ _).trans (hB1.mono (by omega))⟩
set_option maxRecDepth 100000 in
set_option maxHeartbeats 4000000 in
theorem deed_5 (n : Int) (w : World) : Calls Tryd.prog 76 #[.agg #[.int .i8 5, .int .i64 n]] w (GivesB w (deedV 5 n)) := by
  have bel : ∀ o1 o2, Below w.heap.size w ((w.alloc o1).alloc o2) := fun o1 o2 => ((Below.refl _ _).alloc (Nat.le_refl _) _).alloc (by simp) _
  have HF := hid (fun W => act_ticket 5 n W)
  go_enter Tryd.func76, Tryd.ntmps76
  go_wp2_with fail
  refine (HF.out _).mono ?_
  rintro e w1 ⟨rfl, hB1⟩
  simp only [World.size_alloc] at hB1
  go_wp2_with fail
  go_ret
  exact ⟨rfl, (bel _ _).trans (hB1.mono (by omega))⟩
theorem deed_any (k n : Int) (h : okAct k n = true) (w : World) : Calls Tryd.prog 76 #[.agg #[.int .i8 k, .int .i64 n]] w (GivesB w (deedV k n)) := by
  rcases okAct_kind h with rfl | rfl | rfl | rfl | rfl
  · exact deed_1 n w
  · exact deed_2 n w
  · exact deed_3 n w
  · exact deed_4 n w
  · exact deed_5 n w
end Go.Proofs.YthifegbmpmialaaDoor

namespace Go.Proofs.YthifegbmpmialaaDoor
open Go

section
variable {F : Fence} {n : Nat} {P : Program} {ops : Array Oper} {Q : Exit → Act → World → Prop} {md : Region.Mode} {S : World → Prop} {c : Nat}

/-- whichever order is picked, S holding behind every operation but the call -/
def anyC (F : Fence) (n : Nat) (P : Program) (md : Region.Mode) (ops : Array Oper) (Q : Exit → Act → World → Prop) (S : World → Prop) (c : Nat) : Nat → Array Bool → Act → World → Prop
  | 0, listed, a, w => Region.ready md ops listed = [] ∧ Q .normal a w
  | fuel + 1, listed, a, w => (Region.ready md ops listed = [] → Q .normal a w) ∧
    ∀ j ∈ Region.ready md ops listed, wpOpIn F n P ops Q j (fun a' w' => (j ≠ c → S w' ∧ anyC F n P md ops Q S c fuel (listed.setIfInBounds j true) a' w') ∧ (j = c → wpAnyIn F n P md ops Q fuel (listed.setIfInBounds j true) a' w')) a w
theorem anyC_any : ∀ (fuel : Nat) (listed : Array Bool) (a : Act) (w : World), anyC F n P md ops Q S c fuel listed a w → wpAnyIn F n P md ops Q fuel listed a w
  | 0, _, _, _, h => h
  | fuel + 1, _, _, _, h => ⟨h.1, fun i hi => wpOpIn_mono (fun a' w' h' => by
      by_cases e : i = c
      · exact h'.2 e
      · exact anyC_any fuel _ a' w' (h'.1 e).2) (h.2 i hi)⟩
/-- q waits for p -/
def waits (md : Region.Mode) (ops : Array Oper) (p q : Nat) : Bool := match ops[q]? with | some o => o.after.any (fun e => Region.binds md e && e.on == p) | none => false
def chain (md : Region.Mode) (ops : Array Oper) : Nat → List Nat → Bool
  | _, [] => true
  | p, q :: L => waits md ops p q && chain md ops q L
theorem waits_no {p q : Nat} {listed : Array Bool} (h : waits md ops p q = true) (hu : listed.getD p true = false) : q ∉ Region.ready md ops listed := fun hq => by
  obtain ⟨_, o, ho, hall⟩ := mem_ready.1 hq
  unfold waits at h
  rw [ho] at h
  dsimp only at h
  rw [← Array.any_toList, List.any_eq_true] at h
  obtain ⟨e, he', hb⟩ := h
  have he : e ∈ o.after := by simpa using he'
  simp only [Bool.and_eq_true, beq_iff_eq] at hb
  have q1 := hall e he hb.1
  rw [hb.2] at q1
  rcases Nat.lt_or_ge p listed.size with h' | h'
  · simp [h'] at hu q1; rw [hu] at q1; cases q1
  · simp [Array.getElem?_eq_none h'] at q1
theorem chain_no {listed : Array Bool} : ∀ (L : List Nat) (p : Nat), chain md ops p L = true → listed.getD p true = false → (∀ q ∈ L, listed.getD q true = false) → ∀ q ∈ L, q ∉ Region.ready md ops listed
  | [], _, _, _, _, q, hq => by cases hq
  | r :: L, p, h, hp, hu, q, hq => by
    simp only [chain, Bool.and_eq_true] at h
    rcases List.mem_cons.1 hq with rfl | hq
    · exact waits_no h.1 hp
    · exact chain_no L r h.2 (hu r (by simp)) (fun x hx => hu x (List.mem_cons_of_mem _ hx)) q hq

theorem anyC_first {i : Nat} {oi : Oper} {v : Value} {L : List Nat} (hc : c ∈ L) (hch : chain md ops i L = true) (hic : i ≠ c) (hd : NoDefer ops) (hi : ops[i]? = some oi) (hsel : ∀ (j : Nat) (o : Oper) cs b, ops[j]? = some o → o.op ≠ .select cs b)
    (hQ : ∀ c a w, Q (.panic c) (a.put oi.dst v) w → Q (.panic c) a w) : ∀ (fuel : Nat) (listed : Array Bool) (a : Act) (w : World), (∀ q ∈ L, listed.getD q true = false) →
      (∀ j oj, ops[j]? = some oj → j ≠ i → listed.getD j true = false → (∀ e ∈ oj.after, Region.binds md e = true → e.on ≠ i) → oi.apart ops oj = true) →
      i ∈ Region.ready md ops listed → Gives P ops S oi v a → S w → anyC F n P md ops Q S c fuel (listed.setIfInBounds i true) (a.put oi.dst v) w → anyC F n P md ops Q S c (fuel + 1) listed a w
  | 0, listed, a, w, _, _, hr, hy, hS, H => by
    refine ⟨fun h => (by rw [h] at hr; cases hr), fun j hj => ?_⟩
    by_cases hji : j = i
    · subst hji; exact hy.now hd hi hS ⟨fun _ => ⟨hS, H⟩, fun e => absurd e hic⟩
    · have := ready_mono hj hji
      rw [H.1] at this
      cases this
  | fuel + 1, listed, a, w, hun0, hfree, hr, hy, hS, H => by
    refine ⟨fun h => (by rw [h] at hr; cases hr), fun j hj => ?_⟩
    by_cases hji : j = i
    · subst hji; exact hy.now hd hi hS ⟨fun _ => ⟨hS, H⟩, fun e => absurd e hic⟩
    · have hnL : ∀ q ∈ L, q ≠ j := fun q hq e => chain_no L i hch (mem_ready.1 hr).1 hun0 q hq (by rw [e]; exact hj)
      have hjc : j ≠ c := fun e => hnL c hc e.symm
      obtain ⟨hjun, oj, hoj, hall⟩ := mem_ready.1 hj
      have hnot : ∀ e ∈ oj.after, Region.binds md e = true → e.on ≠ i := fun e he hb heq => by
        have q1 := hall e he hb
        have q0 := (mem_ready.1 hr).1
        rw [heq] at q1
        rcases Nat.lt_or_ge i listed.size with h' | h'
        · simp [h'] at q0 q1; rw [q0] at q1; cases q1
        · simp [Array.getElem?_eq_none h'] at q1
      have h2 := hy.past hd hoj (hfree j oj hoj hji hjun hnot) (fun cs b => hsel i oi cs b hi) (fun cs b => hsel j oj cs b hoj) hQ (H.2 j (ready_mono hj hji))
      refine wpOpIn_mono (fun a' w' h3 => ⟨fun _ => ⟨(h3.2.1 hjc).1, anyC_first hc hch hic hd hi hsel hQ fuel (listed.setIfInBounds j true) a' w' (fun q hq => ?_) (fun k ok hk hki hun hno => ?_) (ready_mono hr (Ne.symm hji)) h3.1 (h3.2.1 hjc).1 ?_⟩, fun e => absurd e hjc⟩) h2
      · rw [getD_set_ne true (fun e => hnL q hq e.symm)]; exact hun0 q hq
      · refine hfree k ok hk hki ?_ hno
        by_cases hjk : j = k
        · subst hjk; exact hjun
        · rw [getD_set_ne true hjk] at hun; exact hun
      · rw [Array.setIfInBounds_comm _ _ hji]
        exact (h3.2.1 hjc).2
def unlB (listed : Array Bool) (L : List Nat) : Bool := L.all fun q => listed.getD q true == false
theorem unl_of {listed : Array Bool} {L : List Nat} (h : unlB listed L = true) : ∀ q ∈ L, listed.getD q true = false := fun q hq => by
  have := (List.all_eq_true.1 h) q hq
  simpa using this
/-- operation i, which leads to the call by the chain L, is taken first -/
theorem anyC_takeD {i : Nat} (L : List Nat) (d : Option Nat) {oi : Oper} {v : Value} {fuel : Nat} {listed : Array Bool} {a : Act} {w : World} (hc : (L.contains c && chain md ops i L && !(i == c) && unlB listed L) = true) (hd : NoDefer ops) (hi : ops[i]? = some oi) (hdst : oi.dst = d)
    (hs : Region.noSelect ops = true) (hf : Region.free md ops listed i = true) (hr : (Region.ready md ops listed).contains i = true) (hQ : ∀ c a w, Q (.panic c) (a.put d v) w → Q (.panic c) a w)
    (hy : Gives P ops S oi v a) (hS : S w) (h : anyC F n P md ops Q S c fuel (listed.setIfInBounds i true) (a.put d v) w) : anyC F n P md ops Q S c (fuel + 1) listed a w := by
  subst hdst
  simp only [Bool.and_eq_true, Bool.not_eq_true', beq_eq_false_iff_ne, ne_eq] at hc
  exact anyC_first (by simpa using hc.1.1.1) hc.1.1.2 hc.1.2 hd hi (Region.noSelect_spec hs) hQ fuel listed a w (unl_of hc.2) (Region.free_spec hi hf) (by simpa using hr) hy hS h
/-- the call, when it alone may come up -/
theorem anyC_call {o : Oper} {fuel : Nat} {listed : Array Bool} {a : Act} {w : World} (hr : Region.ready md ops listed = [c]) (ho : ops[c]? = some o) (hw : Region.wanted o (yielded ops a.tmps) = true)
    (h : ∀ K : Act → World → Prop, (∀ a w, wpAnyIn F n P md ops Q fuel (listed.setIfInBounds c true) a w → K a w) → Oper.wpIn F n P o a w K Q) : anyC F n P md ops Q S c (fuel + 1) listed a w :=
  ⟨fun h0 => (by rw [hr] at h0; cases h0), fun j hj => by
    rw [hr] at hj
    obtain rfl : j = c := by simpa using hj
    unfold wpOpIn
    simp only [ho, hw, if_true]
    exact h _ (fun a w hk => ⟨fun e => absurd rfl e, fun _ => hk⟩)⟩
theorem region_call (c : Nat) {id : Nat} {a : Act} {w : World} (hm : P.follows .mixedOrders = true) (hd : noDeferB ops = true) (h : NoDefer ops → anyC F n P .any ops Q S c ops.size (Array.replicate ops.size false) a w.drew) : (Code.region id ops true).wpIn F n P Q a w :=
  wpIn_region_any hm (anyC_any _ _ _ _ (h (noDefer_of hd)))
end
end Go.Proofs.YthifegbmpmialaaDoor

namespace Go.Proofs.YthifegbmpmialaaDoor
open Go.RowKit Go.Shelf
set_option linter.unusedSimpArgs false
set_option linter.unusedVariables false
/-- the blocks of a set stay as they are -/
def KeepB (S : Nat → Prop) (A B : World) : Prop := ∀ g, S g → B.heap[g]? = A.heap[g]?
theorem KeepB.refl (S : Nat → Prop) (A : World) : KeepB S A A := fun _ _ => rfl
theorem KeepB.trans {S : Nat → Prop} {A B C : World} (h : KeepB S A B) (k : KeepB S B C) : KeepB S A C := fun g hg => (k g hg).trans (h g hg)
theorem KeepB.cell {S : Nat → Prop} {A B : World} (h : KeepB S A B) {g : Nat} (hg : S g) (j : Nat) : B.cell? ⟨g, j, none⟩ = A.cell? ⟨g, j, none⟩ := World.cell?_of_block (h g hg)
theorem KeepB.of_below {S : Nat → Prop} {A B : World} {n : Nat} (h : Below n A B) (hS : ∀ g, S g → g < n) : KeepB S A B := fun g hg => h.block g (hS g hg)
theorem keepB_b {S : Nat → Prop} {w : World} (hS : ∀ g, S g → g < w.heap.size) (W : World) (l : Nat) (o o' : Obj) (hl : w.heap.size ≤ l) (_ : W.heap[l]? = some o) (_ : o.isCells = false) (_ : o.isWalk = false) : KeepB S W (W.putObj l o') :=
  fun g hg => World.putObj_heap_other (fun e => by have := hS g hg; omega)
theorem row_kept {W W' : World} {row : Option Nat} {g : Nat} {e : TypeId} {xs : List Value} (h : Row W g e xs) (hg : W.grownBy W' row) (hr : ∀ r, row = some r → ∃ o : Obj, W.heap[r]? = some o ∧ o.isCells = false) : Row W' g e xs := by
  have hne : row ≠ some g := fun e' => by
    obtain ⟨o, ho, hc⟩ := hr g e'
    rw [h] at ho
    cases ho
    simp [Obj.isCells] at hc
  exact (hg.5 g h.lt (fun e => hne e.symm)).trans h
theorem owns_kept {W W' : World} {row : Option Nat} {base size n : Nat} {e : TypeId} {v : Value} {xs : List Value} (h : W.ownsRow base e size v n xs) (hg : W.grownBy W' row) (hr : ∀ r, row = some r → ∃ o : Obj, W.heap[r]? = some o ∧ o.isCells = false) : W'.ownsRow base e size v n xs := by
  refine ⟨h.1, ?_⟩
  rcases h.2 with h0 | ⟨g, cap, cur, h1, h2, h3, h4⟩
  · exact .inl h0
  · refine .inr ⟨g, cap, cur, h1, h2, ?_, h4⟩
    have hne : some g ≠ row := fun e' => by
      obtain ⟨o, ho, hc⟩ := hr g e'.symm
      rw [h3] at ho
      cases ho
      simp [Obj.isCells] at hc
    exact (hg.5 g (lt_of_block h3) hne).trans h3
theorem owns_set {w : World} {base size n : Nat} {e : TypeId} {v : Value} {xs : List Value} (h : w.ownsRow base e size v n xs) {a : Addr} (ha : a.block < base) (u : Value) : (w.setCell a u).ownsRow base e size v n xs := by
  refine ⟨h.1, ?_⟩
  rcases h.2 with h0 | ⟨g, cap, cur, h1, h2, h3, h4⟩
  · exact .inl h0
  · exact .inr ⟨g, cap, cur, h1, h2, (Below.heap_setCell w a u g (fun e => by omega)).trans h3, h4⟩
theorem owns_lt {w : World} {base size n g : Nat} {e : TypeId} {v : Value} {xs : List Value} (h : w.ownsRow base e size v n xs) (hg : g < base) : some g ≠ v.ownBlock := fun he => by
  rcases h.2 with ⟨rfl, _⟩ | ⟨g', cap, cur, rfl, h2, h3, _⟩
  · cases he
  · have : g = g' := Option.some.inj he
    omega
theorem Row.grown' {w w' : World} {g : Nat} {e : TypeId} {xs : List Value} {o : Option Nat} (h : Row w g e xs) (hg : w.grownBy w' o) (hne : some g ≠ o) : Row w' g e xs := (hg.5 g h.lt hne).trans h
theorem keepsOthers_of {W W' : World} (h : Below W.heap.size W W') : KeepsOthers W W' :=
  ⟨h.size, fun k o hk _ => by
    have hlt : k < W.heap.size := by
      by_cases hlt : k < W.heap.size
      · exact hlt
      · rw [Array.getElem?_eq_none (Nat.le_of_not_lt hlt)] at hk; cases hk
    exact (h.block k hlt).trans hk⟩
theorem keepB_of {S : Nat → Prop} {W W' : World} (h : Below W.heap.size W W') (hS : ∀ g, S g → g < W.heap.size) : KeepB S W W' := KeepB.of_below h hS
theorem owns_belowP {w w' : World} {base size n : Nat} {e : TypeId} {v : Value} {xs : List Value} (h : w.ownsRow base e size v n xs) (hb : Below w.heap.size w w') : w'.ownsRow base e size v n xs := by
  refine ⟨h.1, ?_⟩
  rcases h.2 with h0 | ⟨g, cap, cur, h1, h2, h3, h4⟩
  · exact .inl h0
  · exact .inr ⟨g, cap, cur, h1, h2, (hb.block g (lt_of_block h3)).trans h3, h4⟩
attribute [local go_sem] Oper.semAt_some
theorem yield_two {e : Ending} {A B : Prop} (h : (e = .returned (.bool true) ∧ A) ∨ (e = .returned (.bool false) ∧ B)) : ∃ bv : Bool, e = .returned (.bool bv) ∧ (bv = true → A) ∧ (bv = false → B) := by
  rcases h with ⟨h, a⟩ | ⟨h, b⟩
  · exact ⟨true, h, fun _ => a, fun h => by cases h⟩
  · exact ⟨false, h, fun h => by (cases h), fun _ => b⟩
end Go.Proofs.YthifegbmpmialaaDoor

namespace Go.Proofs.YthifegbmpmialaaDoor
open Go.RowKit
set_option linter.unusedVariables false
set_option linter.unusedSimpArgs false
/-- the twelve cells of a device -/
def dvC (v0 : Value) (ds : List Int) (pr : Int) (st : Bool) (tk : Int) : List Value := [v0, .int .u8 (dg ds 0), .int .u8 (dg ds 1), .int .u8 (dg ds 2), .int .u8 (dg ds 3), .int .u8 (dg ds 4), .int .u8 (dg ds 5), .int .u8 (dg ds 6), .int .u8 (dg ds 7), .int .i64 pr, .bool st, .int .i64 tk]
def dvZ : List Value := [.slice none 0 0, .int .u8 0, .int .u8 0, .int .u8 0, .int .u8 0, .int .u8 0, .int .u8 0, .int .u8 0, .int .u8 0, .int .i64 0, .bool false, .int .i64 0]
def diC (ds : List Int) : List Value := [.int .u8 (dg ds 0), .int .u8 (dg ds 1), .int .u8 (dg ds 2), .int .u8 (dg ds 3), .int .u8 (dg ds 4), .int .u8 (dg ds 5), .int .u8 (dg ds 6), .int .u8 (dg ds 7)]
theorem dvC_len (v0 : Value) (ds : List Int) (pr : Int) (st : Bool) (tk : Int) : (dvC v0 ds pr st tk).length = 12 := rfl
theorem dvZ_len : dvZ.length = 12 := rfl
theorem diC_len (ds : List Int) : (diC ds).length = 8 := rfl
theorem dvC_one (a : Option Addr) (n cap : Nat) (ds : List Int) (pr : Int) (st : Bool) (tk : Int) : ∀ v ∈ dvC (.slice a n cap) ds pr st tk, v.oneCell' = true := by
  intro v hv
  simp only [dvC, List.mem_cons, List.not_mem_nil, or_false] at hv
  rcases hv with rfl | rfl | rfl | rfl | rfl | rfl | rfl | rfl | rfl | rfl | rfl | rfl <;> rfl
theorem dvZ_one : ∀ v ∈ dvZ, v.oneCell' = true := by
  intro v hv
  simp only [dvZ, List.mem_cons, List.not_mem_nil, or_false] at hv
  rcases hv with rfl | rfl | rfl | rfl | rfl | rfl | rfl | rfl | rfl | rfl | rfl | rfl <;> rfl
theorem diC_one (ds : List Int) : ∀ v ∈ diC ds, v.oneCell' = true := by
  intro v hv
  simp only [diC, List.mem_cons, List.not_mem_nil, or_false] at hv
  rcases hv with rfl | rfl | rfl | rfl | rfl | rfl | rfl | rfl <;> rfl
theorem Tryd.infoDev : (Tryd.prog.info? 33).map (·.size) = some 12 := by kernel_rfl
theorem Tryd.infoDigs : (Tryd.prog.info? 31).map (·.size) = some 8 := by kernel_rfl
theorem Row.thereO {w : World} {g : Nat} {e : TypeId} {xs : List Value} (h : Row w g e xs) (o n : Nat) (hn : o + n ≤ xs.length) : w.there g o n := fun j hj => by
  rw [h.cell]
  exact ⟨by rw [List.getElem?_eq_getElem (by omega)]; rfl, h.frozen (o + j)⟩
theorem Row.setCells_mid {w : World} {g : Nat} {e : TypeId} : ∀ (ys xs : List Value) (o : Nat), Row w g e xs → o + ys.length ≤ xs.length → Row (w.setCells g o ys) g e (xs.take o ++ ys ++ xs.drop (o + ys.length))
  | [], xs, o, h, hl => by
    rw [World.setCells, List.append_nil, List.length_nil, Nat.add_zero, List.take_append_drop]; exact h
  | y :: r, xs, o, h, hl => by
    simp at hl
    rw [World.setCells]
    have := Row.setCells_mid (w := w.setCell ⟨g, o, none⟩ y) r (xs.set o y) (o + 1) (h.set o y) (by simp; omega)
    rw [List.take_set, List.take_succ_eq_append_getElem (by omega), List.set_append_right _ _ (by simp; omega), show o - (xs.take o).length = 0 from by simp; omega, List.set_cons_zero, List.drop_set_of_lt (by omega)] at this
    rw [List.length_cons, show o + (r.length + 1) = o + 1 + r.length by omega]
    simpa [List.append_assoc] using this
theorem below_setCellsD {n : Nat} {a : World} {g : Nat} : ∀ (ys : List Value) (o : Nat) (w : World), Below n a w → n ≤ g → Below n a (w.setCells g o ys)
  | [], _, _, h, _ => h
  | _ :: r, o, _, h, hg => by rw [World.setCells]; exact below_setCellsD r (o + 1) _ (h.setCell hg _) hg
theorem size_setCellsD {g : Nat} : ∀ (ys : List Value) (o : Nat) (w : World), (w.setCells g o ys).heap.size = w.heap.size
  | [], _, _ => rfl
  | y :: r, o, w => by rw [World.setCells, size_setCellsD r (o + 1)]; simp
theorem other_setCellsD {g q : Nat} (hq : q ≠ g) : ∀ (ys : List Value) (o : Nat) (w : World), (w.setCells g o ys).heap[q]? = w.heap[q]?
  | [], _, _ => rfl
  | y :: r, o, w => by rw [World.setCells, other_setCellsD hq r (o + 1)]; exact Below.heap_setCell w _ _ _ hq
theorem Row.setCellsO {w : World} {g q : Nat} {e : TypeId} {xs : List Value} (h : Row w q e xs) (hq : q ≠ g) (ys : List Value) (o : Nat) : Row (w.setCells g o ys) q e xs := (other_setCellsD hq ys o w).trans h
theorem Row.setAll {w : World} {g : Nat} {e : TypeId} {xs ys : List Value} (h : Row w g e xs) (hl : ys.length = xs.length) : Row (w.setCells g 0 ys) g e ys := by
  have := Row.setCells_mid ys xs 0 h (by omega)
  simpa [hl] using this
/-- the digits of a device stored anew -/
theorem Row.setDigs {w : World} {g : Nat} {e : TypeId} {v0 : Value} {ds : List Int} {pr : Int} {st : Bool} {tk : Int} (h : Row w g e (dvC v0 ds pr st tk)) (es : List Int) : Row (w.setCells g 1 (diC es)) g e (dvC v0 es pr st tk) :=
  Row.setCells_mid (diC es) _ 1 h (by rw [dvC_len, diC_len]; omega)
theorem exec_load_row {P : Program} {o : Oper} {a : Act} {w : World} (ty : TypeId) (x : Operand) (ho : o.op = .load ty x) (g : Nat) (hx : a.eval x = .pointer (some ⟨g, 0, none⟩)) (t : TypeId) (cs : Array Value) (d : TypeDesc) (hg : w.heap[g]? = some (.cells cs t (0, 0)))
    (hu : P.underlying ty = some d) (hd : (match d with | .struct _ | .array _ _ => true | _ => false) = true) (hi : (P.info? ty).map (·.size) = some cs.size) : (execOp a.eval o).run P w = .ok (.value (.agg cs)) w := by
  unfold execOp
  simp only [ho, hx, Instr.loadAt, Instr.sureAddr, Sem.run_bind, Sem.run_pure, Result.andThen_ok, run_loadVar_row w g t ty cs (0, 0) d hg hu hd hi]
theorem results_css {fn : Func} {P : Program} {p q r : Tmp} {ty : TypeId} (h : fn.results = #[.cell p ty, .tmp q, .tmp r]) (tmps : Array Value) (w : World) (g : Nat) (t : TypeId) (cs : Array Value) (d : TypeDesc) (v1 v2 : Value)
    (hp : tmps.getD p undef = .pointer (some ⟨g, 0, none⟩)) (hq : tmps.getD q undef = v1) (hr : tmps.getD r undef = v2) (hg : w.heap[g]? = some (.cells cs t (0, 0)))
    (hu : P.underlying ty = some d) (hd : (match d with | .struct _ | .array _ _ => true | _ => false) = true) (hi : (P.info? ty).map (·.size) = some cs.size) :
    (results fn tmps).run P w = .ok (.tuple #[.agg cs, v1, v2]) w := by
  have hp' : tmps[p]?.getD undef = .pointer (some ⟨g, 0, none⟩) := by simpa using hp
  have hq' : tmps[q]?.getD undef = v1 := by simpa using hq
  have hr' : tmps[r]?.getD undef = v2 := by simpa using hr
  simp [results, h, hp', hq', hr', asAddr, run_loadVar_row w g t ty cs (0, 0) d hg hu hd hi]
theorem results_cs {fn : Func} {P : Program} {p q : Tmp} {ty : TypeId} (h : fn.results = #[.cell p ty, .tmp q]) (tmps : Array Value) (w : World) (g : Nat) (t : TypeId) (cs : Array Value) (d : TypeDesc) (v1 : Value)
    (hp : tmps.getD p undef = .pointer (some ⟨g, 0, none⟩)) (hq : tmps.getD q undef = v1) (hg : w.heap[g]? = some (.cells cs t (0, 0)))
    (hu : P.underlying ty = some d) (hd : (match d with | .struct _ | .array _ _ => true | _ => false) = true) (hi : (P.info? ty).map (·.size) = some cs.size) :
    (results fn tmps).run P w = .ok (.tuple #[.agg cs, v1]) w := by
  have hp' : tmps[p]?.getD undef = .pointer (some ⟨g, 0, none⟩) := by simpa using hp
  have hq' : tmps[q]?.getD undef = v1 := by simpa using hq
  simp [results, h, hp', hq', asAddr, run_loadVar_row w g t ty cs (0, 0) d hg hu hd hi]
theorem results_ccs {fn : Func} {P : Program} {p q r : Tmp} {ty ty2 : TypeId} (h : fn.results = #[.cell p ty, .cell q ty2, .tmp r]) (tmps : Array Value) (w : World) (g g2 : Nat) (t t2 : TypeId) (cs cs2 : Array Value) (d d2 : TypeDesc) (v2 : Value)
    (hp : tmps.getD p undef = .pointer (some ⟨g, 0, none⟩)) (hq : tmps.getD q undef = .pointer (some ⟨g2, 0, none⟩)) (hr : tmps.getD r undef = v2) (hg : w.heap[g]? = some (.cells cs t (0, 0))) (hg2 : w.heap[g2]? = some (.cells cs2 t2 (0, 0)))
    (hu : P.underlying ty = some d) (hd : (match d with | .struct _ | .array _ _ => true | _ => false) = true) (hi : (P.info? ty).map (·.size) = some cs.size)
    (hu2 : P.underlying ty2 = some d2) (hd2 : (match d2 with | .struct _ | .array _ _ => true | _ => false) = true) (hi2 : (P.info? ty2).map (·.size) = some cs2.size) :
    (results fn tmps).run P w = .ok (.tuple #[.agg cs, .agg cs2, v2]) w := by
  have hp' : tmps[p]?.getD undef = .pointer (some ⟨g, 0, none⟩) := by simpa using hp
  have hq' : tmps[q]?.getD undef = .pointer (some ⟨g2, 0, none⟩) := by simpa using hq
  have hr' : tmps[r]?.getD undef = v2 := by simpa using hr
  simp [results, h, hp', hq', hr', asAddr, run_loadVar_row w g t ty cs (0, 0) d hg hu hd hi, run_loadVar_row w g2 t2 ty2 cs2 (0, 0) d2 hg2 hu2 hd2 hi2]
/-! ### values and digits -/
theorem dg8 (ds : List Int) (h : ds.length = 8) : [dg ds 0, dg ds 1, dg ds 2, dg ds 3, dg ds 4, dg ds 5, dg ds 6, dg ds 7] = ds := by
  match ds, h with
  | [a0, a1, a2, a3, a4, a5, a6, a7], _ => rfl
theorem szL_pos (zs : List Int) (k : Nat) (hk : k ≤ zs.length) (h : inB zs zs.length) : 1 ≤ szL (zs.take k) := (szL_bd zs k hk (fun j hj => h j (by omega))).1
theorem valL_lt' (zs ds : List Int) (h8 : zs.length ≤ 8) (hi : inB zs zs.length) (hl : ltTo zs ds zs.length) : ∀ k, k ≤ zs.length → 0 ≤ valL zs ds k ∧ valL zs ds k < szL (zs.take k)
  | 0, _ => ⟨Int.le_refl _, by rw [List.take_zero]; show (0 : Int) < 1; omega⟩
  | k + 1, hk => by
    have ih := valL_lt' zs ds h8 hi hl k (by omega)
    have a := hl k (by omega)
    have p := szL_pos zs k (by omega) hi
    rw [szL_take zs k (by omega)]
    show 0 ≤ valL zs ds k + ds[k]?.getD 0 * szL (zs.take k) ∧ valL zs ds k + ds[k]?.getD 0 * szL (zs.take k) < _
    obtain ⟨P, hP⟩ : ∃ P, szL (zs.take k) = P := ⟨_, rfl⟩
    obtain ⟨d, hd⟩ : ∃ d, ds[k]?.getD 0 = d := ⟨_, rfl⟩
    obtain ⟨z, hz⟩ : ∃ z, zs[k]?.getD 0 = z := ⟨_, rfl⟩
    rw [hP] at ih p ⊢
    rw [hd, hz] at a
    rw [hd, hz]
    have m1 : 0 ≤ d * P := Int.mul_nonneg a.1 (by omega)
    have m2 : (d + 1) * P ≤ z * P := Int.mul_le_mul_of_nonneg_right (by omega) (by omega)
    rw [Int.add_mul, Int.one_mul] at m2
    rw [Int.mul_comm P z]
    omega
theorem valL_digit (zs ds : List Int) (h8 : zs.length ≤ 8) (hi : inB zs zs.length) (hl : ltTo zs ds zs.length) (k : Nat) (hk : k < zs.length) : ∀ m, k + 1 ≤ m → m ≤ zs.length → valL zs ds m / szL (zs.take k) % zs[k]?.getD 0 = ds[k]?.getD 0 ∧ ∃ R, szL (zs.take m) = szL (zs.take k) * (zs[k]?.getD 0 * R) := by
  intro m
  induction m with
  | zero => intro h; omega
  | succ m ih =>
    intro h1 h2
    have p := szL_pos zs k (by omega) hi
    have z2 := hi k hk
    by_cases e : m = k
    · subst e
      have b := valL_lt' zs ds h8 hi hl m (by omega)
      have a := hl m hk
      refine ⟨?_, 1, by rw [szL_take zs m hk, Int.mul_one]⟩
      show (valL zs ds m + ds[m]?.getD 0 * szL (zs.take m)) / szL (zs.take m) % zs[m]?.getD 0 = ds[m]?.getD 0
      rw [Int.add_mul_ediv_right _ _ (by omega), Int.ediv_eq_zero_of_lt b.1 b.2, Int.zero_add, Int.emod_eq_of_lt a.1 a.2]
    · obtain ⟨e1, R, e2⟩ := ih (by omega) (by omega)
      refine ⟨?_, R * zs[m]?.getD 0, by rw [szL_take zs m (by omega), e2, Int.mul_assoc, Int.mul_assoc]⟩
      show (valL zs ds m + ds[m]?.getD 0 * szL (zs.take m)) / szL (zs.take k) % zs[k]?.getD 0 = ds[k]?.getD 0
      rw [e2, show ds[m]?.getD 0 * (szL (zs.take k) * (zs[k]?.getD 0 * R)) = (zs[k]?.getD 0 * (R * ds[m]?.getD 0)) * szL (zs.take k) by
        rw [Int.mul_comm (ds[m]?.getD 0), Int.mul_assoc, Int.mul_comm (szL (zs.take k)), Int.mul_assoc (zs[k]?.getD 0) R]]
      rw [Int.add_mul_ediv_right _ _ (by omega), Int.add_mul_emod_self_left]
      exact e1
/-- valid digits are those of their value -/
theorem dgL_val (zs ds : List Int) (h : okV zs ds = true) (h0 : ∀ j, j < 8 → 0 ≤ ds[j]?.getD 0) (hl : ds.length = 8) : dgL zs (valL zs ds zs.length) = ds := by
  obtain ⟨h1, h2⟩ := okV_out h
  obtain ⟨_, h8, hi, _, _⟩ := okL_out h1
  apply List.ext_getElem?
  intro j
  by_cases hj : j < 8
  · have e1 : (dgL zs (valL zs ds zs.length))[j]? = some ((dgL zs (valL zs ds zs.length))[j]?.getD 0) := by rw [List.getElem?_eq_getElem (by rw [dgL_len]; exact hj)]; rfl
    have e2 : ds[j]? = some (ds[j]?.getD 0) := by rw [List.getElem?_eq_getElem (by omega)]; rfl
    rw [e1, e2, dgL_get zs _ j hj]
    split
    · rw [(valL_digit zs ds h8 hi (okD_lt h2 h8 h0) j (by assumption) zs.length (by omega) (Nat.le_refl _)).1]
    · rw [(okD_out h2 j hj).2 (by omega)]
  · rw [List.getElem?_eq_none (by rw [dgL_len]; omega), List.getElem?_eq_none (by omega)]
theorem emod_step (v P z : Int) (hP : 1 ≤ P) (hz : 1 ≤ z) : v % P + v / P % z * P = v % (P * z) := by
  have e1 := Int.emod_add_mul_ediv v P
  have e2 := Int.emod_add_mul_ediv (v / P) z
  have a1 := Int.emod_nonneg v (show P ≠ 0 by omega)
  have a2 := Int.emod_lt_of_pos v (show 0 < P by omega)
  have b1 := Int.emod_nonneg (v / P) (show z ≠ 0 by omega)
  have b2 := Int.emod_lt_of_pos (v / P) (show 0 < z by omega)
  obtain ⟨r, hr⟩ : ∃ r, v % P = r := ⟨_, rfl⟩
  obtain ⟨q, hq⟩ : ∃ q, v / P = q := ⟨_, rfl⟩
  rw [hr, hq] at e1
  rw [hr] at a1 a2
  rw [hq] at e2 b1 b2
  rw [hr, hq]
  obtain ⟨s, hs⟩ : ∃ s, q % z = s := ⟨_, rfl⟩
  obtain ⟨t, ht⟩ : ∃ t, q / z = t := ⟨_, rfl⟩
  rw [hs, ht] at e2
  rw [hs] at b1 b2
  rw [hs]
  have e3 : v = (r + s * P) + P * z * t := by
    rw [← e1, ← e2, Int.mul_add, Int.mul_comm P s, Int.mul_assoc, Int.add_assoc]
  have m1 : 0 ≤ s * P := Int.mul_nonneg b1 (by omega)
  have m2 : (s + 1) * P ≤ z * P := Int.mul_le_mul_of_nonneg_right (by omega) (by omega)
  rw [Int.add_mul, Int.one_mul, Int.mul_comm z P] at m2
  rw [e3, Int.add_mul_emod_self_left, Int.emod_eq_of_lt (by omega) (by omega)]
theorem valL_dgL (zs : List Int) (v : Int) (h8 : zs.length ≤ 8) (hi : inB zs zs.length) : ∀ k, k ≤ zs.length → valL zs (dgL zs v) k = v % szL (zs.take k)
  | 0, _ => by
    rw [List.take_zero]
    show (0 : Int) = v % 1
    omega
  | k + 1, hk => by
    have ih := valL_dgL zs v h8 hi k (by omega)
    show valL zs (dgL zs v) k + (dgL zs v)[k]?.getD 0 * szL (zs.take k) = _
    rw [ih, dgL_get zs v k (by omega), if_pos (by omega), szL_take zs k (by omega)]
    exact emod_step v _ _ (szL_pos zs k (by omega) hi) (by have := hi k (by omega); omega)
theorem valL_of (zs : List Int) (v : Int) (h : okL zs = true) (hv : 0 ≤ v ∧ v < szL zs) : valL zs (dgL zs v) zs.length = v := by
  obtain ⟨_, h8, hi, _, _⟩ := okL_out h
  rw [valL_dgL zs v h8 hi zs.length (Nat.le_refl _), List.take_length, Int.emod_eq_of_lt hv.1 hv.2]
theorem okV_dgL (zs : List Int) (v : Int) (h : okL zs = true) : okV zs (dgL zs v) = true := by
  obtain ⟨_, h8, hi, _, _⟩ := okL_out h
  rw [okV, h, dgL_okD zs v hi]; rfl
theorem dgL_octD (zs : List Int) (v : Int) (h : okL zs = true) : Oct (dg (dgL zs v) 0) (dg (dgL zs v) 1) (dg (dgL zs v) 2) (dg (dgL zs v) 3) (dg (dgL zs v) 4) (dg (dgL zs v) 5) (dg (dgL zs v) 6) (dg (dgL zs v) 7) := by
  have hz := (okL_out h).2.2.1
  have key : ∀ k, k < 8 → 0 ≤ dg (dgL zs v) k ∧ dg (dgL zs v) k ≤ 255 := fun k hk => by
    have := dgL_bd zs v hz k hk
    unfold dg
    omega
  exact ⟨key 0 (by omega), key 1 (by omega), key 2 (by omega), key 3 (by omega), key 4 (by omega), key 5 (by omega), key 6 (by omega), key 7 (by omega)⟩
/-! ### what one act does: (value, preset, stopped, tickets) -/
abbrev DS := Int × Int × Bool × Int
/-- a state that is valid -/
def okS (z : Int) (S : DS) : Prop := (0 ≤ S.1 ∧ S.1 < z) ∧ (-1 ≤ S.2.1 ∧ S.2.1 < z) ∧ (S.2.2.1 = true → S.2.1 = S.1) ∧ 0 ≤ S.2.2.2 ∧ S.2.2.2 ≤ 1000000
/-- pulses: state, lost -/
def pulF (z : Int) (S : DS) (x s : Int) : DS × Int :=
  if S.2.2.1 = true then (S, x) else if 0 ≤ S.2.1 ∧ untX ((S.2.1 - S.1) * s) z ≤ x then ((S.2.1, S.2.1, true, S.2.2.2), x - untX ((S.2.1 - S.1) * s) z) else (((S.1 + x * s) % z, S.2.1, false, S.2.2.2), 0)
/-- an act: code, state, lost -/
def actF (z : Int) (S : DS) (k x : Int) : Int × DS × Int :=
  if k = 1 then (0, pulF z S x 1) else if k = 2 then (0, pulF z S x (-1)) else
  if k = 3 then (if z ≤ x then (2, S, 0) else (0, (S.1, x, decide (S.1 = x), S.2.2.2), 0)) else
  if k = 4 then (0, (0, S.2.1, decide (0 = S.2.1), S.2.2.2), 0) else
  if 1000000 ≤ S.2.2.2 then (4, S, 0) else (0, (S.1, S.2.1, S.2.2.1, S.2.2.2 + 1), 0)
theorem pulF_ok {z : Int} {S : DS} (hz : 1 ≤ z) (h : okS z S) (x s : Int) : okS z (pulF z S x s).1 := by
  obtain ⟨h1, h2, h3, h4⟩ := h
  unfold pulF
  split
  · exact ⟨h1, h2, h3, h4⟩
  · split
    · exact ⟨by constructor <;> simp <;> omega, h2, fun _ => rfl, h4⟩
    · exact ⟨⟨Int.emod_nonneg _ (by omega), Int.emod_lt_of_pos _ (by omega)⟩, h2, fun h => by simp at h, h4⟩
theorem actF_ok {z : Int} {S : DS} (hz : 1 ≤ z) (h : okS z S) (k x : Int) (ha : okAct k x = true) : okS z (actF z S k x).2.1 := by
  have hb := okAct_bd ha
  unfold actF
  split
  · exact pulF_ok hz h x 1
  · split
    · exact pulF_ok hz h x (-1)
    · obtain ⟨h1, h2, h3, h4⟩ := h
      split
      · split
        · exact ⟨h1, h2, h3, h4⟩
        · exact ⟨h1, ⟨by simp; omega, by simp; omega⟩, fun h => by simp at h; simp; omega, h4⟩
      · split
        · exact ⟨⟨by simp, by simp; omega⟩, h2, fun h => by simp at h; simp; omega, h4⟩
        · split
          · exact ⟨h1, h2, h3, h4⟩
          · exact ⟨h1, h2, h3, by simp; omega, by simp; omega⟩
theorem untX_val {pr v z s : Int} (hs : s = 1 ∨ s = -1) (h1 : 0 ≤ pr ∧ pr < z) (h2 : 0 ≤ v ∧ v < z) : (v + untX ((pr - v) * s) z * s) % z = pr ∧ 1 ≤ untX ((pr - v) * s) z ∧ untX ((pr - v) * s) z ≤ z ∧ ∀ x, 0 < x → x < untX ((pr - v) * s) z → (v + x * s) % z ≠ pr := by
  rcases hs with rfl | rfl
  · rw [Int.mul_one, Int.mul_one]
    unfold untX
    split
    · refine ⟨?_, by omega, by omega, fun x a b e => ?_⟩
      · rw [show v + (pr - v + z) = pr + z by omega, Int.add_emod_right, Int.emod_eq_of_lt h1.1 h1.2]
      · rw [Int.mul_one] at e
        by_cases c : v + x < z
        · rw [Int.emod_eq_of_lt (by omega) c] at e; omega
        · rw [show v + x = (v + x - z) + z by omega, Int.add_emod_right, Int.emod_eq_of_lt (by omega) (by omega)] at e; omega
    · refine ⟨?_, by omega, by omega, fun x a b e => ?_⟩
      · rw [show v + (pr - v) = pr by omega, Int.emod_eq_of_lt h1.1 h1.2]
      · rw [Int.mul_one, Int.emod_eq_of_lt (by omega) (by omega)] at e; omega
  · rw [show (pr - v) * -1 = v - pr by omega]
    unfold untX
    split
    · refine ⟨?_, by omega, by omega, fun x a b e => ?_⟩
      · rw [show v + (v - pr + z) * -1 = pr + z * (-1) by omega, Int.add_mul_emod_self_left, Int.emod_eq_of_lt h1.1 h1.2]
      · by_cases c : 0 ≤ v + x * -1
        · rw [Int.emod_eq_of_lt c (by omega)] at e; omega
        · rw [show v + x * -1 = (v - x + z) + z * (-1) by omega, Int.add_mul_emod_self_left, Int.emod_eq_of_lt (by omega) (by omega)] at e; omega
    · refine ⟨?_, by omega, by omega, fun x a b e => ?_⟩
      · rw [show v + (v - pr) * -1 = pr by omega, Int.emod_eq_of_lt h1.1 h1.2]
      · rw [Int.emod_eq_of_lt (by omega) (by omega)] at e; omega
end Go.Proofs.YthifegbmpmialaaDoor

namespace Go.Proofs.YthifegbmpmialaaDoor
open Go.RowKit
set_option linter.unusedVariables false
set_option linter.unusedSimpArgs false
set_option maxRecDepth 100000 in
set_option maxHeartbeats 4000000 in
theorem showing_any (B n cap : Nat) (zs ds : List Int) (pr : Int) (st : Bool) (tk x : Int) (w : World) (hS : Stk w B zs) (hn : n = zs.length) (hv : okL zs = true) (hx : -100000000000000 ≤ x ∧ x ≤ 100000000000000) :
    Calls Tryd.prog 133 #[.agg (dvC (.slice (some ⟨B, 0, none⟩) n cap) ds pr st tk).toArray, .int .i64 x] w fun e w' => e = .returned (.agg (dvC (.slice (some ⟨B, 0, none⟩) n cap) (dgL zs (x % szL zs)) pr (decide (x % szL zs = pr)) tk).toArray) ∧ Below w.heap.size w w' := by
  obtain ⟨_, h8, hin, z1, z2⟩ := okL_out hv
  obtain ⟨i0, hi, hi8⟩ : ∃ i, Tryd.prog.info? 33 = some i ∧ i.size = 12 := Option.map_eq_some_iff.1 Tryd.infoDev
  have hID : (Tryd.prog.info? 33).map (·.size) = some 12 := Tryd.infoDev
  have hIG : (Tryd.prog.info? 31).map (·.size) = some 8 := Tryd.infoDigs
  obtain ⟨V, hV⟩ : ∃ V, V = (w.alloc (.cells (dvC (.slice (some ⟨B, 0, none⟩) n cap) ds pr st tk).toArray 33)).alloc (.cells #[.slice none 0 0, .int .u8 0, .int .u8 0, .int .u8 0, .int .u8 0, .int .u8 0, .int .u8 0, .int .u8 0, .int .u8 0, .int .i64 0, .bool false, .int .i64 0] 33) := ⟨_, rfl⟩
  have bV : Below w.heap.size w V := by rw [hV]; exact ((Below.refl _ _).alloc (Nat.le_refl _) _).alloc (by simp) _
  have sV : V.heap.size = w.heap.size + 1 + 1 := by rw [hV]; simp
  have rD : Row V w.heap.size 33 (dvC (.slice (some ⟨B, 0, none⟩) n cap) ds pr st tk) := by rw [hV]; exact (Row.new w _ _).alloc _
  have rZ : Row V (w.heap.size + 1) 33 dvZ := by
    have h := Row.new (w.alloc (.cells (dvC (.slice (some ⟨B, 0, none⟩) n cap) ds pr st tk).toArray 33)) 33 dvZ
    simp only [World.size_alloc] at h
    rw [hV]; exact h
  have SV := hS.below bV hS.1
  have HSZ := hid (size_any B n cap zs hn hv V SV)
  have HFM := hid (fun W => floorMod_any x (szL zs) (by omega) (by omega) W)
  have hy0 := Int.emod_nonneg x (show szL zs ≠ 0 by omega)
  have hy1 := Int.emod_lt_of_pos x (show 0 < szL zs by omega)
  obtain ⟨y, hy⟩ : ∃ y, x % szL zs = y := ⟨_, rfl⟩
  rw [hy] at HFM hy0 hy1 ⊢
  have HDG := hid (fun W h => digits_any B n cap zs hn hv y hy0 (by omega) W h)
  have c0 : V.cell? ⟨w.heap.size, 0, none⟩ = some (.slice (some ⟨B, 0, none⟩) n cap) := rD.cell 0
  have BV := hid bV; have RD := hid rD; have RZ := hid rZ; have SS := hid SV; have HVV := hid hV; have HSV := hid sV
  rw [hV] at c0
  clear hS hn hv hx h8 hin z1 z2 hy hy0 hy1 bV rD rZ SV hV sV hi hi8 i0
  go_enter Tryd.func133, Tryd.ntmps133
  go_wp2_with fail
  rw [← HVV.out]
  refine HSZ.out.mono ?_
  rintro e w1 ⟨rfl, hB1⟩
  have b1 := hid hB1
  have r1 := RD.out.below hB1 RD.out.lt
  have c0 : w1.cell? ⟨w.heap.size, 0, none⟩ = some (.slice (some ⟨B, 0, none⟩) n cap) := r1.cell 0
  clear hB1 r1
  go_wp2_with fail
  refine (HFM.out _).mono ?_
  rintro e w2 ⟨rfl, rfl⟩
  have b2 := b1
  go_wp2_with fail
  refine (HDG.out _ (SS.out.below b2.out SS.out.1)).mono ?_
  rintro e w3 ⟨rfl, hB3⟩
  have b3 := hid (b2.out.trans (hB3.mono b2.out.size))
  have r3 := hid (RD.out.below b3.out RD.out.lt)
  have T1 := r3.out.thereO 1 8 (by rw [dvC_len]; omega)
  clear hB3
  go_upto_region 3 with ((with_reducible refine wpList_store_mid rfl 31 _ _ rfl w.heap.size 1 (diC (dgL zs y)).toArray ?_ ?_ ?_ ?_ (all_oneCell_toArray (diC_one _)) ?_); rfl; rfl; exact T1; exact hIG)
  obtain ⟨W4, hW4⟩ : ∃ X, X = w3.setCells w.heap.size 1 (diC (dgL zs y)) := ⟨_, rfl⟩
  have r4 := hid (show Row W4 w.heap.size 33 (dvC (.slice (some ⟨B, 0, none⟩) n cap) (dgL zs y) pr st tk) by rw [hW4]; exact r3.out.setDigs _)
  have b4 := hid (show Below w.heap.size w W4 by rw [hW4]; exact below_setCellsD _ _ _ (BV.out.trans (b3.out.mono (by have := HSV.out; omega))) (Nat.le_refl _))
  have z4 := hid (show Row W4 (w.heap.size + 1) 33 dvZ by rw [hW4]; exact (RZ.out.below b3.out RZ.out.lt).setCellsO (by omega) _ _)
  have hW4' : w3.setCells w.heap.size 1 (diC (dgL zs y)).toArray.toList = W4 := hW4.symm
  rw [hW4']
  clear hW4 hW4' T1
  have c9 : W4.cell? ⟨w.heap.size, 9, none⟩ = some (.int .i64 pr) := r4.out.cell 9
  have c10 : W4.cell? ⟨w.heap.size, 10, none⟩ = some (.bool st) := r4.out.cell 10
  have f10 := r4.out.frozen 10
  by_cases he : y = pr
  · have e1 : (y == pr) = true := by rw [he]; simp
    go_upto_region 4 with fail
    obtain ⟨W5, hW5⟩ : ∃ X, X = W4.setCell ⟨w.heap.size, 10, none⟩ (.bool true) := ⟨_, rfl⟩
    have r5 := hid (show Row W5 w.heap.size 33 (dvC (.slice (some ⟨B, 0, none⟩) n cap) (dgL zs y) pr true tk) by rw [hW5]; exact r4.out.set 10 _)
    have b5 := hid (show Below w.heap.size w W5 by rw [hW5]; exact b4.out.setCell (p := ⟨w.heap.size, 10, none⟩) (Nat.le_refl _) _)
    have z5 := hid (show Row W5 (w.heap.size + 1) 33 dvZ by rw [hW5]; exact z4.out.other (by show w.heap.size ≠ w.heap.size + 1; omega) _)
    rw [← hW5]
    clear hW5 c9 c10 f10
    have T5 := z5.out.thereO 0 12 (by rw [dvZ_len]; omega)
    go_wp2_with (first | ((with_reducible refine wpList_load_row rfl 33 _ rfl w.heap.size ?_ 33 (dvC (.slice (some ⟨B, 0, none⟩) n cap) (dgL zs y) pr true tk).toArray (0, 0) _ ?_ Tryd.underlying33 ?_ ?_ ?_); rfl; exact r5.out; rfl; exact hID) | ((with_reducible refine wpList_store_mid rfl 33 _ _ rfl (w.heap.size + 1) 0 (dvC (.slice (some ⟨B, 0, none⟩) n cap) (dgL zs y) pr true tk).toArray ?_ ?_ ?_ ?_ (all_oneCell_toArray (dvC_one _ _ _ _ _ _ _)) ?_); rfl; rfl; exact T5; exact hID))
    have r6 := z5.out.setAll (ys := (dvC (.slice (some ⟨B, 0, none⟩) n cap) (dgL zs y) pr true tk)) rfl
    exact bodyPost_ret (v := .agg (dvC (.slice (some ⟨B, 0, none⟩) n cap) (dgL zs y) pr true tk).toArray) (results_cell_row (p := 4) (fn := Tryd.f133) rfl _ _ _ _ _ (0, 0) _ rfl r6 Tryd.underlying33 rfl hID) rfl ⟨by rw [decide_eq_true he], below_setCellsD _ _ _ b5.out (by omega)⟩
  · have e1 : (y == pr) = false := by simp [he]
    go_upto_region 4 with fail
    obtain ⟨W5, hW5⟩ : ∃ X, X = W4.setCell ⟨w.heap.size, 10, none⟩ (.bool false) := ⟨_, rfl⟩
    have r5 := hid (show Row W5 w.heap.size 33 (dvC (.slice (some ⟨B, 0, none⟩) n cap) (dgL zs y) pr false tk) by rw [hW5]; exact r4.out.set 10 _)
    have b5 := hid (show Below w.heap.size w W5 by rw [hW5]; exact b4.out.setCell (p := ⟨w.heap.size, 10, none⟩) (Nat.le_refl _) _)
    have z5 := hid (show Row W5 (w.heap.size + 1) 33 dvZ by rw [hW5]; exact z4.out.other (by show w.heap.size ≠ w.heap.size + 1; omega) _)
    rw [← hW5]
    clear hW5 c9 c10 f10
    have T5 := z5.out.thereO 0 12 (by rw [dvZ_len]; omega)
    go_wp2_with (first | ((with_reducible refine wpList_load_row rfl 33 _ rfl w.heap.size ?_ 33 (dvC (.slice (some ⟨B, 0, none⟩) n cap) (dgL zs y) pr false tk).toArray (0, 0) _ ?_ Tryd.underlying33 ?_ ?_ ?_); rfl; exact r5.out; rfl; exact hID) | ((with_reducible refine wpList_store_mid rfl 33 _ _ rfl (w.heap.size + 1) 0 (dvC (.slice (some ⟨B, 0, none⟩) n cap) (dgL zs y) pr false tk).toArray ?_ ?_ ?_ ?_ (all_oneCell_toArray (dvC_one _ _ _ _ _ _ _)) ?_); rfl; rfl; exact T5; exact hID))
    have r6 := z5.out.setAll (ys := (dvC (.slice (some ⟨B, 0, none⟩) n cap) (dgL zs y) pr false tk)) rfl
    exact bodyPost_ret (v := .agg (dvC (.slice (some ⟨B, 0, none⟩) n cap) (dgL zs y) pr false tk).toArray) (results_cell_row (p := 4) (fn := Tryd.f133) rfl _ _ _ _ _ (0, 0) _ rfl r6 Tryd.underlying33 rfl hID) rfl ⟨by rw [decide_eq_false he], below_setCellsD _ _ _ b5.out (by omega)⟩
end Go.Proofs.YthifegbmpmialaaDoor

namespace Go.Proofs.YthifegbmpmialaaDoor
open Go.RowKit
set_option linter.unusedVariables false
set_option linter.unusedSimpArgs false
theorem valueV (B n cap : Nat) (zs : List Int) (v pr : Int) (st : Bool) (tk : Int) (w : World) (hS : Stk w B zs) (hn : n = zs.length) (hv : okL zs = true) (hvv : 0 ≤ v ∧ v < szL zs) :
    Calls Tryd.prog 73 #[.agg (dvC (.slice (some ⟨B, 0, none⟩) n cap) (dgL zs v) pr st tk).toArray] w (GivesB w (.int .i64 v)) := by
  have h := devValue_any B n cap zs _ _ _ _ _ _ _ _ pr st tk w hS hn (dgL_octD zs v hv) (by rw [dg8 _ (dgL_len zs v)]; exact okV_dgL zs v hv)
  rw [dg8 _ (dgL_len zs v), valL_of zs v hv hvv] at h
  exact h
theorem untilV (B n cap : Nat) (zs : List Int) (v pr : Int) (st : Bool) (tk : Int) (s x : Int) (w : World) (hS : Stk w B zs) (hn : n = zs.length) (hv : okL zs = true) (hvv : 0 ≤ v ∧ v < szL zs) (hp : 0 ≤ pr ∧ pr < szL zs) (hx : (pr - v) * s = x) (hb : -szL zs < x ∧ x < szL zs) :
    Calls Tryd.prog 132 #[.agg (dvC (.slice (some ⟨B, 0, none⟩) n cap) (dgL zs v) pr st tk).toArray, .int .i64 s] w (GivesB w (.int .i64 (if st then 0 else untX x (szL zs)))) := by
  refine untilStop_any B n cap zs _ _ _ _ _ _ _ _ pr st tk s x w hS hn (dgL_octD zs v hv) (by rw [dg8 _ (dgL_len zs v)]; exact okV_dgL zs v hv) hp ?_ hb
  rw [dg8 _ (dgL_len zs v), valL_of zs v hv hvv]
  exact hx
set_option maxRecDepth 100000 in
set_option maxHeartbeats 4000000 in
theorem pulses_a1 (B n cap : Nat) (zs : List Int) (v pr : Int) (st : Bool) (tk : Int) (x s : Int) (w : World) (hS : Stk w B zs) (hn : n = zs.length) (hv : okL zs = true) (hok : okS (szL zs) (v, pr, st, tk)) (hs : s = 1 ∨ s = -1) (hx : 0 ≤ x ∧ x ≤ 1000000000000) (hpr : pr = -1) (hpos : 0 < x) :
    Calls Tryd.prog 131 #[.agg #[.int .i64 x, .int .i64 s], .agg (dvC (.slice (some ⟨B, 0, none⟩) n cap) (dgL zs v) pr st tk).toArray] w fun e w' => e = .returned (.tuple #[.agg (dvC (.slice (some ⟨B, 0, none⟩) n cap) (dgL zs ((v + x * s) % szL zs)) pr (decide ((v + x * s) % szL zs = pr)) tk).toArray, .int .i64 0, .nilIface]) ∧ Below w.heap.size w w' := by
  obtain ⟨_, h8, hin, z1, z2⟩ := okL_out hv
  obtain ⟨⟨v0, v1⟩, ⟨p0, p1⟩, hst, t0, t1⟩ := hok
  simp only at v0 v1 p0 p1 hst t0 t1
  have hID : (Tryd.prog.info? 33).map (·.size) = some 12 := Tryd.infoDev
  obtain ⟨V, hV⟩ : ∃ V, V = ((w.alloc (.cells #[.int .i64 x, .int .i64 s] 154)).alloc (.cells (dvC (.slice (some ⟨B, 0, none⟩) n cap) (dgL zs v) pr st tk).toArray 33)).alloc (.cells #[.slice none 0 0, .int .u8 0, .int .u8 0, .int .u8 0, .int .u8 0, .int .u8 0, .int .u8 0, .int .u8 0, .int .u8 0, .int .i64 0, .bool false, .int .i64 0] 33) := ⟨_, rfl⟩
  have bV : Below w.heap.size w V := by rw [hV]; exact (((Below.refl _ _).alloc (Nat.le_refl _) _).alloc (by simp) _).alloc (by simp; omega) _
  have sV : V.heap.size = w.heap.size + 1 + 1 + 1 := by rw [hV]; simp
  have rP : Row V w.heap.size 154 [.int .i64 x, .int .i64 s] := by rw [hV]; exact ((Row.new w _ _).alloc _).alloc _
  have rD : Row V (w.heap.size + 1) 33 (dvC (.slice (some ⟨B, 0, none⟩) n cap) (dgL zs v) pr st tk) := by
    have h := (Row.new (w.alloc (.cells #[.int .i64 x, .int .i64 s] 154)) 33 (dvC (.slice (some ⟨B, 0, none⟩) n cap) (dgL zs v) pr st tk)).alloc (.cells #[.slice none 0 0, .int .u8 0, .int .u8 0, .int .u8 0, .int .u8 0, .int .u8 0, .int .u8 0, .int .u8 0, .int .u8 0, .int .i64 0, .bool false, .int .i64 0] 33)
    simp only [World.size_alloc] at h
    rw [hV]; exact h
  have rZ : Row V (w.heap.size + 1 + 1) 33 dvZ := by
    have h := Row.new ((w.alloc (.cells #[.int .i64 x, .int .i64 s] 154)).alloc (.cells (dvC (.slice (some ⟨B, 0, none⟩) n cap) (dgL zs v) pr st tk).toArray 33)) 33 dvZ
    simp only [World.size_alloc] at h
    rw [hV]; exact h
  have sS := hS.below bV hS.1
  have HVL := hid (fun W h => valueV B n cap zs v pr st tk W h hn hv ⟨v0, v1⟩)
  have q0 := rP.cell 0; have q1 := rP.cell 1
  simp only [List.getElem?_cons_zero, List.getElem?_cons_succ] at q0 q1
  have c9 : V.cell? ⟨(w.heap.size + 1), 9, none⟩ = some (.int .i64 pr) := rD.cell 9
  have HV := hid hV
  have e9 : (pr != -1) = false := by rw [hpr]; rfl
  have hMb : -1000000000000 ≤ x * s ∧ x * s ≤ 1000000000000 := by rcases hs with rfl | rfl <;> omega
  obtain ⟨M, hM⟩ : ∃ y, x * s = y := ⟨_, rfl⟩
  rw [hM] at hMb ⊢
  have HSH := hid (fun W h => showing_any B n cap zs (dgL zs v) pr st tk (v + M) W h hn hv (by omega))
  have wm : IntKind.i64.wrap M = M := IntWalk.i64_in _ (by omega)
  have wn : IntKind.i64.wrap (v + M) = v + M := IntWalk.i64_in _ (by omega)
  have g5 : 0 < x := hpos
  have HSS := hid hS
  rw [hV] at q0 q1 c9
  clear hS hn hv h8 hin z1 z2 v0 v1 p0 p1 hst t0 t1 hs hx hV hpr hMb hpos
  go_enter Tryd.func131, Tryd.ntmps131
  go_wp2_with fail
  rw [← HV.out]
  have bW1 := bV
  clear q0 q1 c9
  refine wp_region_held (S := fun W' : World => Row W' w.heap.size 154 [.int .i64 x, .int .i64 s]) (by kernel_rfl) ?_
  change wpAnyH _ _ _ _ _ _ _ _ (World.drew _)
  obtain ⟨W0, hW0⟩ : ∃ X, X = World.drew (V) := ⟨_, rfl⟩
  have hD0 : Below (V).heap.size (V) W0 := by rw [hW0]; exact (Below.refl _ _).drew
  replace rP := rP.below hD0 rP.lt
  replace rD := rD.below hD0 rD.lt
  replace rZ := rZ.below hD0 rZ.lt
  replace sS := sS.below hD0 sS.1
  have bW0 := bW1.trans (hD0.mono bW1.size)
  have bR : Below W0.heap.size W0 W0 := Below.refl _ _
  rw [← hW0]
  clear hW0 hD0
  have l_rP := rP.lt
  have l_rD := rD.lt
  have l_rZ := rZ.lt
  have l_sS := sS.1
  have hS0 : (fun W' : World => Row W' w.heap.size 154 [.int .i64 x, .int .i64 s]) W0 := rP
  refine wpAnyH_takeD (some 24) (i := 3) (v := ?_) rfl rfl (by kernel_rfl) (by kernel_rfl) (by kernel_rfl) (fun _ _ _ h => h) (.inl ⟨by kernel_rfl, ?_⟩) hS0 ?_
  rotate_left
  · intro w' hw'; go_simp; try with_reducible rfl
  try simp only [Act.put, List.setIfInBounds_toArray, List.set_cons_zero, List.set_cons_succ]
  refine wpAnyH_takeD (some 25) (i := 4) (v := ?_) rfl rfl (by kernel_rfl) (by kernel_rfl) (by kernel_rfl) (fun _ _ _ h => h) (.inl ⟨by kernel_rfl, ?_⟩) hS0 ?_
  rotate_left
  · intro w' hw'; have hrow0 := hw'; have e0x0 := Row.cell hrow0 0; have e0x1 := Row.cell hrow0 1; simp only [List.getElem?_cons_zero, List.getElem?_cons_succ] at e0x0 e0x1; clear hrow0; clear hw'; go_simp; try with_reducible rfl
  try simp only [Act.put, List.setIfInBounds_toArray, List.set_cons_zero, List.set_cons_succ]
  refine wpAnyH_takeD (some 26) (i := 5) (v := ?_) rfl rfl (by kernel_rfl) (by kernel_rfl) (by kernel_rfl) (fun _ _ _ h => h) (.inl ⟨by kernel_rfl, ?_⟩) hS0 ?_
  rotate_left
  · intro w' hw'; have hrow0 := hw'; have e0x0 := Row.cell hrow0 0; have e0x1 := Row.cell hrow0 1; simp only [List.getElem?_cons_zero, List.getElem?_cons_succ] at e0x0 e0x1; clear hrow0; clear hw'; go_simp; try with_reducible rfl
  try simp only [Act.put, List.setIfInBounds_toArray, List.set_cons_zero, List.set_cons_succ]
  refine wpAnyH_takeD (some 27) (i := 6) (v := ?_) rfl rfl (by kernel_rfl) (by kernel_rfl) (by kernel_rfl) (fun _ _ _ h => h) (.inl ⟨by kernel_rfl, ?_⟩) hS0 ?_
  rotate_left
  · intro w' hw'; go_simp; try with_reducible rfl
  try simp only [Act.put, List.setIfInBounds_toArray, List.set_cons_zero, List.set_cons_succ]
  refine wpAnyH_all (rs := [0, 1]) (by kernel_rfl) (by simp) ?_
  intro i hi; simp only [List.mem_cons, List.not_mem_nil, or_false] at hi
  rcases hi with rfl | rfl
  · refine wpOp_step rfl (fun K hK => ?_)
    rw [if_pos (by kernel_rfl)]
    refine wp_load_row 33 _ rfl (w.heap.size + 1) rfl 33 ((dvC (.slice (some ⟨B, 0, none⟩) n cap) (dgL zs v) pr st tk)).toArray (0, 0) _ rD Tryd.underlying33 rfl hID ?_
    refine hK _ _ ⟨hS0, ?_⟩
    try simp only [Act.put, List.setIfInBounds_toArray, List.set_cons_zero, List.set_cons_succ]
    clear hK K
    refine wpAnyH_all (rs := [1]) (by kernel_rfl) (by simp) ?_
    intro i hi; simp only [List.mem_cons, List.not_mem_nil, or_false] at hi
    subst hi
    refine wpOp_step rfl (fun K hK => ?_)
    rw [if_pos (by kernel_rfl)]
    refine wp_load_row 33 _ rfl (w.heap.size + 1) rfl 33 ((dvC (.slice (some ⟨B, 0, none⟩) n cap) (dgL zs v) pr st tk)).toArray (0, 0) _ rD Tryd.underlying33 rfl hID ?_
    refine hK _ _ ⟨hS0, ?_⟩
    try simp only [Act.put, List.setIfInBounds_toArray, List.set_cons_zero, List.set_cons_succ]
    clear hK K
    refine wpAnyH_all (rs := [2]) (by kernel_rfl) (by simp) ?_
    intro i hi; simp only [List.mem_cons, List.not_mem_nil, or_false] at hi
    subst hi
    refine wpOp_step rfl (fun K hK => ?_)
    go_simp
    with_reducible refine (HVL.out W0 sS).mono ?_
    rintro e v3 ⟨rfl, hB3⟩
    replace rP := rP.below hB3 rP.lt
    replace rD := rD.below hB3 rD.lt
    replace rZ := rZ.below hB3 rZ.lt
    replace sS := sS.below hB3 sS.1
    replace bR := bR.trans (hB3.mono bR.size)
    have hS3 : (fun W' : World => Row W' w.heap.size 154 [.int .i64 x, .int .i64 s]) v3 := rP
    refine hK _ _ ⟨hS3, ?_⟩
    try simp only [Act.put, List.setIfInBounds_toArray, List.set_cons_zero, List.set_cons_succ]
    clear hB3 hK K hS0
    refine wpAnyH_takeD (some 28) (i := 7) (v := ?_) rfl rfl (by kernel_rfl) (by kernel_rfl) (by kernel_rfl) (fun _ _ _ h => h) (.inl ⟨by kernel_rfl, ?_⟩) hS3 ?_
    rotate_left
    · intro w' hw'; go_simp; try with_reducible rfl
    try simp only [Act.put, List.setIfInBounds_toArray, List.set_cons_zero, List.set_cons_succ]
    refine wpAnyH_all (rs := [8]) (by kernel_rfl) (by simp) ?_
    intro i hi; simp only [List.mem_cons, List.not_mem_nil, or_false] at hi
    subst hi
    refine wpOp_step rfl (fun K hK => ?_)
    go_simp
    with_reducible refine (HSH.out v3 sS).mono ?_
    rintro e v4 ⟨rfl, hB4⟩
    replace rP := rP.below hB4 rP.lt
    replace rD := rD.below hB4 rD.lt
    replace rZ := rZ.below hB4 rZ.lt
    replace sS := sS.below hB4 sS.1
    replace bR := bR.trans (hB4.mono bR.size)
    have hS4 : (fun W' : World => Row W' w.heap.size 154 [.int .i64 x, .int .i64 s]) v4 := rP
    refine hK _ _ ⟨hS4, ?_⟩
    try simp only [Act.put, List.setIfInBounds_toArray, List.set_cons_zero, List.set_cons_succ]
    clear hB4 hK K hS3
    refine wpAnyH_all (rs := [9]) (by kernel_rfl) (by simp) ?_
    intro i hi; simp only [List.mem_cons, List.not_mem_nil, or_false] at hi
    subst hi
    refine wpOp_step rfl (fun K hK => ?_)
    rw [if_pos (by kernel_rfl)]
    refine wp_store_mid 33 (.tmp 3) (.tmp 29) rfl ((w.heap.size + 1)) 0 ((dvC (.slice (some ⟨B, 0, none⟩) n cap) (dgL zs ((v + M) % szL zs)) pr (decide ((v + M) % szL zs = pr)) tk) : List Value).toArray rfl rfl (rD.thereO 0 12 (by rw [dvC_len]; omega)) hID (all_oneCell_toArray (dvC_one _ _ _ _ _ _ _)) ?_
    obtain ⟨X5, hX5⟩ : ∃ X, X = World.setCells v4 ((w.heap.size + 1)) 0 ((dvC (.slice (some ⟨B, 0, none⟩) n cap) (dgL zs ((v + M) % szL zs)) pr (decide ((v + M) % szL zs = pr)) tk) : List Value) := ⟨_, rfl⟩
    have nD : Row X5 (w.heap.size + 1) 33 (dvC (.slice (some ⟨B, 0, none⟩) n cap) (dgL zs ((v + M) % szL zs)) pr (decide ((v + M) % szL zs = pr)) tk) := by rw [hX5]; exact rD.setAll rfl
    replace rP : Row X5 w.heap.size 154 [.int .i64 x, .int .i64 s] := by rw [hX5]; exact rP.setCellsO (by omega) _ _
    replace rZ : Row X5 (w.heap.size + 1 + 1) 33 dvZ := by rw [hX5]; exact rZ.setCellsO (by omega) _ _
    have nB : Below w.heap.size w X5 := by rw [hX5]; exact below_setCellsD _ _ _ (bW0.trans (bR.mono bW0.size)) (by omega)
    have nS : Stk X5 B zs := HSS.out.below nB HSS.out.1
    have hS5 : (fun W' : World => Row W' w.heap.size 154 [.int .i64 x, .int .i64 s]) X5 := rP
    have hXX5 : World.setCells v4 ((w.heap.size + 1)) 0 ((dvC (.slice (some ⟨B, 0, none⟩) n cap) (dgL zs ((v + M) % szL zs)) pr (decide ((v + M) % szL zs = pr)) tk) : List Value).toArray.toList = X5 := hX5.symm
    rw [hXX5]
    refine hK _ _ ⟨hS5, ?_⟩
    try simp only [Act.put, List.setIfInBounds_toArray, List.set_cons_zero, List.set_cons_succ]
    clear hX5 hXX5 hK K hS4
    refine wpAnyH_done (by kernel_rfl) ?_ _
    clear rD sS bR bW0
    have rD := nD; have sS := nS; have bW1 := nB
    clear nD nS nB
    go_wp2_with fail
    refine wp_region_held (S := fun W' : World => Row W' w.heap.size 154 [.int .i64 x, .int .i64 s] ∧ Row W' (w.heap.size + 1) 33 (dvC (.slice (some ⟨B, 0, none⟩) n cap) (dgL zs ((v + M) % szL zs)) pr (decide ((v + M) % szL zs = pr)) tk)) (by kernel_rfl) ?_
    change wpAnyH _ _ _ _ _ _ _ _ (World.drew _)
    obtain ⟨W0, hW0⟩ : ∃ X, X = World.drew (X5) := ⟨_, rfl⟩
    have hD0 : Below (X5).heap.size (X5) W0 := by rw [hW0]; exact (Below.refl _ _).drew
    replace rP := rP.below hD0 rP.lt
    replace rD := rD.below hD0 rD.lt
    replace rZ := rZ.below hD0 rZ.lt
    replace sS := sS.below hD0 sS.1
    have bW0 := bW1.trans (hD0.mono bW1.size)
    have bR : Below W0.heap.size W0 W0 := Below.refl _ _
    rw [← hW0]
    clear hW0 hD0
    have l_rP := rP.lt
    have l_rD := rD.lt
    have l_rZ := rZ.lt
    have l_sS := sS.1
    have hS0 : (fun W' : World => Row W' w.heap.size 154 [.int .i64 x, .int .i64 s] ∧ Row W' (w.heap.size + 1) 33 (dvC (.slice (some ⟨B, 0, none⟩) n cap) (dgL zs ((v + M) % szL zs)) pr (decide ((v + M) % szL zs = pr)) tk)) W0 := ⟨rP, rD⟩
    refine wpAnyH_takeD (some 30) (i := 0) (v := .agg ((dvC (.slice (some ⟨B, 0, none⟩) n cap) (dgL zs ((v + M) % szL zs)) pr (decide ((v + M) % szL zs = pr)) tk)).toArray) rfl rfl (by kernel_rfl) (by kernel_rfl) (by kernel_rfl) (fun _ _ _ h => h) (.inl ⟨by kernel_rfl, ?_⟩) hS0 ?_
    · intro w' hw'; exact exec_load_row 33 _ rfl (w.heap.size + 1) rfl 33 ((dvC (.slice (some ⟨B, 0, none⟩) n cap) (dgL zs ((v + M) % szL zs)) pr (decide ((v + M) % szL zs = pr)) tk)).toArray _ (hw'.2) Tryd.underlying33 rfl hID
    try simp only [Act.put, List.setIfInBounds_toArray, List.set_cons_zero, List.set_cons_succ]
    refine wpAnyH_takeD (some 31) (i := 1) (v := ?_) rfl rfl (by kernel_rfl) (by kernel_rfl) (by kernel_rfl) (fun _ _ _ h => h) (.inl ⟨by kernel_rfl, ?_⟩) hS0 ?_
    rotate_left
    · intro w' hw'; have hrow0 := hw'.1; have e0x0 := Row.cell hrow0 0; have e0x1 := Row.cell hrow0 1; simp only [List.getElem?_cons_zero, List.getElem?_cons_succ] at e0x0 e0x1; clear hrow0; have e1 := hw'.2; clear hw'; go_simp; try with_reducible rfl
    try simp only [Act.put, List.setIfInBounds_toArray, List.set_cons_zero, List.set_cons_succ]
    refine wpAnyH_takeD (some 32) (i := 2) (v := ?_) rfl rfl (by kernel_rfl) (by kernel_rfl) (by kernel_rfl) (fun _ _ _ h => h) (.inl ⟨by kernel_rfl, ?_⟩) hS0 ?_
    rotate_left
    · intro w' hw'; have hrow0 := hw'.1; have e0x0 := Row.cell hrow0 0; have e0x1 := Row.cell hrow0 1; simp only [List.getElem?_cons_zero, List.getElem?_cons_succ] at e0x0 e0x1; clear hrow0; have e1 := hw'.2; clear hw'; go_simp; try with_reducible rfl
    try simp only [Act.put, List.setIfInBounds_toArray, List.set_cons_zero, List.set_cons_succ]
    refine wpAnyH_takeD (some 33) (i := 3) (v := ?_) rfl rfl (by kernel_rfl) (by kernel_rfl) (by kernel_rfl) (fun _ _ _ h => h) (.inl ⟨by kernel_rfl, ?_⟩) hS0 ?_
    rotate_left
    · intro w' hw'; go_simp; try with_reducible rfl
    try simp only [Act.put, List.setIfInBounds_toArray, List.set_cons_zero, List.set_cons_succ]
    refine wpAnyH_takeD (some 34) (i := 4) (v := ?_) rfl rfl (by kernel_rfl) (by kernel_rfl) (by kernel_rfl) (fun _ _ _ h => h) (.inl ⟨by kernel_rfl, ?_⟩) hS0 ?_
    rotate_left
    · intro w' hw'; go_simp; try with_reducible rfl
    try simp only [Act.put, List.setIfInBounds_toArray, List.set_cons_zero, List.set_cons_succ]
    refine wpAnyH_all (rs := [5]) (by kernel_rfl) (by simp) ?_
    intro i hi; simp only [List.mem_cons, List.not_mem_nil, or_false] at hi
    subst hi
    refine wpOp_step rfl (fun K hK => ?_)
    rw [if_pos (by kernel_rfl)]
    refine wp_store_mid 33 (.tmp 4) (.tmp 30) rfl ((w.heap.size + 1 + 1)) 0 ((dvC (.slice (some ⟨B, 0, none⟩) n cap) (dgL zs ((v + M) % szL zs)) pr (decide ((v + M) % szL zs = pr)) tk) : List Value).toArray rfl rfl (rZ.thereO 0 12 (by rw [dvZ_len]; omega)) hID (all_oneCell_toArray (dvC_one _ _ _ _ _ _ _)) ?_
    obtain ⟨X1, hX1⟩ : ∃ X, X = World.setCells W0 ((w.heap.size + 1 + 1)) 0 ((dvC (.slice (some ⟨B, 0, none⟩) n cap) (dgL zs ((v + M) % szL zs)) pr (decide ((v + M) % szL zs = pr)) tk) : List Value) := ⟨_, rfl⟩
    have nZ : Row X1 (w.heap.size + 1 + 1) 33 (dvC (.slice (some ⟨B, 0, none⟩) n cap) (dgL zs ((v + M) % szL zs)) pr (decide ((v + M) % szL zs = pr)) tk) := by rw [hX1]; exact rZ.setAll rfl
    replace rP : Row X1 w.heap.size 154 [.int .i64 x, .int .i64 s] := by rw [hX1]; exact rP.setCellsO (by omega) _ _
    replace rD : Row X1 (w.heap.size + 1) 33 (dvC (.slice (some ⟨B, 0, none⟩) n cap) (dgL zs ((v + M) % szL zs)) pr (decide ((v + M) % szL zs = pr)) tk) := by rw [hX1]; exact rD.setCellsO (by omega) _ _
    have nB : Below w.heap.size w X1 := by rw [hX1]; exact below_setCellsD _ _ _ (bW0.trans (bR.mono bW0.size)) (by omega)
    have hS1 : (fun W' : World => Row W' w.heap.size 154 [.int .i64 x, .int .i64 s] ∧ Row W' (w.heap.size + 1) 33 (dvC (.slice (some ⟨B, 0, none⟩) n cap) (dgL zs ((v + M) % szL zs)) pr (decide ((v + M) % szL zs = pr)) tk)) X1 := ⟨rP, rD⟩
    have hXX1 : World.setCells W0 ((w.heap.size + 1 + 1)) 0 ((dvC (.slice (some ⟨B, 0, none⟩) n cap) (dgL zs ((v + M) % szL zs)) pr (decide ((v + M) % szL zs = pr)) tk) : List Value).toArray.toList = X1 := hX1.symm
    rw [hXX1]
    refine hK _ _ ⟨hS1, ?_⟩
    try simp only [Act.put, List.setIfInBounds_toArray, List.set_cons_zero, List.set_cons_succ]
    clear hX1 hXX1 hK K hS0
    refine wpAnyH_takeD (some 5) (i := 6) (v := ?_) rfl rfl (by kernel_rfl) (by kernel_rfl) (by kernel_rfl) (fun _ _ _ h => h) (.inl ⟨by kernel_rfl, ?_⟩) hS1 ?_
    rotate_left
    · intro w' hw'; go_simp; try with_reducible rfl
    try simp only [Act.put, List.setIfInBounds_toArray, List.set_cons_zero, List.set_cons_succ]
    refine wpAnyH_takeD (some 6) (i := 7) (v := ?_) rfl rfl (by kernel_rfl) (by kernel_rfl) (by kernel_rfl) (fun _ _ _ h => h) (.inl ⟨by kernel_rfl, ?_⟩) hS1 ?_
    rotate_left
    · intro w' hw'; go_simp; try with_reducible rfl
    try simp only [Act.put, List.setIfInBounds_toArray, List.set_cons_zero, List.set_cons_succ]
    refine wpAnyH_done (by kernel_rfl) ?_ _
    go_wp2_with fail
    exact bodyPost_ret (v := .tuple #[.agg (dvC (.slice (some ⟨B, 0, none⟩) n cap) (dgL zs ((v + M) % szL zs)) pr (decide ((v + M) % szL zs = pr)) tk).toArray, .int .i64 0, .nilIface]) (results_css (p := 4) (q := 5) (r := 6) (fn := Tryd.f131) rfl _ _ _ _ _ _ _ _ rfl rfl rfl nZ Tryd.underlying33 rfl hID) rfl ⟨rfl, nB⟩
  · refine wpOp_step rfl (fun K hK => ?_)
    rw [if_pos (by kernel_rfl)]
    refine wp_load_row 33 _ rfl (w.heap.size + 1) rfl 33 ((dvC (.slice (some ⟨B, 0, none⟩) n cap) (dgL zs v) pr st tk)).toArray (0, 0) _ rD Tryd.underlying33 rfl hID ?_
    refine hK _ _ ⟨hS0, ?_⟩
    try simp only [Act.put, List.setIfInBounds_toArray, List.set_cons_zero, List.set_cons_succ]
    clear hK K
    refine wpAnyH_all (rs := [0, 2]) (by kernel_rfl) (by simp) ?_
    intro i hi; simp only [List.mem_cons, List.not_mem_nil, or_false] at hi
    rcases hi with rfl | rfl
    · refine wpOp_step rfl (fun K hK => ?_)
      rw [if_pos (by kernel_rfl)]
      refine wp_load_row 33 _ rfl (w.heap.size + 1) rfl 33 ((dvC (.slice (some ⟨B, 0, none⟩) n cap) (dgL zs v) pr st tk)).toArray (0, 0) _ rD Tryd.underlying33 rfl hID ?_
      refine hK _ _ ⟨hS0, ?_⟩
      try simp only [Act.put, List.setIfInBounds_toArray, List.set_cons_zero, List.set_cons_succ]
      clear hK K
      refine wpAnyH_all (rs := [2]) (by kernel_rfl) (by simp) ?_
      intro i hi; simp only [List.mem_cons, List.not_mem_nil, or_false] at hi
      subst hi
      refine wpOp_step rfl (fun K hK => ?_)
      go_simp
      with_reducible refine (HVL.out W0 sS).mono ?_
      rintro e v8 ⟨rfl, hB8⟩
      replace rP := rP.below hB8 rP.lt
      replace rD := rD.below hB8 rD.lt
      replace rZ := rZ.below hB8 rZ.lt
      replace sS := sS.below hB8 sS.1
      replace bR := bR.trans (hB8.mono bR.size)
      have hS8 : (fun W' : World => Row W' w.heap.size 154 [.int .i64 x, .int .i64 s]) v8 := rP
      refine hK _ _ ⟨hS8, ?_⟩
      try simp only [Act.put, List.setIfInBounds_toArray, List.set_cons_zero, List.set_cons_succ]
      clear hB8 hK K hS0
      refine wpAnyH_takeD (some 28) (i := 7) (v := ?_) rfl rfl (by kernel_rfl) (by kernel_rfl) (by kernel_rfl) (fun _ _ _ h => h) (.inl ⟨by kernel_rfl, ?_⟩) hS8 ?_
      rotate_left
      · intro w' hw'; go_simp; try with_reducible rfl
      try simp only [Act.put, List.setIfInBounds_toArray, List.set_cons_zero, List.set_cons_succ]
      refine wpAnyH_all (rs := [8]) (by kernel_rfl) (by simp) ?_
      intro i hi; simp only [List.mem_cons, List.not_mem_nil, or_false] at hi
      subst hi
      refine wpOp_step rfl (fun K hK => ?_)
      go_simp
      with_reducible refine (HSH.out v8 sS).mono ?_
      rintro e v9 ⟨rfl, hB9⟩
      replace rP := rP.below hB9 rP.lt
      replace rD := rD.below hB9 rD.lt
      replace rZ := rZ.below hB9 rZ.lt
      replace sS := sS.below hB9 sS.1
      replace bR := bR.trans (hB9.mono bR.size)
      have hS9 : (fun W' : World => Row W' w.heap.size 154 [.int .i64 x, .int .i64 s]) v9 := rP
      refine hK _ _ ⟨hS9, ?_⟩
      try simp only [Act.put, List.setIfInBounds_toArray, List.set_cons_zero, List.set_cons_succ]
      clear hB9 hK K hS8
      refine wpAnyH_all (rs := [9]) (by kernel_rfl) (by simp) ?_
      intro i hi; simp only [List.mem_cons, List.not_mem_nil, or_false] at hi
      subst hi
      refine wpOp_step rfl (fun K hK => ?_)
      rw [if_pos (by kernel_rfl)]
      refine wp_store_mid 33 (.tmp 3) (.tmp 29) rfl ((w.heap.size + 1)) 0 ((dvC (.slice (some ⟨B, 0, none⟩) n cap) (dgL zs ((v + M) % szL zs)) pr (decide ((v + M) % szL zs = pr)) tk) : List Value).toArray rfl rfl (rD.thereO 0 12 (by rw [dvC_len]; omega)) hID (all_oneCell_toArray (dvC_one _ _ _ _ _ _ _)) ?_
      obtain ⟨X10, hX10⟩ : ∃ X, X = World.setCells v9 ((w.heap.size + 1)) 0 ((dvC (.slice (some ⟨B, 0, none⟩) n cap) (dgL zs ((v + M) % szL zs)) pr (decide ((v + M) % szL zs = pr)) tk) : List Value) := ⟨_, rfl⟩
      have nD : Row X10 (w.heap.size + 1) 33 (dvC (.slice (some ⟨B, 0, none⟩) n cap) (dgL zs ((v + M) % szL zs)) pr (decide ((v + M) % szL zs = pr)) tk) := by rw [hX10]; exact rD.setAll rfl
      replace rP : Row X10 w.heap.size 154 [.int .i64 x, .int .i64 s] := by rw [hX10]; exact rP.setCellsO (by omega) _ _
      replace rZ : Row X10 (w.heap.size + 1 + 1) 33 dvZ := by rw [hX10]; exact rZ.setCellsO (by omega) _ _
      have nB : Below w.heap.size w X10 := by rw [hX10]; exact below_setCellsD _ _ _ (bW0.trans (bR.mono bW0.size)) (by omega)
      have nS : Stk X10 B zs := HSS.out.below nB HSS.out.1
      have hS10 : (fun W' : World => Row W' w.heap.size 154 [.int .i64 x, .int .i64 s]) X10 := rP
      have hXX10 : World.setCells v9 ((w.heap.size + 1)) 0 ((dvC (.slice (some ⟨B, 0, none⟩) n cap) (dgL zs ((v + M) % szL zs)) pr (decide ((v + M) % szL zs = pr)) tk) : List Value).toArray.toList = X10 := hX10.symm
      rw [hXX10]
      refine hK _ _ ⟨hS10, ?_⟩
      try simp only [Act.put, List.setIfInBounds_toArray, List.set_cons_zero, List.set_cons_succ]
      clear hX10 hXX10 hK K hS9
      refine wpAnyH_done (by kernel_rfl) ?_ _
      clear rD sS bR bW0
      have rD := nD; have sS := nS; have bW1 := nB
      clear nD nS nB
      go_wp2_with fail
      refine wp_region_held (S := fun W' : World => Row W' w.heap.size 154 [.int .i64 x, .int .i64 s] ∧ Row W' (w.heap.size + 1) 33 (dvC (.slice (some ⟨B, 0, none⟩) n cap) (dgL zs ((v + M) % szL zs)) pr (decide ((v + M) % szL zs = pr)) tk)) (by kernel_rfl) ?_
      change wpAnyH _ _ _ _ _ _ _ _ (World.drew _)
      obtain ⟨W0, hW0⟩ : ∃ X, X = World.drew (X10) := ⟨_, rfl⟩
      have hD0 : Below (X10).heap.size (X10) W0 := by rw [hW0]; exact (Below.refl _ _).drew
      replace rP := rP.below hD0 rP.lt
      replace rD := rD.below hD0 rD.lt
      replace rZ := rZ.below hD0 rZ.lt
      replace sS := sS.below hD0 sS.1
      have bW0 := bW1.trans (hD0.mono bW1.size)
      have bR : Below W0.heap.size W0 W0 := Below.refl _ _
      rw [← hW0]
      clear hW0 hD0
      have l_rP := rP.lt
      have l_rD := rD.lt
      have l_rZ := rZ.lt
      have l_sS := sS.1
      have hS0 : (fun W' : World => Row W' w.heap.size 154 [.int .i64 x, .int .i64 s] ∧ Row W' (w.heap.size + 1) 33 (dvC (.slice (some ⟨B, 0, none⟩) n cap) (dgL zs ((v + M) % szL zs)) pr (decide ((v + M) % szL zs = pr)) tk)) W0 := ⟨rP, rD⟩
      refine wpAnyH_takeD (some 30) (i := 0) (v := .agg ((dvC (.slice (some ⟨B, 0, none⟩) n cap) (dgL zs ((v + M) % szL zs)) pr (decide ((v + M) % szL zs = pr)) tk)).toArray) rfl rfl (by kernel_rfl) (by kernel_rfl) (by kernel_rfl) (fun _ _ _ h => h) (.inl ⟨by kernel_rfl, ?_⟩) hS0 ?_
      · intro w' hw'; exact exec_load_row 33 _ rfl (w.heap.size + 1) rfl 33 ((dvC (.slice (some ⟨B, 0, none⟩) n cap) (dgL zs ((v + M) % szL zs)) pr (decide ((v + M) % szL zs = pr)) tk)).toArray _ (hw'.2) Tryd.underlying33 rfl hID
      try simp only [Act.put, List.setIfInBounds_toArray, List.set_cons_zero, List.set_cons_succ]
      refine wpAnyH_takeD (some 31) (i := 1) (v := ?_) rfl rfl (by kernel_rfl) (by kernel_rfl) (by kernel_rfl) (fun _ _ _ h => h) (.inl ⟨by kernel_rfl, ?_⟩) hS0 ?_
      rotate_left
      · intro w' hw'; have hrow0 := hw'.1; have e0x0 := Row.cell hrow0 0; have e0x1 := Row.cell hrow0 1; simp only [List.getElem?_cons_zero, List.getElem?_cons_succ] at e0x0 e0x1; clear hrow0; have e1 := hw'.2; clear hw'; go_simp; try with_reducible rfl
      try simp only [Act.put, List.setIfInBounds_toArray, List.set_cons_zero, List.set_cons_succ]
      refine wpAnyH_takeD (some 32) (i := 2) (v := ?_) rfl rfl (by kernel_rfl) (by kernel_rfl) (by kernel_rfl) (fun _ _ _ h => h) (.inl ⟨by kernel_rfl, ?_⟩) hS0 ?_
      rotate_left
      · intro w' hw'; have hrow0 := hw'.1; have e0x0 := Row.cell hrow0 0; have e0x1 := Row.cell hrow0 1; simp only [List.getElem?_cons_zero, List.getElem?_cons_succ] at e0x0 e0x1; clear hrow0; have e1 := hw'.2; clear hw'; go_simp; try with_reducible rfl
      try simp only [Act.put, List.setIfInBounds_toArray, List.set_cons_zero, List.set_cons_succ]
      refine wpAnyH_takeD (some 33) (i := 3) (v := ?_) rfl rfl (by kernel_rfl) (by kernel_rfl) (by kernel_rfl) (fun _ _ _ h => h) (.inl ⟨by kernel_rfl, ?_⟩) hS0 ?_
      rotate_left
      · intro w' hw'; go_simp; try with_reducible rfl
      try simp only [Act.put, List.setIfInBounds_toArray, List.set_cons_zero, List.set_cons_succ]
      refine wpAnyH_takeD (some 34) (i := 4) (v := ?_) rfl rfl (by kernel_rfl) (by kernel_rfl) (by kernel_rfl) (fun _ _ _ h => h) (.inl ⟨by kernel_rfl, ?_⟩) hS0 ?_
      rotate_left
      · intro w' hw'; go_simp; try with_reducible rfl
      try simp only [Act.put, List.setIfInBounds_toArray, List.set_cons_zero, List.set_cons_succ]
      refine wpAnyH_all (rs := [5]) (by kernel_rfl) (by simp) ?_
      intro i hi; simp only [List.mem_cons, List.not_mem_nil, or_false] at hi
      subst hi
      refine wpOp_step rfl (fun K hK => ?_)
      rw [if_pos (by kernel_rfl)]
      refine wp_store_mid 33 (.tmp 4) (.tmp 30) rfl ((w.heap.size + 1 + 1)) 0 ((dvC (.slice (some ⟨B, 0, none⟩) n cap) (dgL zs ((v + M) % szL zs)) pr (decide ((v + M) % szL zs = pr)) tk) : List Value).toArray rfl rfl (rZ.thereO 0 12 (by rw [dvZ_len]; omega)) hID (all_oneCell_toArray (dvC_one _ _ _ _ _ _ _)) ?_
      obtain ⟨X1, hX1⟩ : ∃ X, X = World.setCells W0 ((w.heap.size + 1 + 1)) 0 ((dvC (.slice (some ⟨B, 0, none⟩) n cap) (dgL zs ((v + M) % szL zs)) pr (decide ((v + M) % szL zs = pr)) tk) : List Value) := ⟨_, rfl⟩
      have nZ : Row X1 (w.heap.size + 1 + 1) 33 (dvC (.slice (some ⟨B, 0, none⟩) n cap) (dgL zs ((v + M) % szL zs)) pr (decide ((v + M) % szL zs = pr)) tk) := by rw [hX1]; exact rZ.setAll rfl
      replace rP : Row X1 w.heap.size 154 [.int .i64 x, .int .i64 s] := by rw [hX1]; exact rP.setCellsO (by omega) _ _
      replace rD : Row X1 (w.heap.size + 1) 33 (dvC (.slice (some ⟨B, 0, none⟩) n cap) (dgL zs ((v + M) % szL zs)) pr (decide ((v + M) % szL zs = pr)) tk) := by rw [hX1]; exact rD.setCellsO (by omega) _ _
      have nB : Below w.heap.size w X1 := by rw [hX1]; exact below_setCellsD _ _ _ (bW0.trans (bR.mono bW0.size)) (by omega)
      have hS1 : (fun W' : World => Row W' w.heap.size 154 [.int .i64 x, .int .i64 s] ∧ Row W' (w.heap.size + 1) 33 (dvC (.slice (some ⟨B, 0, none⟩) n cap) (dgL zs ((v + M) % szL zs)) pr (decide ((v + M) % szL zs = pr)) tk)) X1 := ⟨rP, rD⟩
      have hXX1 : World.setCells W0 ((w.heap.size + 1 + 1)) 0 ((dvC (.slice (some ⟨B, 0, none⟩) n cap) (dgL zs ((v + M) % szL zs)) pr (decide ((v + M) % szL zs = pr)) tk) : List Value).toArray.toList = X1 := hX1.symm
      rw [hXX1]
      refine hK _ _ ⟨hS1, ?_⟩
      try simp only [Act.put, List.setIfInBounds_toArray, List.set_cons_zero, List.set_cons_succ]
      clear hX1 hXX1 hK K hS0
      refine wpAnyH_takeD (some 5) (i := 6) (v := ?_) rfl rfl (by kernel_rfl) (by kernel_rfl) (by kernel_rfl) (fun _ _ _ h => h) (.inl ⟨by kernel_rfl, ?_⟩) hS1 ?_
      rotate_left
      · intro w' hw'; go_simp; try with_reducible rfl
      try simp only [Act.put, List.setIfInBounds_toArray, List.set_cons_zero, List.set_cons_succ]
      refine wpAnyH_takeD (some 6) (i := 7) (v := ?_) rfl rfl (by kernel_rfl) (by kernel_rfl) (by kernel_rfl) (fun _ _ _ h => h) (.inl ⟨by kernel_rfl, ?_⟩) hS1 ?_
      rotate_left
      · intro w' hw'; go_simp; try with_reducible rfl
      try simp only [Act.put, List.setIfInBounds_toArray, List.set_cons_zero, List.set_cons_succ]
      refine wpAnyH_done (by kernel_rfl) ?_ _
      go_wp2_with fail
      exact bodyPost_ret (v := .tuple #[.agg (dvC (.slice (some ⟨B, 0, none⟩) n cap) (dgL zs ((v + M) % szL zs)) pr (decide ((v + M) % szL zs = pr)) tk).toArray, .int .i64 0, .nilIface]) (results_css (p := 4) (q := 5) (r := 6) (fn := Tryd.f131) rfl _ _ _ _ _ _ _ _ rfl rfl rfl nZ Tryd.underlying33 rfl hID) rfl ⟨rfl, nB⟩
    · refine wpOp_step rfl (fun K hK => ?_)
      go_simp
      with_reducible refine (HVL.out W0 sS).mono ?_
      rintro e v11 ⟨rfl, hB11⟩
      replace rP := rP.below hB11 rP.lt
      replace rD := rD.below hB11 rD.lt
      replace rZ := rZ.below hB11 rZ.lt
      replace sS := sS.below hB11 sS.1
      replace bR := bR.trans (hB11.mono bR.size)
      have hS11 : (fun W' : World => Row W' w.heap.size 154 [.int .i64 x, .int .i64 s]) v11 := rP
      refine hK _ _ ⟨hS11, ?_⟩
      try simp only [Act.put, List.setIfInBounds_toArray, List.set_cons_zero, List.set_cons_succ]
      clear hB11 hK K hS0
      refine wpAnyH_takeD (some 28) (i := 7) (v := ?_) rfl rfl (by kernel_rfl) (by kernel_rfl) (by kernel_rfl) (fun _ _ _ h => h) (.inl ⟨by kernel_rfl, ?_⟩) hS11 ?_
      rotate_left
      · intro w' hw'; go_simp; try with_reducible rfl
      try simp only [Act.put, List.setIfInBounds_toArray, List.set_cons_zero, List.set_cons_succ]
      refine wpAnyH_all (rs := [0]) (by kernel_rfl) (by simp) ?_
      intro i hi; simp only [List.mem_cons, List.not_mem_nil, or_false] at hi
      subst hi
      refine wpOp_step rfl (fun K hK => ?_)
      rw [if_pos (by kernel_rfl)]
      refine wp_load_row 33 _ rfl (w.heap.size + 1) rfl 33 ((dvC (.slice (some ⟨B, 0, none⟩) n cap) (dgL zs v) pr st tk)).toArray (0, 0) _ rD Tryd.underlying33 rfl hID ?_
      refine hK _ _ ⟨hS11, ?_⟩
      try simp only [Act.put, List.setIfInBounds_toArray, List.set_cons_zero, List.set_cons_succ]
      clear hK K
      refine wpAnyH_all (rs := [8]) (by kernel_rfl) (by simp) ?_
      intro i hi; simp only [List.mem_cons, List.not_mem_nil, or_false] at hi
      subst hi
      refine wpOp_step rfl (fun K hK => ?_)
      go_simp
      with_reducible refine (HSH.out v11 sS).mono ?_
      rintro e v13 ⟨rfl, hB13⟩
      replace rP := rP.below hB13 rP.lt
      replace rD := rD.below hB13 rD.lt
      replace rZ := rZ.below hB13 rZ.lt
      replace sS := sS.below hB13 sS.1
      replace bR := bR.trans (hB13.mono bR.size)
      have hS13 : (fun W' : World => Row W' w.heap.size 154 [.int .i64 x, .int .i64 s]) v13 := rP
      refine hK _ _ ⟨hS13, ?_⟩
      try simp only [Act.put, List.setIfInBounds_toArray, List.set_cons_zero, List.set_cons_succ]
      clear hB13 hK K hS11
      refine wpAnyH_all (rs := [9]) (by kernel_rfl) (by simp) ?_
      intro i hi; simp only [List.mem_cons, List.not_mem_nil, or_false] at hi
      subst hi
      refine wpOp_step rfl (fun K hK => ?_)
      rw [if_pos (by kernel_rfl)]
      refine wp_store_mid 33 (.tmp 3) (.tmp 29) rfl ((w.heap.size + 1)) 0 ((dvC (.slice (some ⟨B, 0, none⟩) n cap) (dgL zs ((v + M) % szL zs)) pr (decide ((v + M) % szL zs = pr)) tk) : List Value).toArray rfl rfl (rD.thereO 0 12 (by rw [dvC_len]; omega)) hID (all_oneCell_toArray (dvC_one _ _ _ _ _ _ _)) ?_
      obtain ⟨X14, hX14⟩ : ∃ X, X = World.setCells v13 ((w.heap.size + 1)) 0 ((dvC (.slice (some ⟨B, 0, none⟩) n cap) (dgL zs ((v + M) % szL zs)) pr (decide ((v + M) % szL zs = pr)) tk) : List Value) := ⟨_, rfl⟩
      have nD : Row X14 (w.heap.size + 1) 33 (dvC (.slice (some ⟨B, 0, none⟩) n cap) (dgL zs ((v + M) % szL zs)) pr (decide ((v + M) % szL zs = pr)) tk) := by rw [hX14]; exact rD.setAll rfl
      replace rP : Row X14 w.heap.size 154 [.int .i64 x, .int .i64 s] := by rw [hX14]; exact rP.setCellsO (by omega) _ _
      replace rZ : Row X14 (w.heap.size + 1 + 1) 33 dvZ := by rw [hX14]; exact rZ.setCellsO (by omega) _ _
      have nB : Below w.heap.size w X14 := by rw [hX14]; exact below_setCellsD _ _ _ (bW0.trans (bR.mono bW0.size)) (by omega)
      have nS : Stk X14 B zs := HSS.out.below nB HSS.out.1
      have hS14 : (fun W' : World => Row W' w.heap.size 154 [.int .i64 x, .int .i64 s]) X14 := rP
      have hXX14 : World.setCells v13 ((w.heap.size + 1)) 0 ((dvC (.slice (some ⟨B, 0, none⟩) n cap) (dgL zs ((v + M) % szL zs)) pr (decide ((v + M) % szL zs = pr)) tk) : List Value).toArray.toList = X14 := hX14.symm
      rw [hXX14]
      refine hK _ _ ⟨hS14, ?_⟩
      try simp only [Act.put, List.setIfInBounds_toArray, List.set_cons_zero, List.set_cons_succ]
      clear hX14 hXX14 hK K hS13
      refine wpAnyH_done (by kernel_rfl) ?_ _
      clear rD sS bR bW0
      have rD := nD; have sS := nS; have bW1 := nB
      clear nD nS nB
      go_wp2_with fail
      refine wp_region_held (S := fun W' : World => Row W' w.heap.size 154 [.int .i64 x, .int .i64 s] ∧ Row W' (w.heap.size + 1) 33 (dvC (.slice (some ⟨B, 0, none⟩) n cap) (dgL zs ((v + M) % szL zs)) pr (decide ((v + M) % szL zs = pr)) tk)) (by kernel_rfl) ?_
      change wpAnyH _ _ _ _ _ _ _ _ (World.drew _)
      obtain ⟨W0, hW0⟩ : ∃ X, X = World.drew (X14) := ⟨_, rfl⟩
      have hD0 : Below (X14).heap.size (X14) W0 := by rw [hW0]; exact (Below.refl _ _).drew
      replace rP := rP.below hD0 rP.lt
      replace rD := rD.below hD0 rD.lt
      replace rZ := rZ.below hD0 rZ.lt
      replace sS := sS.below hD0 sS.1
      have bW0 := bW1.trans (hD0.mono bW1.size)
      have bR : Below W0.heap.size W0 W0 := Below.refl _ _
      rw [← hW0]
      clear hW0 hD0
      have l_rP := rP.lt
      have l_rD := rD.lt
      have l_rZ := rZ.lt
      have l_sS := sS.1
      have hS0 : (fun W' : World => Row W' w.heap.size 154 [.int .i64 x, .int .i64 s] ∧ Row W' (w.heap.size + 1) 33 (dvC (.slice (some ⟨B, 0, none⟩) n cap) (dgL zs ((v + M) % szL zs)) pr (decide ((v + M) % szL zs = pr)) tk)) W0 := ⟨rP, rD⟩
      refine wpAnyH_takeD (some 30) (i := 0) (v := .agg ((dvC (.slice (some ⟨B, 0, none⟩) n cap) (dgL zs ((v + M) % szL zs)) pr (decide ((v + M) % szL zs = pr)) tk)).toArray) rfl rfl (by kernel_rfl) (by kernel_rfl) (by kernel_rfl) (fun _ _ _ h => h) (.inl ⟨by kernel_rfl, ?_⟩) hS0 ?_
      · intro w' hw'; exact exec_load_row 33 _ rfl (w.heap.size + 1) rfl 33 ((dvC (.slice (some ⟨B, 0, none⟩) n cap) (dgL zs ((v + M) % szL zs)) pr (decide ((v + M) % szL zs = pr)) tk)).toArray _ (hw'.2) Tryd.underlying33 rfl hID
      try simp only [Act.put, List.setIfInBounds_toArray, List.set_cons_zero, List.set_cons_succ]
      refine wpAnyH_takeD (some 31) (i := 1) (v := ?_) rfl rfl (by kernel_rfl) (by kernel_rfl) (by kernel_rfl) (fun _ _ _ h => h) (.inl ⟨by kernel_rfl, ?_⟩) hS0 ?_
      rotate_left
      · intro w' hw'; have hrow0 := hw'.1; have e0x0 := Row.cell hrow0 0; have e0x1 := Row.cell hrow0 1; simp only [List.getElem?_cons_zero, List.getElem?_cons_succ] at e0x0 e0x1; clear hrow0; have e1 := hw'.2; clear hw'; go_simp; try with_reducible rfl
      try simp only [Act.put, List.setIfInBounds_toArray, List.set_cons_zero, List.set_cons_succ]
      refine wpAnyH_takeD (some 32) (i := 2) (v := ?_) rfl rfl (by kernel_rfl) (by kernel_rfl) (by kernel_rfl) (fun _ _ _ h => h) (.inl ⟨by kernel_rfl, ?_⟩) hS0 ?_
      rotate_left
      · intro w' hw'; have hrow0 := hw'.1; have e0x0 := Row.cell hrow0 0; have e0x1 := Row.cell hrow0 1; simp only [List.getElem?_cons_zero, List.getElem?_cons_succ] at e0x0 e0x1; clear hrow0; have e1 := hw'.2; clear hw'; go_simp; try with_reducible rfl
      try simp only [Act.put, List.setIfInBounds_toArray, List.set_cons_zero, List.set_cons_succ]
      refine wpAnyH_takeD (some 33) (i := 3) (v := ?_) rfl rfl (by kernel_rfl) (by kernel_rfl) (by kernel_rfl) (fun _ _ _ h => h) (.inl ⟨by kernel_rfl, ?_⟩) hS0 ?_
      rotate_left
      · intro w' hw'; go_simp; try with_reducible rfl
      try simp only [Act.put, List.setIfInBounds_toArray, List.set_cons_zero, List.set_cons_succ]
      refine wpAnyH_takeD (some 34) (i := 4) (v := ?_) rfl rfl (by kernel_rfl) (by kernel_rfl) (by kernel_rfl) (fun _ _ _ h => h) (.inl ⟨by kernel_rfl, ?_⟩) hS0 ?_
      rotate_left
      · intro w' hw'; go_simp; try with_reducible rfl
      try simp only [Act.put, List.setIfInBounds_toArray, List.set_cons_zero, List.set_cons_succ]
      refine wpAnyH_all (rs := [5]) (by kernel_rfl) (by simp) ?_
      intro i hi; simp only [List.mem_cons, List.not_mem_nil, or_false] at hi
      subst hi
      refine wpOp_step rfl (fun K hK => ?_)
      rw [if_pos (by kernel_rfl)]
      refine wp_store_mid 33 (.tmp 4) (.tmp 30) rfl ((w.heap.size + 1 + 1)) 0 ((dvC (.slice (some ⟨B, 0, none⟩) n cap) (dgL zs ((v + M) % szL zs)) pr (decide ((v + M) % szL zs = pr)) tk) : List Value).toArray rfl rfl (rZ.thereO 0 12 (by rw [dvZ_len]; omega)) hID (all_oneCell_toArray (dvC_one _ _ _ _ _ _ _)) ?_
      obtain ⟨X1, hX1⟩ : ∃ X, X = World.setCells W0 ((w.heap.size + 1 + 1)) 0 ((dvC (.slice (some ⟨B, 0, none⟩) n cap) (dgL zs ((v + M) % szL zs)) pr (decide ((v + M) % szL zs = pr)) tk) : List Value) := ⟨_, rfl⟩
      have nZ : Row X1 (w.heap.size + 1 + 1) 33 (dvC (.slice (some ⟨B, 0, none⟩) n cap) (dgL zs ((v + M) % szL zs)) pr (decide ((v + M) % szL zs = pr)) tk) := by rw [hX1]; exact rZ.setAll rfl
      replace rP : Row X1 w.heap.size 154 [.int .i64 x, .int .i64 s] := by rw [hX1]; exact rP.setCellsO (by omega) _ _
      replace rD : Row X1 (w.heap.size + 1) 33 (dvC (.slice (some ⟨B, 0, none⟩) n cap) (dgL zs ((v + M) % szL zs)) pr (decide ((v + M) % szL zs = pr)) tk) := by rw [hX1]; exact rD.setCellsO (by omega) _ _
      have nB : Below w.heap.size w X1 := by rw [hX1]; exact below_setCellsD _ _ _ (bW0.trans (bR.mono bW0.size)) (by omega)
      have hS1 : (fun W' : World => Row W' w.heap.size 154 [.int .i64 x, .int .i64 s] ∧ Row W' (w.heap.size + 1) 33 (dvC (.slice (some ⟨B, 0, none⟩) n cap) (dgL zs ((v + M) % szL zs)) pr (decide ((v + M) % szL zs = pr)) tk)) X1 := ⟨rP, rD⟩
      have hXX1 : World.setCells W0 ((w.heap.size + 1 + 1)) 0 ((dvC (.slice (some ⟨B, 0, none⟩) n cap) (dgL zs ((v + M) % szL zs)) pr (decide ((v + M) % szL zs = pr)) tk) : List Value).toArray.toList = X1 := hX1.symm
      rw [hXX1]
      refine hK _ _ ⟨hS1, ?_⟩
      try simp only [Act.put, List.setIfInBounds_toArray, List.set_cons_zero, List.set_cons_succ]
      clear hX1 hXX1 hK K hS0
      refine wpAnyH_takeD (some 5) (i := 6) (v := ?_) rfl rfl (by kernel_rfl) (by kernel_rfl) (by kernel_rfl) (fun _ _ _ h => h) (.inl ⟨by kernel_rfl, ?_⟩) hS1 ?_
      rotate_left
      · intro w' hw'; go_simp; try with_reducible rfl
      try simp only [Act.put, List.setIfInBounds_toArray, List.set_cons_zero, List.set_cons_succ]
      refine wpAnyH_takeD (some 6) (i := 7) (v := ?_) rfl rfl (by kernel_rfl) (by kernel_rfl) (by kernel_rfl) (fun _ _ _ h => h) (.inl ⟨by kernel_rfl, ?_⟩) hS1 ?_
      rotate_left
      · intro w' hw'; go_simp; try with_reducible rfl
      try simp only [Act.put, List.setIfInBounds_toArray, List.set_cons_zero, List.set_cons_succ]
      refine wpAnyH_done (by kernel_rfl) ?_ _
      go_wp2_with fail
      exact bodyPost_ret (v := .tuple #[.agg (dvC (.slice (some ⟨B, 0, none⟩) n cap) (dgL zs ((v + M) % szL zs)) pr (decide ((v + M) % szL zs = pr)) tk).toArray, .int .i64 0, .nilIface]) (results_css (p := 4) (q := 5) (r := 6) (fn := Tryd.f131) rfl _ _ _ _ _ _ _ _ rfl rfl rfl nZ Tryd.underlying33 rfl hID) rfl ⟨rfl, nB⟩
set_option maxRecDepth 100000 in
set_option maxHeartbeats 4000000 in
theorem pulses_a2 (B n cap : Nat) (zs : List Int) (v pr : Int) (st : Bool) (tk : Int) (x s : Int) (w : World) (hS : Stk w B zs) (hn : n = zs.length) (hv : okL zs = true) (hok : okS (szL zs) (v, pr, st, tk)) (hs : s = 1 ∨ s = -1) (hx : 0 ≤ x ∧ x ≤ 1000000000000) (hpr : pr = -1) (hpos : x = 0) :
    Calls Tryd.prog 131 #[.agg #[.int .i64 x, .int .i64 s], .agg (dvC (.slice (some ⟨B, 0, none⟩) n cap) (dgL zs v) pr st tk).toArray] w fun e w' => e = .returned (.tuple #[.agg (dvC (.slice (some ⟨B, 0, none⟩) n cap) (dgL zs v) pr st tk).toArray, .int .i64 0, .nilIface]) ∧ Below w.heap.size w w' := by
  obtain ⟨_, h8, hin, z1, z2⟩ := okL_out hv
  obtain ⟨⟨v0, v1⟩, ⟨p0, p1⟩, hst, t0, t1⟩ := hok
  simp only at v0 v1 p0 p1 hst t0 t1
  have hID : (Tryd.prog.info? 33).map (·.size) = some 12 := Tryd.infoDev
  obtain ⟨V, hV⟩ : ∃ V, V = ((w.alloc (.cells #[.int .i64 x, .int .i64 s] 154)).alloc (.cells (dvC (.slice (some ⟨B, 0, none⟩) n cap) (dgL zs v) pr st tk).toArray 33)).alloc (.cells #[.slice none 0 0, .int .u8 0, .int .u8 0, .int .u8 0, .int .u8 0, .int .u8 0, .int .u8 0, .int .u8 0, .int .u8 0, .int .i64 0, .bool false, .int .i64 0] 33) := ⟨_, rfl⟩
  have bV : Below w.heap.size w V := by rw [hV]; exact (((Below.refl _ _).alloc (Nat.le_refl _) _).alloc (by simp) _).alloc (by simp; omega) _
  have sV : V.heap.size = w.heap.size + 1 + 1 + 1 := by rw [hV]; simp
  have rP : Row V w.heap.size 154 [.int .i64 x, .int .i64 s] := by rw [hV]; exact ((Row.new w _ _).alloc _).alloc _
  have rD : Row V (w.heap.size + 1) 33 (dvC (.slice (some ⟨B, 0, none⟩) n cap) (dgL zs v) pr st tk) := by
    have h := (Row.new (w.alloc (.cells #[.int .i64 x, .int .i64 s] 154)) 33 (dvC (.slice (some ⟨B, 0, none⟩) n cap) (dgL zs v) pr st tk)).alloc (.cells #[.slice none 0 0, .int .u8 0, .int .u8 0, .int .u8 0, .int .u8 0, .int .u8 0, .int .u8 0, .int .u8 0, .int .u8 0, .int .i64 0, .bool false, .int .i64 0] 33)
    simp only [World.size_alloc] at h
    rw [hV]; exact h
  have rZ : Row V (w.heap.size + 1 + 1) 33 dvZ := by
    have h := Row.new ((w.alloc (.cells #[.int .i64 x, .int .i64 s] 154)).alloc (.cells (dvC (.slice (some ⟨B, 0, none⟩) n cap) (dgL zs v) pr st tk).toArray 33)) 33 dvZ
    simp only [World.size_alloc] at h
    rw [hV]; exact h
  have sS := hS.below bV hS.1
  have HVL := hid (fun W h => valueV B n cap zs v pr st tk W h hn hv ⟨v0, v1⟩)
  have q0 := rP.cell 0; have q1 := rP.cell 1
  simp only [List.getElem?_cons_zero, List.getElem?_cons_succ] at q0 q1
  have c9 : V.cell? ⟨(w.heap.size + 1), 9, none⟩ = some (.int .i64 pr) := rD.cell 9
  have HV := hid hV
  have e9 : (pr != -1) = false := by rw [hpr]; rfl
  have g5 : ¬ 0 < x := by omega
  have HSS := hid hS
  rw [hV] at q0 q1 c9
  clear hS hn hv h8 hin z1 z2 v0 v1 p0 p1 hst t0 t1 hs hx hV hpr hpos
  go_enter Tryd.func131, Tryd.ntmps131
  go_wp2_with fail
  rw [← HV.out]
  have bW1 := bV
  clear q0 q1 c9
  refine wp_region_held (S := fun W' : World => Row W' w.heap.size 154 [.int .i64 x, .int .i64 s] ∧ Row W' (w.heap.size + 1) 33 (dvC (.slice (some ⟨B, 0, none⟩) n cap) (dgL zs v) pr st tk)) (by kernel_rfl) ?_
  change wpAnyH _ _ _ _ _ _ _ _ (World.drew _)
  obtain ⟨W0, hW0⟩ : ∃ X, X = World.drew (V) := ⟨_, rfl⟩
  have hD0 : Below (V).heap.size (V) W0 := by rw [hW0]; exact (Below.refl _ _).drew
  replace rP := rP.below hD0 rP.lt
  replace rD := rD.below hD0 rD.lt
  replace rZ := rZ.below hD0 rZ.lt
  replace sS := sS.below hD0 sS.1
  have bW0 := bW1.trans (hD0.mono bW1.size)
  have bR : Below W0.heap.size W0 W0 := Below.refl _ _
  rw [← hW0]
  clear hW0 hD0
  have l_rP := rP.lt
  have l_rD := rD.lt
  have l_rZ := rZ.lt
  have l_sS := sS.1
  have hS0 : (fun W' : World => Row W' w.heap.size 154 [.int .i64 x, .int .i64 s] ∧ Row W' (w.heap.size + 1) 33 (dvC (.slice (some ⟨B, 0, none⟩) n cap) (dgL zs v) pr st tk)) W0 := ⟨rP, rD⟩
  refine wpAnyH_takeD (some 30) (i := 0) (v := .agg ((dvC (.slice (some ⟨B, 0, none⟩) n cap) (dgL zs v) pr st tk)).toArray) rfl rfl (by kernel_rfl) (by kernel_rfl) (by kernel_rfl) (fun _ _ _ h => h) (.inl ⟨by kernel_rfl, ?_⟩) hS0 ?_
  · intro w' hw'; exact exec_load_row 33 _ rfl (w.heap.size + 1) rfl 33 ((dvC (.slice (some ⟨B, 0, none⟩) n cap) (dgL zs v) pr st tk)).toArray _ (hw'.2) Tryd.underlying33 rfl hID
  try simp only [Act.put, List.setIfInBounds_toArray, List.set_cons_zero, List.set_cons_succ]
  refine wpAnyH_takeD (some 31) (i := 1) (v := ?_) rfl rfl (by kernel_rfl) (by kernel_rfl) (by kernel_rfl) (fun _ _ _ h => h) (.inl ⟨by kernel_rfl, ?_⟩) hS0 ?_
  rotate_left
  · intro w' hw'; have hrow0 := hw'.1; have e0x0 := Row.cell hrow0 0; have e0x1 := Row.cell hrow0 1; simp only [List.getElem?_cons_zero, List.getElem?_cons_succ] at e0x0 e0x1; clear hrow0; have e1 := hw'.2; clear hw'; go_simp; try with_reducible rfl
  try simp only [Act.put, List.setIfInBounds_toArray, List.set_cons_zero, List.set_cons_succ]
  refine wpAnyH_takeD (some 32) (i := 2) (v := ?_) rfl rfl (by kernel_rfl) (by kernel_rfl) (by kernel_rfl) (fun _ _ _ h => h) (.inl ⟨by kernel_rfl, ?_⟩) hS0 ?_
  rotate_left
  · intro w' hw'; have hrow0 := hw'.1; have e0x0 := Row.cell hrow0 0; have e0x1 := Row.cell hrow0 1; simp only [List.getElem?_cons_zero, List.getElem?_cons_succ] at e0x0 e0x1; clear hrow0; have e1 := hw'.2; clear hw'; go_simp; try with_reducible rfl
  try simp only [Act.put, List.setIfInBounds_toArray, List.set_cons_zero, List.set_cons_succ]
  refine wpAnyH_takeD (some 33) (i := 3) (v := ?_) rfl rfl (by kernel_rfl) (by kernel_rfl) (by kernel_rfl) (fun _ _ _ h => h) (.inl ⟨by kernel_rfl, ?_⟩) hS0 ?_
  rotate_left
  · intro w' hw'; go_simp; try with_reducible rfl
  try simp only [Act.put, List.setIfInBounds_toArray, List.set_cons_zero, List.set_cons_succ]
  refine wpAnyH_takeD (some 34) (i := 4) (v := ?_) rfl rfl (by kernel_rfl) (by kernel_rfl) (by kernel_rfl) (fun _ _ _ h => h) (.inl ⟨by kernel_rfl, ?_⟩) hS0 ?_
  rotate_left
  · intro w' hw'; go_simp; try with_reducible rfl
  try simp only [Act.put, List.setIfInBounds_toArray, List.set_cons_zero, List.set_cons_succ]
  refine wpAnyH_all (rs := [5]) (by kernel_rfl) (by simp) ?_
  intro i hi; simp only [List.mem_cons, List.not_mem_nil, or_false] at hi
  subst hi
  refine wpOp_step rfl (fun K hK => ?_)
  rw [if_pos (by kernel_rfl)]
  refine wp_store_mid 33 (.tmp 4) (.tmp 30) rfl ((w.heap.size + 1 + 1)) 0 ((dvC (.slice (some ⟨B, 0, none⟩) n cap) (dgL zs v) pr st tk) : List Value).toArray rfl rfl (rZ.thereO 0 12 (by rw [dvZ_len]; omega)) hID (all_oneCell_toArray (dvC_one _ _ _ _ _ _ _)) ?_
  obtain ⟨X1, hX1⟩ : ∃ X, X = World.setCells W0 ((w.heap.size + 1 + 1)) 0 ((dvC (.slice (some ⟨B, 0, none⟩) n cap) (dgL zs v) pr st tk) : List Value) := ⟨_, rfl⟩
  have nZ : Row X1 (w.heap.size + 1 + 1) 33 (dvC (.slice (some ⟨B, 0, none⟩) n cap) (dgL zs v) pr st tk) := by rw [hX1]; exact rZ.setAll rfl
  replace rP : Row X1 w.heap.size 154 [.int .i64 x, .int .i64 s] := by rw [hX1]; exact rP.setCellsO (by omega) _ _
  replace rD : Row X1 (w.heap.size + 1) 33 (dvC (.slice (some ⟨B, 0, none⟩) n cap) (dgL zs v) pr st tk) := by rw [hX1]; exact rD.setCellsO (by omega) _ _
  have nB : Below w.heap.size w X1 := by rw [hX1]; exact below_setCellsD _ _ _ (bW0.trans (bR.mono bW0.size)) (by omega)
  have hS1 : (fun W' : World => Row W' w.heap.size 154 [.int .i64 x, .int .i64 s] ∧ Row W' (w.heap.size + 1) 33 (dvC (.slice (some ⟨B, 0, none⟩) n cap) (dgL zs v) pr st tk)) X1 := ⟨rP, rD⟩
  have hXX1 : World.setCells W0 ((w.heap.size + 1 + 1)) 0 ((dvC (.slice (some ⟨B, 0, none⟩) n cap) (dgL zs v) pr st tk) : List Value).toArray.toList = X1 := hX1.symm
  rw [hXX1]
  refine hK _ _ ⟨hS1, ?_⟩
  try simp only [Act.put, List.setIfInBounds_toArray, List.set_cons_zero, List.set_cons_succ]
  clear hX1 hXX1 hK K hS0
  refine wpAnyH_takeD (some 5) (i := 6) (v := ?_) rfl rfl (by kernel_rfl) (by kernel_rfl) (by kernel_rfl) (fun _ _ _ h => h) (.inl ⟨by kernel_rfl, ?_⟩) hS1 ?_
  rotate_left
  · intro w' hw'; go_simp; try with_reducible rfl
  try simp only [Act.put, List.setIfInBounds_toArray, List.set_cons_zero, List.set_cons_succ]
  refine wpAnyH_takeD (some 6) (i := 7) (v := ?_) rfl rfl (by kernel_rfl) (by kernel_rfl) (by kernel_rfl) (fun _ _ _ h => h) (.inl ⟨by kernel_rfl, ?_⟩) hS1 ?_
  rotate_left
  · intro w' hw'; go_simp; try with_reducible rfl
  try simp only [Act.put, List.setIfInBounds_toArray, List.set_cons_zero, List.set_cons_succ]
  refine wpAnyH_done (by kernel_rfl) ?_ _
  go_wp2_with fail
  exact bodyPost_ret (v := .tuple #[.agg (dvC (.slice (some ⟨B, 0, none⟩) n cap) (dgL zs v) pr st tk).toArray, .int .i64 0, .nilIface]) (results_css (p := 4) (q := 5) (r := 6) (fn := Tryd.f131) rfl _ _ _ _ _ _ _ _ rfl rfl rfl nZ Tryd.underlying33 rfl hID) rfl ⟨rfl, nB⟩
set_option maxRecDepth 100000 in
set_option maxHeartbeats 4000000 in
theorem pulses_b1 (B n cap : Nat) (zs : List Int) (v pr : Int) (st : Bool) (tk : Int) (x s C : Int) (w : World) (hS : Stk w B zs) (hn : n = zs.length) (hv : okL zs = true) (hok : okS (szL zs) (v, pr, st, tk)) (hs : s = 1 ∨ s = -1) (hx : 0 ≤ x ∧ x ≤ 1000000000000) (hp0 : 0 ≤ pr) (hC : C = min x (if st = true then 0 else untX ((pr - v) * s) (szL zs))) (hpos : 0 < C) :
    Calls Tryd.prog 131 #[.agg #[.int .i64 x, .int .i64 s], .agg (dvC (.slice (some ⟨B, 0, none⟩) n cap) (dgL zs v) pr st tk).toArray] w fun e w' => e = .returned (.tuple #[.agg (dvC (.slice (some ⟨B, 0, none⟩) n cap) (dgL zs ((v + C * s) % szL zs)) pr (decide ((v + C * s) % szL zs = pr)) tk).toArray, .int .i64 (x - C), .nilIface]) ∧ Below w.heap.size w w' := by
  obtain ⟨_, h8, hin, z1, z2⟩ := okL_out hv
  obtain ⟨⟨v0, v1⟩, ⟨p0, p1⟩, hst, t0, t1⟩ := hok
  simp only at v0 v1 p0 p1 hst t0 t1
  have hID : (Tryd.prog.info? 33).map (·.size) = some 12 := Tryd.infoDev
  obtain ⟨V, hV⟩ : ∃ V, V = ((w.alloc (.cells #[.int .i64 x, .int .i64 s] 154)).alloc (.cells (dvC (.slice (some ⟨B, 0, none⟩) n cap) (dgL zs v) pr st tk).toArray 33)).alloc (.cells #[.slice none 0 0, .int .u8 0, .int .u8 0, .int .u8 0, .int .u8 0, .int .u8 0, .int .u8 0, .int .u8 0, .int .u8 0, .int .i64 0, .bool false, .int .i64 0] 33) := ⟨_, rfl⟩
  have bV : Below w.heap.size w V := by rw [hV]; exact (((Below.refl _ _).alloc (Nat.le_refl _) _).alloc (by simp) _).alloc (by simp; omega) _
  have sV : V.heap.size = w.heap.size + 1 + 1 + 1 := by rw [hV]; simp
  have rP : Row V w.heap.size 154 [.int .i64 x, .int .i64 s] := by rw [hV]; exact ((Row.new w _ _).alloc _).alloc _
  have rD : Row V (w.heap.size + 1) 33 (dvC (.slice (some ⟨B, 0, none⟩) n cap) (dgL zs v) pr st tk) := by
    have h := (Row.new (w.alloc (.cells #[.int .i64 x, .int .i64 s] 154)) 33 (dvC (.slice (some ⟨B, 0, none⟩) n cap) (dgL zs v) pr st tk)).alloc (.cells #[.slice none 0 0, .int .u8 0, .int .u8 0, .int .u8 0, .int .u8 0, .int .u8 0, .int .u8 0, .int .u8 0, .int .u8 0, .int .i64 0, .bool false, .int .i64 0] 33)
    simp only [World.size_alloc] at h
    rw [hV]; exact h
  have rZ : Row V (w.heap.size + 1 + 1) 33 dvZ := by
    have h := Row.new ((w.alloc (.cells #[.int .i64 x, .int .i64 s] 154)).alloc (.cells (dvC (.slice (some ⟨B, 0, none⟩) n cap) (dgL zs v) pr st tk).toArray 33)) 33 dvZ
    simp only [World.size_alloc] at h
    rw [hV]; exact h
  have sS := hS.below bV hS.1
  have HVL := hid (fun W h => valueV B n cap zs v pr st tk W h hn hv ⟨v0, v1⟩)
  have q0 := rP.cell 0; have q1 := rP.cell 1
  simp only [List.getElem?_cons_zero, List.getElem?_cons_succ] at q0 q1
  have c9 : V.cell? ⟨(w.heap.size + 1), 9, none⟩ = some (.int .i64 pr) := rD.cell 9
  have HV := hid hV
  have HUN := hid (fun W h => untilV B n cap zs v pr st tk s ((pr - v) * s) W h hn hv ⟨v0, v1⟩ ⟨hp0, p1⟩ rfl (by rcases hs with rfl | rfl <;> omega))
  have hU0 : 0 ≤ (if st = true then 0 else untX ((pr - v) * s) (szL zs)) := by
    split
    · omega
    · have := (untX_val hs ⟨hp0, p1⟩ ⟨v0, v1⟩).2.1; omega
  have hU1 : (if st = true then 0 else untX ((pr - v) * s) (szL zs)) ≤ szL zs := by
    split
    · omega
    · have := (untX_val hs ⟨hp0, p1⟩ ⟨v0, v1⟩).2.2.1; omega
  obtain ⟨u, hu⟩ : ∃ y, (if st = true then 0 else untX ((pr - v) * s) (szL zs)) = y := ⟨_, rfl⟩
  rw [hu] at HUN hC hU0 hU1
  have MN : ∀ w, Sem.run Tryd.prog (Builtin.min_ #[2, 2] 2 #[.int .i64 x, .int .i64 u]) w = .ok (.int .i64 C) w := fun w => by
    have : (if u < x then u else x) = min x u := by split <;> omega
    rw [hC, ← this]; rfl
  have e9 : (pr != -1) = true := by simp; omega
  have e9' : ¬ pr = -1 := by omega
  have hMb : -1000000000000 ≤ C * s ∧ C * s ≤ 1000000000000 := by rcases hs with rfl | rfl <;> omega
  obtain ⟨M, hM⟩ : ∃ y, C * s = y := ⟨_, rfl⟩
  rw [hM] at hMb ⊢
  have HSH := hid (fun W h => showing_any B n cap zs (dgL zs v) pr st tk (v + M) W h hn hv (by omega))
  have wm : IntKind.i64.wrap M = M := IntWalk.i64_in _ (by omega)
  have wn : IntKind.i64.wrap (v + M) = v + M := IntWalk.i64_in _ (by omega)
  have g5 : 0 < C := hpos
  have ws : IntKind.i64.wrap (x - C) = (x - C) := IntWalk.i64_in _ (by omega)
  have HSS := hid hS
  rw [hV] at q0 q1 c9
  clear hS hn hv h8 hin z1 z2 v0 v1 p0 p1 hst t0 t1 hs hx hV hp0 hU0 hU1 hu hC hMb hpos
  go_enter Tryd.func131, Tryd.ntmps131
  go_wp2_with ((with_reducible refine wpList_load_row rfl 33 _ rfl (w.heap.size + 1) ?_ 33 (dvC (.slice (some ⟨B, 0, none⟩) n cap) (dgL zs v) pr st tk).toArray (0, 0) _ ?_ Tryd.underlying33 ?_ ?_ ?_); rfl; rw [← HV.out]; exact rD; rfl; exact hID)
  rw [← HV.out]
  refine (HUN.out V sS).mono ?_
  rintro e w1 ⟨rfl, hB1⟩
  have bW1 := bV.trans (hB1.mono (by omega))
  replace rP := rP.below hB1 rP.lt; replace rD := rD.below hB1 rD.lt; replace rZ := rZ.below hB1 rZ.lt; replace sS := sS.below hB1 sS.1
  clear q0 q1 c9 hB1
  go_wp2_with fail
  refine wp_region_held (S := fun W' : World => Row W' w.heap.size 154 [.int .i64 x, .int .i64 s]) (by kernel_rfl) ?_
  change wpAnyH _ _ _ _ _ _ _ _ (World.drew _)
  obtain ⟨W0, hW0⟩ : ∃ X, X = World.drew (w1) := ⟨_, rfl⟩
  have hD0 : Below (w1).heap.size (w1) W0 := by rw [hW0]; exact (Below.refl _ _).drew
  replace rP := rP.below hD0 rP.lt
  replace rD := rD.below hD0 rD.lt
  replace rZ := rZ.below hD0 rZ.lt
  replace sS := sS.below hD0 sS.1
  have bW0 := bW1.trans (hD0.mono bW1.size)
  have bR : Below W0.heap.size W0 W0 := Below.refl _ _
  rw [← hW0]
  clear hW0 hD0
  have l_rP := rP.lt
  have l_rD := rD.lt
  have l_rZ := rZ.lt
  have l_sS := sS.1
  have hS0 : (fun W' : World => Row W' w.heap.size 154 [.int .i64 x, .int .i64 s]) W0 := rP
  refine wpAnyH_takeD (some 24) (i := 3) (v := ?_) rfl rfl (by kernel_rfl) (by kernel_rfl) (by kernel_rfl) (fun _ _ _ h => h) (.inl ⟨by kernel_rfl, ?_⟩) hS0 ?_
  rotate_left
  · intro w' hw'; go_simp; try with_reducible rfl
  try simp only [Act.put, List.setIfInBounds_toArray, List.set_cons_zero, List.set_cons_succ]
  refine wpAnyH_takeD (some 25) (i := 4) (v := ?_) rfl rfl (by kernel_rfl) (by kernel_rfl) (by kernel_rfl) (fun _ _ _ h => h) (.inl ⟨by kernel_rfl, ?_⟩) hS0 ?_
  rotate_left
  · intro w' hw'; have hrow0 := hw'; have e0x0 := Row.cell hrow0 0; have e0x1 := Row.cell hrow0 1; simp only [List.getElem?_cons_zero, List.getElem?_cons_succ] at e0x0 e0x1; clear hrow0; clear hw'; go_simp; try with_reducible rfl
  try simp only [Act.put, List.setIfInBounds_toArray, List.set_cons_zero, List.set_cons_succ]
  refine wpAnyH_takeD (some 26) (i := 5) (v := ?_) rfl rfl (by kernel_rfl) (by kernel_rfl) (by kernel_rfl) (fun _ _ _ h => h) (.inl ⟨by kernel_rfl, ?_⟩) hS0 ?_
  rotate_left
  · intro w' hw'; have hrow0 := hw'; have e0x0 := Row.cell hrow0 0; have e0x1 := Row.cell hrow0 1; simp only [List.getElem?_cons_zero, List.getElem?_cons_succ] at e0x0 e0x1; clear hrow0; clear hw'; go_simp; try with_reducible rfl
  try simp only [Act.put, List.setIfInBounds_toArray, List.set_cons_zero, List.set_cons_succ]
  refine wpAnyH_takeD (some 27) (i := 6) (v := ?_) rfl rfl (by kernel_rfl) (by kernel_rfl) (by kernel_rfl) (fun _ _ _ h => h) (.inl ⟨by kernel_rfl, ?_⟩) hS0 ?_
  rotate_left
  · intro w' hw'; go_simp; try with_reducible rfl
  try simp only [Act.put, List.setIfInBounds_toArray, List.set_cons_zero, List.set_cons_succ]
  refine wpAnyH_all (rs := [0, 1]) (by kernel_rfl) (by simp) ?_
  intro i hi; simp only [List.mem_cons, List.not_mem_nil, or_false] at hi
  rcases hi with rfl | rfl
  · refine wpOp_step rfl (fun K hK => ?_)
    rw [if_pos (by kernel_rfl)]
    refine wp_load_row 33 _ rfl (w.heap.size + 1) rfl 33 ((dvC (.slice (some ⟨B, 0, none⟩) n cap) (dgL zs v) pr st tk)).toArray (0, 0) _ rD Tryd.underlying33 rfl hID ?_
    refine hK _ _ ⟨hS0, ?_⟩
    try simp only [Act.put, List.setIfInBounds_toArray, List.set_cons_zero, List.set_cons_succ]
    clear hK K
    refine wpAnyH_all (rs := [1]) (by kernel_rfl) (by simp) ?_
    intro i hi; simp only [List.mem_cons, List.not_mem_nil, or_false] at hi
    subst hi
    refine wpOp_step rfl (fun K hK => ?_)
    rw [if_pos (by kernel_rfl)]
    refine wp_load_row 33 _ rfl (w.heap.size + 1) rfl 33 ((dvC (.slice (some ⟨B, 0, none⟩) n cap) (dgL zs v) pr st tk)).toArray (0, 0) _ rD Tryd.underlying33 rfl hID ?_
    refine hK _ _ ⟨hS0, ?_⟩
    try simp only [Act.put, List.setIfInBounds_toArray, List.set_cons_zero, List.set_cons_succ]
    clear hK K
    refine wpAnyH_all (rs := [2]) (by kernel_rfl) (by simp) ?_
    intro i hi; simp only [List.mem_cons, List.not_mem_nil, or_false] at hi
    subst hi
    refine wpOp_step rfl (fun K hK => ?_)
    go_simp
    with_reducible refine (HVL.out W0 sS).mono ?_
    rintro e v3 ⟨rfl, hB3⟩
    replace rP := rP.below hB3 rP.lt
    replace rD := rD.below hB3 rD.lt
    replace rZ := rZ.below hB3 rZ.lt
    replace sS := sS.below hB3 sS.1
    replace bR := bR.trans (hB3.mono bR.size)
    have hS3 : (fun W' : World => Row W' w.heap.size 154 [.int .i64 x, .int .i64 s]) v3 := rP
    refine hK _ _ ⟨hS3, ?_⟩
    try simp only [Act.put, List.setIfInBounds_toArray, List.set_cons_zero, List.set_cons_succ]
    clear hB3 hK K hS0
    refine wpAnyH_takeD (some 28) (i := 7) (v := ?_) rfl rfl (by kernel_rfl) (by kernel_rfl) (by kernel_rfl) (fun _ _ _ h => h) (.inl ⟨by kernel_rfl, ?_⟩) hS3 ?_
    rotate_left
    · intro w' hw'; go_simp; try with_reducible rfl
    try simp only [Act.put, List.setIfInBounds_toArray, List.set_cons_zero, List.set_cons_succ]
    refine wpAnyH_all (rs := [8]) (by kernel_rfl) (by simp) ?_
    intro i hi; simp only [List.mem_cons, List.not_mem_nil, or_false] at hi
    subst hi
    refine wpOp_step rfl (fun K hK => ?_)
    go_simp
    with_reducible refine (HSH.out v3 sS).mono ?_
    rintro e v4 ⟨rfl, hB4⟩
    replace rP := rP.below hB4 rP.lt
    replace rD := rD.below hB4 rD.lt
    replace rZ := rZ.below hB4 rZ.lt
    replace sS := sS.below hB4 sS.1
    replace bR := bR.trans (hB4.mono bR.size)
    have hS4 : (fun W' : World => Row W' w.heap.size 154 [.int .i64 x, .int .i64 s]) v4 := rP
    refine hK _ _ ⟨hS4, ?_⟩
    try simp only [Act.put, List.setIfInBounds_toArray, List.set_cons_zero, List.set_cons_succ]
    clear hB4 hK K hS3
    refine wpAnyH_all (rs := [9]) (by kernel_rfl) (by simp) ?_
    intro i hi; simp only [List.mem_cons, List.not_mem_nil, or_false] at hi
    subst hi
    refine wpOp_step rfl (fun K hK => ?_)
    rw [if_pos (by kernel_rfl)]
    refine wp_store_mid 33 (.tmp 3) (.tmp 29) rfl ((w.heap.size + 1)) 0 ((dvC (.slice (some ⟨B, 0, none⟩) n cap) (dgL zs ((v + M) % szL zs)) pr (decide ((v + M) % szL zs = pr)) tk) : List Value).toArray rfl rfl (rD.thereO 0 12 (by rw [dvC_len]; omega)) hID (all_oneCell_toArray (dvC_one _ _ _ _ _ _ _)) ?_
    obtain ⟨X5, hX5⟩ : ∃ X, X = World.setCells v4 ((w.heap.size + 1)) 0 ((dvC (.slice (some ⟨B, 0, none⟩) n cap) (dgL zs ((v + M) % szL zs)) pr (decide ((v + M) % szL zs = pr)) tk) : List Value) := ⟨_, rfl⟩
    have nD : Row X5 (w.heap.size + 1) 33 (dvC (.slice (some ⟨B, 0, none⟩) n cap) (dgL zs ((v + M) % szL zs)) pr (decide ((v + M) % szL zs = pr)) tk) := by rw [hX5]; exact rD.setAll rfl
    replace rP : Row X5 w.heap.size 154 [.int .i64 x, .int .i64 s] := by rw [hX5]; exact rP.setCellsO (by omega) _ _
    replace rZ : Row X5 (w.heap.size + 1 + 1) 33 dvZ := by rw [hX5]; exact rZ.setCellsO (by omega) _ _
    have nB : Below w.heap.size w X5 := by rw [hX5]; exact below_setCellsD _ _ _ (bW0.trans (bR.mono bW0.size)) (by omega)
    have nS : Stk X5 B zs := HSS.out.below nB HSS.out.1
    have hS5 : (fun W' : World => Row W' w.heap.size 154 [.int .i64 x, .int .i64 s]) X5 := rP
    have hXX5 : World.setCells v4 ((w.heap.size + 1)) 0 ((dvC (.slice (some ⟨B, 0, none⟩) n cap) (dgL zs ((v + M) % szL zs)) pr (decide ((v + M) % szL zs = pr)) tk) : List Value).toArray.toList = X5 := hX5.symm
    rw [hXX5]
    refine hK _ _ ⟨hS5, ?_⟩
    try simp only [Act.put, List.setIfInBounds_toArray, List.set_cons_zero, List.set_cons_succ]
    clear hX5 hXX5 hK K hS4
    refine wpAnyH_done (by kernel_rfl) ?_ _
    clear rD sS bR bW0
    have rD := nD; have sS := nS; have bW1 := nB
    clear nD nS nB
    go_wp2_with fail
    refine wp_region_held (S := fun W' : World => Row W' w.heap.size 154 [.int .i64 x, .int .i64 s] ∧ Row W' (w.heap.size + 1) 33 (dvC (.slice (some ⟨B, 0, none⟩) n cap) (dgL zs ((v + M) % szL zs)) pr (decide ((v + M) % szL zs = pr)) tk)) (by kernel_rfl) ?_
    change wpAnyH _ _ _ _ _ _ _ _ (World.drew _)
    obtain ⟨W0, hW0⟩ : ∃ X, X = World.drew (X5) := ⟨_, rfl⟩
    have hD0 : Below (X5).heap.size (X5) W0 := by rw [hW0]; exact (Below.refl _ _).drew
    replace rP := rP.below hD0 rP.lt
    replace rD := rD.below hD0 rD.lt
    replace rZ := rZ.below hD0 rZ.lt
    replace sS := sS.below hD0 sS.1
    have bW0 := bW1.trans (hD0.mono bW1.size)
    have bR : Below W0.heap.size W0 W0 := Below.refl _ _
    rw [← hW0]
    clear hW0 hD0
    have l_rP := rP.lt
    have l_rD := rD.lt
    have l_rZ := rZ.lt
    have l_sS := sS.1
    have hS0 : (fun W' : World => Row W' w.heap.size 154 [.int .i64 x, .int .i64 s] ∧ Row W' (w.heap.size + 1) 33 (dvC (.slice (some ⟨B, 0, none⟩) n cap) (dgL zs ((v + M) % szL zs)) pr (decide ((v + M) % szL zs = pr)) tk)) W0 := ⟨rP, rD⟩
    refine wpAnyH_takeD (some 30) (i := 0) (v := .agg ((dvC (.slice (some ⟨B, 0, none⟩) n cap) (dgL zs ((v + M) % szL zs)) pr (decide ((v + M) % szL zs = pr)) tk)).toArray) rfl rfl (by kernel_rfl) (by kernel_rfl) (by kernel_rfl) (fun _ _ _ h => h) (.inl ⟨by kernel_rfl, ?_⟩) hS0 ?_
    · intro w' hw'; exact exec_load_row 33 _ rfl (w.heap.size + 1) rfl 33 ((dvC (.slice (some ⟨B, 0, none⟩) n cap) (dgL zs ((v + M) % szL zs)) pr (decide ((v + M) % szL zs = pr)) tk)).toArray _ (hw'.2) Tryd.underlying33 rfl hID
    try simp only [Act.put, List.setIfInBounds_toArray, List.set_cons_zero, List.set_cons_succ]
    refine wpAnyH_takeD (some 31) (i := 1) (v := ?_) rfl rfl (by kernel_rfl) (by kernel_rfl) (by kernel_rfl) (fun _ _ _ h => h) (.inl ⟨by kernel_rfl, ?_⟩) hS0 ?_
    rotate_left
    · intro w' hw'; have hrow0 := hw'.1; have e0x0 := Row.cell hrow0 0; have e0x1 := Row.cell hrow0 1; simp only [List.getElem?_cons_zero, List.getElem?_cons_succ] at e0x0 e0x1; clear hrow0; have e1 := hw'.2; clear hw'; go_simp; try with_reducible rfl
    try simp only [Act.put, List.setIfInBounds_toArray, List.set_cons_zero, List.set_cons_succ]
    refine wpAnyH_takeD (some 32) (i := 2) (v := ?_) rfl rfl (by kernel_rfl) (by kernel_rfl) (by kernel_rfl) (fun _ _ _ h => h) (.inl ⟨by kernel_rfl, ?_⟩) hS0 ?_
    rotate_left
    · intro w' hw'; have hrow0 := hw'.1; have e0x0 := Row.cell hrow0 0; have e0x1 := Row.cell hrow0 1; simp only [List.getElem?_cons_zero, List.getElem?_cons_succ] at e0x0 e0x1; clear hrow0; have e1 := hw'.2; clear hw'; go_simp; try with_reducible rfl
    try simp only [Act.put, List.setIfInBounds_toArray, List.set_cons_zero, List.set_cons_succ]
    refine wpAnyH_takeD (some 33) (i := 3) (v := ?_) rfl rfl (by kernel_rfl) (by kernel_rfl) (by kernel_rfl) (fun _ _ _ h => h) (.inl ⟨by kernel_rfl, ?_⟩) hS0 ?_
    rotate_left
    · intro w' hw'; go_simp; try with_reducible rfl
    try simp only [Act.put, List.setIfInBounds_toArray, List.set_cons_zero, List.set_cons_succ]
    refine wpAnyH_takeD (some 34) (i := 4) (v := ?_) rfl rfl (by kernel_rfl) (by kernel_rfl) (by kernel_rfl) (fun _ _ _ h => h) (.inl ⟨by kernel_rfl, ?_⟩) hS0 ?_
    rotate_left
    · intro w' hw'; go_simp; try with_reducible rfl
    try simp only [Act.put, List.setIfInBounds_toArray, List.set_cons_zero, List.set_cons_succ]
    refine wpAnyH_all (rs := [5]) (by kernel_rfl) (by simp) ?_
    intro i hi; simp only [List.mem_cons, List.not_mem_nil, or_false] at hi
    subst hi
    refine wpOp_step rfl (fun K hK => ?_)
    rw [if_pos (by kernel_rfl)]
    refine wp_store_mid 33 (.tmp 4) (.tmp 30) rfl ((w.heap.size + 1 + 1)) 0 ((dvC (.slice (some ⟨B, 0, none⟩) n cap) (dgL zs ((v + M) % szL zs)) pr (decide ((v + M) % szL zs = pr)) tk) : List Value).toArray rfl rfl (rZ.thereO 0 12 (by rw [dvZ_len]; omega)) hID (all_oneCell_toArray (dvC_one _ _ _ _ _ _ _)) ?_
    obtain ⟨X1, hX1⟩ : ∃ X, X = World.setCells W0 ((w.heap.size + 1 + 1)) 0 ((dvC (.slice (some ⟨B, 0, none⟩) n cap) (dgL zs ((v + M) % szL zs)) pr (decide ((v + M) % szL zs = pr)) tk) : List Value) := ⟨_, rfl⟩
    have nZ : Row X1 (w.heap.size + 1 + 1) 33 (dvC (.slice (some ⟨B, 0, none⟩) n cap) (dgL zs ((v + M) % szL zs)) pr (decide ((v + M) % szL zs = pr)) tk) := by rw [hX1]; exact rZ.setAll rfl
    replace rP : Row X1 w.heap.size 154 [.int .i64 x, .int .i64 s] := by rw [hX1]; exact rP.setCellsO (by omega) _ _
    replace rD : Row X1 (w.heap.size + 1) 33 (dvC (.slice (some ⟨B, 0, none⟩) n cap) (dgL zs ((v + M) % szL zs)) pr (decide ((v + M) % szL zs = pr)) tk) := by rw [hX1]; exact rD.setCellsO (by omega) _ _
    have nB : Below w.heap.size w X1 := by rw [hX1]; exact below_setCellsD _ _ _ (bW0.trans (bR.mono bW0.size)) (by omega)
    have hS1 : (fun W' : World => Row W' w.heap.size 154 [.int .i64 x, .int .i64 s] ∧ Row W' (w.heap.size + 1) 33 (dvC (.slice (some ⟨B, 0, none⟩) n cap) (dgL zs ((v + M) % szL zs)) pr (decide ((v + M) % szL zs = pr)) tk)) X1 := ⟨rP, rD⟩
    have hXX1 : World.setCells W0 ((w.heap.size + 1 + 1)) 0 ((dvC (.slice (some ⟨B, 0, none⟩) n cap) (dgL zs ((v + M) % szL zs)) pr (decide ((v + M) % szL zs = pr)) tk) : List Value).toArray.toList = X1 := hX1.symm
    rw [hXX1]
    refine hK _ _ ⟨hS1, ?_⟩
    try simp only [Act.put, List.setIfInBounds_toArray, List.set_cons_zero, List.set_cons_succ]
    clear hX1 hXX1 hK K hS0
    refine wpAnyH_takeD (some 5) (i := 6) (v := ?_) rfl rfl (by kernel_rfl) (by kernel_rfl) (by kernel_rfl) (fun _ _ _ h => h) (.inl ⟨by kernel_rfl, ?_⟩) hS1 ?_
    rotate_left
    · intro w' hw'; go_simp; try with_reducible rfl
    try simp only [Act.put, List.setIfInBounds_toArray, List.set_cons_zero, List.set_cons_succ]
    refine wpAnyH_takeD (some 6) (i := 7) (v := ?_) rfl rfl (by kernel_rfl) (by kernel_rfl) (by kernel_rfl) (fun _ _ _ h => h) (.inl ⟨by kernel_rfl, ?_⟩) hS1 ?_
    rotate_left
    · intro w' hw'; go_simp; try with_reducible rfl
    try simp only [Act.put, List.setIfInBounds_toArray, List.set_cons_zero, List.set_cons_succ]
    refine wpAnyH_done (by kernel_rfl) ?_ _
    go_wp2_with fail
    exact bodyPost_ret (v := .tuple #[.agg (dvC (.slice (some ⟨B, 0, none⟩) n cap) (dgL zs ((v + M) % szL zs)) pr (decide ((v + M) % szL zs = pr)) tk).toArray, .int .i64 (x - C), .nilIface]) (results_css (p := 4) (q := 5) (r := 6) (fn := Tryd.f131) rfl _ _ _ _ _ _ _ _ rfl rfl rfl nZ Tryd.underlying33 rfl hID) rfl ⟨rfl, nB⟩
  · refine wpOp_step rfl (fun K hK => ?_)
    rw [if_pos (by kernel_rfl)]
    refine wp_load_row 33 _ rfl (w.heap.size + 1) rfl 33 ((dvC (.slice (some ⟨B, 0, none⟩) n cap) (dgL zs v) pr st tk)).toArray (0, 0) _ rD Tryd.underlying33 rfl hID ?_
    refine hK _ _ ⟨hS0, ?_⟩
    try simp only [Act.put, List.setIfInBounds_toArray, List.set_cons_zero, List.set_cons_succ]
    clear hK K
    refine wpAnyH_all (rs := [0, 2]) (by kernel_rfl) (by simp) ?_
    intro i hi; simp only [List.mem_cons, List.not_mem_nil, or_false] at hi
    rcases hi with rfl | rfl
    · refine wpOp_step rfl (fun K hK => ?_)
      rw [if_pos (by kernel_rfl)]
      refine wp_load_row 33 _ rfl (w.heap.size + 1) rfl 33 ((dvC (.slice (some ⟨B, 0, none⟩) n cap) (dgL zs v) pr st tk)).toArray (0, 0) _ rD Tryd.underlying33 rfl hID ?_
      refine hK _ _ ⟨hS0, ?_⟩
      try simp only [Act.put, List.setIfInBounds_toArray, List.set_cons_zero, List.set_cons_succ]
      clear hK K
      refine wpAnyH_all (rs := [2]) (by kernel_rfl) (by simp) ?_
      intro i hi; simp only [List.mem_cons, List.not_mem_nil, or_false] at hi
      subst hi
      refine wpOp_step rfl (fun K hK => ?_)
      go_simp
      with_reducible refine (HVL.out W0 sS).mono ?_
      rintro e v8 ⟨rfl, hB8⟩
      replace rP := rP.below hB8 rP.lt
      replace rD := rD.below hB8 rD.lt
      replace rZ := rZ.below hB8 rZ.lt
      replace sS := sS.below hB8 sS.1
      replace bR := bR.trans (hB8.mono bR.size)
      have hS8 : (fun W' : World => Row W' w.heap.size 154 [.int .i64 x, .int .i64 s]) v8 := rP
      refine hK _ _ ⟨hS8, ?_⟩
      try simp only [Act.put, List.setIfInBounds_toArray, List.set_cons_zero, List.set_cons_succ]
      clear hB8 hK K hS0
      refine wpAnyH_takeD (some 28) (i := 7) (v := ?_) rfl rfl (by kernel_rfl) (by kernel_rfl) (by kernel_rfl) (fun _ _ _ h => h) (.inl ⟨by kernel_rfl, ?_⟩) hS8 ?_
      rotate_left
      · intro w' hw'; go_simp; try with_reducible rfl
      try simp only [Act.put, List.setIfInBounds_toArray, List.set_cons_zero, List.set_cons_succ]
      refine wpAnyH_all (rs := [8]) (by kernel_rfl) (by simp) ?_
      intro i hi; simp only [List.mem_cons, List.not_mem_nil, or_false] at hi
      subst hi
      refine wpOp_step rfl (fun K hK => ?_)
      go_simp
      with_reducible refine (HSH.out v8 sS).mono ?_
      rintro e v9 ⟨rfl, hB9⟩
      replace rP := rP.below hB9 rP.lt
      replace rD := rD.below hB9 rD.lt
      replace rZ := rZ.below hB9 rZ.lt
      replace sS := sS.below hB9 sS.1
      replace bR := bR.trans (hB9.mono bR.size)
      have hS9 : (fun W' : World => Row W' w.heap.size 154 [.int .i64 x, .int .i64 s]) v9 := rP
      refine hK _ _ ⟨hS9, ?_⟩
      try simp only [Act.put, List.setIfInBounds_toArray, List.set_cons_zero, List.set_cons_succ]
      clear hB9 hK K hS8
      refine wpAnyH_all (rs := [9]) (by kernel_rfl) (by simp) ?_
      intro i hi; simp only [List.mem_cons, List.not_mem_nil, or_false] at hi
      subst hi
      refine wpOp_step rfl (fun K hK => ?_)
      rw [if_pos (by kernel_rfl)]
      refine wp_store_mid 33 (.tmp 3) (.tmp 29) rfl ((w.heap.size + 1)) 0 ((dvC (.slice (some ⟨B, 0, none⟩) n cap) (dgL zs ((v + M) % szL zs)) pr (decide ((v + M) % szL zs = pr)) tk) : List Value).toArray rfl rfl (rD.thereO 0 12 (by rw [dvC_len]; omega)) hID (all_oneCell_toArray (dvC_one _ _ _ _ _ _ _)) ?_
      obtain ⟨X10, hX10⟩ : ∃ X, X = World.setCells v9 ((w.heap.size + 1)) 0 ((dvC (.slice (some ⟨B, 0, none⟩) n cap) (dgL zs ((v + M) % szL zs)) pr (decide ((v + M) % szL zs = pr)) tk) : List Value) := ⟨_, rfl⟩
      have nD : Row X10 (w.heap.size + 1) 33 (dvC (.slice (some ⟨B, 0, none⟩) n cap) (dgL zs ((v + M) % szL zs)) pr (decide ((v + M) % szL zs = pr)) tk) := by rw [hX10]; exact rD.setAll rfl
      replace rP : Row X10 w.heap.size 154 [.int .i64 x, .int .i64 s] := by rw [hX10]; exact rP.setCellsO (by omega) _ _
      replace rZ : Row X10 (w.heap.size + 1 + 1) 33 dvZ := by rw [hX10]; exact rZ.setCellsO (by omega) _ _
      have nB : Below w.heap.size w X10 := by rw [hX10]; exact below_setCellsD _ _ _ (bW0.trans (bR.mono bW0.size)) (by omega)
      have nS : Stk X10 B zs := HSS.out.below nB HSS.out.1
      have hS10 : (fun W' : World => Row W' w.heap.size 154 [.int .i64 x, .int .i64 s]) X10 := rP
      have hXX10 : World.setCells v9 ((w.heap.size + 1)) 0 ((dvC (.slice (some ⟨B, 0, none⟩) n cap) (dgL zs ((v + M) % szL zs)) pr (decide ((v + M) % szL zs = pr)) tk) : List Value).toArray.toList = X10 := hX10.symm
      rw [hXX10]
      refine hK _ _ ⟨hS10, ?_⟩
      try simp only [Act.put, List.setIfInBounds_toArray, List.set_cons_zero, List.set_cons_succ]
      clear hX10 hXX10 hK K hS9
      refine wpAnyH_done (by kernel_rfl) ?_ _
      clear rD sS bR bW0
      have rD := nD; have sS := nS; have bW1 := nB
      clear nD nS nB
      go_wp2_with fail
      refine wp_region_held (S := fun W' : World => Row W' w.heap.size 154 [.int .i64 x, .int .i64 s] ∧ Row W' (w.heap.size + 1) 33 (dvC (.slice (some ⟨B, 0, none⟩) n cap) (dgL zs ((v + M) % szL zs)) pr (decide ((v + M) % szL zs = pr)) tk)) (by kernel_rfl) ?_
      change wpAnyH _ _ _ _ _ _ _ _ (World.drew _)
      obtain ⟨W0, hW0⟩ : ∃ X, X = World.drew (X10) := ⟨_, rfl⟩
      have hD0 : Below (X10).heap.size (X10) W0 := by rw [hW0]; exact (Below.refl _ _).drew
      replace rP := rP.below hD0 rP.lt
      replace rD := rD.below hD0 rD.lt
      replace rZ := rZ.below hD0 rZ.lt
      replace sS := sS.below hD0 sS.1
      have bW0 := bW1.trans (hD0.mono bW1.size)
      have bR : Below W0.heap.size W0 W0 := Below.refl _ _
      rw [← hW0]
      clear hW0 hD0
      have l_rP := rP.lt
      have l_rD := rD.lt
      have l_rZ := rZ.lt
      have l_sS := sS.1
      have hS0 : (fun W' : World => Row W' w.heap.size 154 [.int .i64 x, .int .i64 s] ∧ Row W' (w.heap.size + 1) 33 (dvC (.slice (some ⟨B, 0, none⟩) n cap) (dgL zs ((v + M) % szL zs)) pr (decide ((v + M) % szL zs = pr)) tk)) W0 := ⟨rP, rD⟩
      refine wpAnyH_takeD (some 30) (i := 0) (v := .agg ((dvC (.slice (some ⟨B, 0, none⟩) n cap) (dgL zs ((v + M) % szL zs)) pr (decide ((v + M) % szL zs = pr)) tk)).toArray) rfl rfl (by kernel_rfl) (by kernel_rfl) (by kernel_rfl) (fun _ _ _ h => h) (.inl ⟨by kernel_rfl, ?_⟩) hS0 ?_
      · intro w' hw'; exact exec_load_row 33 _ rfl (w.heap.size + 1) rfl 33 ((dvC (.slice (some ⟨B, 0, none⟩) n cap) (dgL zs ((v + M) % szL zs)) pr (decide ((v + M) % szL zs = pr)) tk)).toArray _ (hw'.2) Tryd.underlying33 rfl hID
      try simp only [Act.put, List.setIfInBounds_toArray, List.set_cons_zero, List.set_cons_succ]
      refine wpAnyH_takeD (some 31) (i := 1) (v := ?_) rfl rfl (by kernel_rfl) (by kernel_rfl) (by kernel_rfl) (fun _ _ _ h => h) (.inl ⟨by kernel_rfl, ?_⟩) hS0 ?_
      rotate_left
      · intro w' hw'; have hrow0 := hw'.1; have e0x0 := Row.cell hrow0 0; have e0x1 := Row.cell hrow0 1; simp only [List.getElem?_cons_zero, List.getElem?_cons_succ] at e0x0 e0x1; clear hrow0; have e1 := hw'.2; clear hw'; go_simp; try with_reducible rfl
      try simp only [Act.put, List.setIfInBounds_toArray, List.set_cons_zero, List.set_cons_succ]
      refine wpAnyH_takeD (some 32) (i := 2) (v := ?_) rfl rfl (by kernel_rfl) (by kernel_rfl) (by kernel_rfl) (fun _ _ _ h => h) (.inl ⟨by kernel_rfl, ?_⟩) hS0 ?_
      rotate_left
      · intro w' hw'; have hrow0 := hw'.1; have e0x0 := Row.cell hrow0 0; have e0x1 := Row.cell hrow0 1; simp only [List.getElem?_cons_zero, List.getElem?_cons_succ] at e0x0 e0x1; clear hrow0; have e1 := hw'.2; clear hw'; go_simp; try with_reducible rfl
      try simp only [Act.put, List.setIfInBounds_toArray, List.set_cons_zero, List.set_cons_succ]
      refine wpAnyH_takeD (some 33) (i := 3) (v := ?_) rfl rfl (by kernel_rfl) (by kernel_rfl) (by kernel_rfl) (fun _ _ _ h => h) (.inl ⟨by kernel_rfl, ?_⟩) hS0 ?_
      rotate_left
      · intro w' hw'; go_simp; try with_reducible rfl
      try simp only [Act.put, List.setIfInBounds_toArray, List.set_cons_zero, List.set_cons_succ]
      refine wpAnyH_takeD (some 34) (i := 4) (v := ?_) rfl rfl (by kernel_rfl) (by kernel_rfl) (by kernel_rfl) (fun _ _ _ h => h) (.inl ⟨by kernel_rfl, ?_⟩) hS0 ?_
      rotate_left
      · intro w' hw'; go_simp; try with_reducible rfl
      try simp only [Act.put, List.setIfInBounds_toArray, List.set_cons_zero, List.set_cons_succ]
      refine wpAnyH_all (rs := [5]) (by kernel_rfl) (by simp) ?_
      intro i hi; simp only [List.mem_cons, List.not_mem_nil, or_false] at hi
      subst hi
      refine wpOp_step rfl (fun K hK => ?_)
      rw [if_pos (by kernel_rfl)]
      refine wp_store_mid 33 (.tmp 4) (.tmp 30) rfl ((w.heap.size + 1 + 1)) 0 ((dvC (.slice (some ⟨B, 0, none⟩) n cap) (dgL zs ((v + M) % szL zs)) pr (decide ((v + M) % szL zs = pr)) tk) : List Value).toArray rfl rfl (rZ.thereO 0 12 (by rw [dvZ_len]; omega)) hID (all_oneCell_toArray (dvC_one _ _ _ _ _ _ _)) ?_
      obtain ⟨X1, hX1⟩ : ∃ X, X = World.setCells W0 ((w.heap.size + 1 + 1)) 0 ((dvC (.slice (some ⟨B, 0, none⟩) n cap) (dgL zs ((v + M) % szL zs)) pr (decide ((v + M) % szL zs = pr)) tk) : List Value) := ⟨_, rfl⟩
      have nZ : Row X1 (w.heap.size + 1 + 1) 33 (dvC (.slice (some ⟨B, 0, none⟩) n cap) (dgL zs ((v + M) % szL zs)) pr (decide ((v + M) % szL zs = pr)) tk) := by rw [hX1]; exact rZ.setAll rfl
      replace rP : Row X1 w.heap.size 154 [.int .i64 x, .int .i64 s] := by rw [hX1]; exact rP.setCellsO (by omega) _ _
      replace rD : Row X1 (w.heap.size + 1) 33 (dvC (.slice (some ⟨B, 0, none⟩) n cap) (dgL zs ((v + M) % szL zs)) pr (decide ((v + M) % szL zs = pr)) tk) := by rw [hX1]; exact rD.setCellsO (by omega) _ _
      have nB : Below w.heap.size w X1 := by rw [hX1]; exact below_setCellsD _ _ _ (bW0.trans (bR.mono bW0.size)) (by omega)
      have hS1 : (fun W' : World => Row W' w.heap.size 154 [.int .i64 x, .int .i64 s] ∧ Row W' (w.heap.size + 1) 33 (dvC (.slice (some ⟨B, 0, none⟩) n cap) (dgL zs ((v + M) % szL zs)) pr (decide ((v + M) % szL zs = pr)) tk)) X1 := ⟨rP, rD⟩
      have hXX1 : World.setCells W0 ((w.heap.size + 1 + 1)) 0 ((dvC (.slice (some ⟨B, 0, none⟩) n cap) (dgL zs ((v + M) % szL zs)) pr (decide ((v + M) % szL zs = pr)) tk) : List Value).toArray.toList = X1 := hX1.symm
      rw [hXX1]
      refine hK _ _ ⟨hS1, ?_⟩
      try simp only [Act.put, List.setIfInBounds_toArray, List.set_cons_zero, List.set_cons_succ]
      clear hX1 hXX1 hK K hS0
      refine wpAnyH_takeD (some 5) (i := 6) (v := ?_) rfl rfl (by kernel_rfl) (by kernel_rfl) (by kernel_rfl) (fun _ _ _ h => h) (.inl ⟨by kernel_rfl, ?_⟩) hS1 ?_
      rotate_left
      · intro w' hw'; go_simp; try with_reducible rfl
      try simp only [Act.put, List.setIfInBounds_toArray, List.set_cons_zero, List.set_cons_succ]
      refine wpAnyH_takeD (some 6) (i := 7) (v := ?_) rfl rfl (by kernel_rfl) (by kernel_rfl) (by kernel_rfl) (fun _ _ _ h => h) (.inl ⟨by kernel_rfl, ?_⟩) hS1 ?_
      rotate_left
      · intro w' hw'; go_simp; try with_reducible rfl
      try simp only [Act.put, List.setIfInBounds_toArray, List.set_cons_zero, List.set_cons_succ]
      refine wpAnyH_done (by kernel_rfl) ?_ _
      go_wp2_with fail
      exact bodyPost_ret (v := .tuple #[.agg (dvC (.slice (some ⟨B, 0, none⟩) n cap) (dgL zs ((v + M) % szL zs)) pr (decide ((v + M) % szL zs = pr)) tk).toArray, .int .i64 (x - C), .nilIface]) (results_css (p := 4) (q := 5) (r := 6) (fn := Tryd.f131) rfl _ _ _ _ _ _ _ _ rfl rfl rfl nZ Tryd.underlying33 rfl hID) rfl ⟨rfl, nB⟩
    · refine wpOp_step rfl (fun K hK => ?_)
      go_simp
      with_reducible refine (HVL.out W0 sS).mono ?_
      rintro e v11 ⟨rfl, hB11⟩
      replace rP := rP.below hB11 rP.lt
      replace rD := rD.below hB11 rD.lt
      replace rZ := rZ.below hB11 rZ.lt
      replace sS := sS.below hB11 sS.1
      replace bR := bR.trans (hB11.mono bR.size)
      have hS11 : (fun W' : World => Row W' w.heap.size 154 [.int .i64 x, .int .i64 s]) v11 := rP
      refine hK _ _ ⟨hS11, ?_⟩
      try simp only [Act.put, List.setIfInBounds_toArray, List.set_cons_zero, List.set_cons_succ]
      clear hB11 hK K hS0
      refine wpAnyH_takeD (some 28) (i := 7) (v := ?_) rfl rfl (by kernel_rfl) (by kernel_rfl) (by kernel_rfl) (fun _ _ _ h => h) (.inl ⟨by kernel_rfl, ?_⟩) hS11 ?_
      rotate_left
      · intro w' hw'; go_simp; try with_reducible rfl
      try simp only [Act.put, List.setIfInBounds_toArray, List.set_cons_zero, List.set_cons_succ]
      refine wpAnyH_all (rs := [0]) (by kernel_rfl) (by simp) ?_
      intro i hi; simp only [List.mem_cons, List.not_mem_nil, or_false] at hi
      subst hi
      refine wpOp_step rfl (fun K hK => ?_)
      rw [if_pos (by kernel_rfl)]
      refine wp_load_row 33 _ rfl (w.heap.size + 1) rfl 33 ((dvC (.slice (some ⟨B, 0, none⟩) n cap) (dgL zs v) pr st tk)).toArray (0, 0) _ rD Tryd.underlying33 rfl hID ?_
      refine hK _ _ ⟨hS11, ?_⟩
      try simp only [Act.put, List.setIfInBounds_toArray, List.set_cons_zero, List.set_cons_succ]
      clear hK K
      refine wpAnyH_all (rs := [8]) (by kernel_rfl) (by simp) ?_
      intro i hi; simp only [List.mem_cons, List.not_mem_nil, or_false] at hi
      subst hi
      refine wpOp_step rfl (fun K hK => ?_)
      go_simp
      with_reducible refine (HSH.out v11 sS).mono ?_
      rintro e v13 ⟨rfl, hB13⟩
      replace rP := rP.below hB13 rP.lt
      replace rD := rD.below hB13 rD.lt
      replace rZ := rZ.below hB13 rZ.lt
      replace sS := sS.below hB13 sS.1
      replace bR := bR.trans (hB13.mono bR.size)
      have hS13 : (fun W' : World => Row W' w.heap.size 154 [.int .i64 x, .int .i64 s]) v13 := rP
      refine hK _ _ ⟨hS13, ?_⟩
      try simp only [Act.put, List.setIfInBounds_toArray, List.set_cons_zero, List.set_cons_succ]
      clear hB13 hK K hS11
      refine wpAnyH_all (rs := [9]) (by kernel_rfl) (by simp) ?_
      intro i hi; simp only [List.mem_cons, List.not_mem_nil, or_false] at hi
      subst hi
      refine wpOp_step rfl (fun K hK => ?_)
      rw [if_pos (by kernel_rfl)]
      refine wp_store_mid 33 (.tmp 3) (.tmp 29) rfl ((w.heap.size + 1)) 0 ((dvC (.slice (some ⟨B, 0, none⟩) n cap) (dgL zs ((v + M) % szL zs)) pr (decide ((v + M) % szL zs = pr)) tk) : List Value).toArray rfl rfl (rD.thereO 0 12 (by rw [dvC_len]; omega)) hID (all_oneCell_toArray (dvC_one _ _ _ _ _ _ _)) ?_
      obtain ⟨X14, hX14⟩ : ∃ X, X = World.setCells v13 ((w.heap.size + 1)) 0 ((dvC (.slice (some ⟨B, 0, none⟩) n cap) (dgL zs ((v + M) % szL zs)) pr (decide ((v + M) % szL zs = pr)) tk) : List Value) := ⟨_, rfl⟩
      have nD : Row X14 (w.heap.size + 1) 33 (dvC (.slice (some ⟨B, 0, none⟩) n cap) (dgL zs ((v + M) % szL zs)) pr (decide ((v + M) % szL zs = pr)) tk) := by rw [hX14]; exact rD.setAll rfl
      replace rP : Row X14 w.heap.size 154 [.int .i64 x, .int .i64 s] := by rw [hX14]; exact rP.setCellsO (by omega) _ _
      replace rZ : Row X14 (w.heap.size + 1 + 1) 33 dvZ := by rw [hX14]; exact rZ.setCellsO (by omega) _ _
      have nB : Below w.heap.size w X14 := by rw [hX14]; exact below_setCellsD _ _ _ (bW0.trans (bR.mono bW0.size)) (by omega)
      have nS : Stk X14 B zs := HSS.out.below nB HSS.out.1
      have hS14 : (fun W' : World => Row W' w.heap.size 154 [.int .i64 x, .int .i64 s]) X14 := rP
      have hXX14 : World.setCells v13 ((w.heap.size + 1)) 0 ((dvC (.slice (some ⟨B, 0, none⟩) n cap) (dgL zs ((v + M) % szL zs)) pr (decide ((v + M) % szL zs = pr)) tk) : List Value).toArray.toList = X14 := hX14.symm
      rw [hXX14]
      refine hK _ _ ⟨hS14, ?_⟩
      try simp only [Act.put, List.setIfInBounds_toArray, List.set_cons_zero, List.set_cons_succ]
      clear hX14 hXX14 hK K hS13
      refine wpAnyH_done (by kernel_rfl) ?_ _
      clear rD sS bR bW0
      have rD := nD; have sS := nS; have bW1 := nB
      clear nD nS nB
      go_wp2_with fail
      refine wp_region_held (S := fun W' : World => Row W' w.heap.size 154 [.int .i64 x, .int .i64 s] ∧ Row W' (w.heap.size + 1) 33 (dvC (.slice (some ⟨B, 0, none⟩) n cap) (dgL zs ((v + M) % szL zs)) pr (decide ((v + M) % szL zs = pr)) tk)) (by kernel_rfl) ?_
      change wpAnyH _ _ _ _ _ _ _ _ (World.drew _)
      obtain ⟨W0, hW0⟩ : ∃ X, X = World.drew (X14) := ⟨_, rfl⟩
      have hD0 : Below (X14).heap.size (X14) W0 := by rw [hW0]; exact (Below.refl _ _).drew
      replace rP := rP.below hD0 rP.lt
      replace rD := rD.below hD0 rD.lt
      replace rZ := rZ.below hD0 rZ.lt
      replace sS := sS.below hD0 sS.1
      have bW0 := bW1.trans (hD0.mono bW1.size)
      have bR : Below W0.heap.size W0 W0 := Below.refl _ _
      rw [← hW0]
      clear hW0 hD0
      have l_rP := rP.lt
      have l_rD := rD.lt
      have l_rZ := rZ.lt
      have l_sS := sS.1
      have hS0 : (fun W' : World => Row W' w.heap.size 154 [.int .i64 x, .int .i64 s] ∧ Row W' (w.heap.size + 1) 33 (dvC (.slice (some ⟨B, 0, none⟩) n cap) (dgL zs ((v + M) % szL zs)) pr (decide ((v + M) % szL zs = pr)) tk)) W0 := ⟨rP, rD⟩
      refine wpAnyH_takeD (some 30) (i := 0) (v := .agg ((dvC (.slice (some ⟨B, 0, none⟩) n cap) (dgL zs ((v + M) % szL zs)) pr (decide ((v + M) % szL zs = pr)) tk)).toArray) rfl rfl (by kernel_rfl) (by kernel_rfl) (by kernel_rfl) (fun _ _ _ h => h) (.inl ⟨by kernel_rfl, ?_⟩) hS0 ?_
      · intro w' hw'; exact exec_load_row 33 _ rfl (w.heap.size + 1) rfl 33 ((dvC (.slice (some ⟨B, 0, none⟩) n cap) (dgL zs ((v + M) % szL zs)) pr (decide ((v + M) % szL zs = pr)) tk)).toArray _ (hw'.2) Tryd.underlying33 rfl hID
      try simp only [Act.put, List.setIfInBounds_toArray, List.set_cons_zero, List.set_cons_succ]
      refine wpAnyH_takeD (some 31) (i := 1) (v := ?_) rfl rfl (by kernel_rfl) (by kernel_rfl) (by kernel_rfl) (fun _ _ _ h => h) (.inl ⟨by kernel_rfl, ?_⟩) hS0 ?_
      rotate_left
      · intro w' hw'; have hrow0 := hw'.1; have e0x0 := Row.cell hrow0 0; have e0x1 := Row.cell hrow0 1; simp only [List.getElem?_cons_zero, List.getElem?_cons_succ] at e0x0 e0x1; clear hrow0; have e1 := hw'.2; clear hw'; go_simp; try with_reducible rfl
      try simp only [Act.put, List.setIfInBounds_toArray, List.set_cons_zero, List.set_cons_succ]
      refine wpAnyH_takeD (some 32) (i := 2) (v := ?_) rfl rfl (by kernel_rfl) (by kernel_rfl) (by kernel_rfl) (fun _ _ _ h => h) (.inl ⟨by kernel_rfl, ?_⟩) hS0 ?_
      rotate_left
      · intro w' hw'; have hrow0 := hw'.1; have e0x0 := Row.cell hrow0 0; have e0x1 := Row.cell hrow0 1; simp only [List.getElem?_cons_zero, List.getElem?_cons_succ] at e0x0 e0x1; clear hrow0; have e1 := hw'.2; clear hw'; go_simp; try with_reducible rfl
      try simp only [Act.put, List.setIfInBounds_toArray, List.set_cons_zero, List.set_cons_succ]
      refine wpAnyH_takeD (some 33) (i := 3) (v := ?_) rfl rfl (by kernel_rfl) (by kernel_rfl) (by kernel_rfl) (fun _ _ _ h => h) (.inl ⟨by kernel_rfl, ?_⟩) hS0 ?_
      rotate_left
      · intro w' hw'; go_simp; try with_reducible rfl
      try simp only [Act.put, List.setIfInBounds_toArray, List.set_cons_zero, List.set_cons_succ]
      refine wpAnyH_takeD (some 34) (i := 4) (v := ?_) rfl rfl (by kernel_rfl) (by kernel_rfl) (by kernel_rfl) (fun _ _ _ h => h) (.inl ⟨by kernel_rfl, ?_⟩) hS0 ?_
      rotate_left
      · intro w' hw'; go_simp; try with_reducible rfl
      try simp only [Act.put, List.setIfInBounds_toArray, List.set_cons_zero, List.set_cons_succ]
      refine wpAnyH_all (rs := [5]) (by kernel_rfl) (by simp) ?_
      intro i hi; simp only [List.mem_cons, List.not_mem_nil, or_false] at hi
      subst hi
      refine wpOp_step rfl (fun K hK => ?_)
      rw [if_pos (by kernel_rfl)]
      refine wp_store_mid 33 (.tmp 4) (.tmp 30) rfl ((w.heap.size + 1 + 1)) 0 ((dvC (.slice (some ⟨B, 0, none⟩) n cap) (dgL zs ((v + M) % szL zs)) pr (decide ((v + M) % szL zs = pr)) tk) : List Value).toArray rfl rfl (rZ.thereO 0 12 (by rw [dvZ_len]; omega)) hID (all_oneCell_toArray (dvC_one _ _ _ _ _ _ _)) ?_
      obtain ⟨X1, hX1⟩ : ∃ X, X = World.setCells W0 ((w.heap.size + 1 + 1)) 0 ((dvC (.slice (some ⟨B, 0, none⟩) n cap) (dgL zs ((v + M) % szL zs)) pr (decide ((v + M) % szL zs = pr)) tk) : List Value) := ⟨_, rfl⟩
      have nZ : Row X1 (w.heap.size + 1 + 1) 33 (dvC (.slice (some ⟨B, 0, none⟩) n cap) (dgL zs ((v + M) % szL zs)) pr (decide ((v + M) % szL zs = pr)) tk) := by rw [hX1]; exact rZ.setAll rfl
      replace rP : Row X1 w.heap.size 154 [.int .i64 x, .int .i64 s] := by rw [hX1]; exact rP.setCellsO (by omega) _ _
      replace rD : Row X1 (w.heap.size + 1) 33 (dvC (.slice (some ⟨B, 0, none⟩) n cap) (dgL zs ((v + M) % szL zs)) pr (decide ((v + M) % szL zs = pr)) tk) := by rw [hX1]; exact rD.setCellsO (by omega) _ _
      have nB : Below w.heap.size w X1 := by rw [hX1]; exact below_setCellsD _ _ _ (bW0.trans (bR.mono bW0.size)) (by omega)
      have hS1 : (fun W' : World => Row W' w.heap.size 154 [.int .i64 x, .int .i64 s] ∧ Row W' (w.heap.size + 1) 33 (dvC (.slice (some ⟨B, 0, none⟩) n cap) (dgL zs ((v + M) % szL zs)) pr (decide ((v + M) % szL zs = pr)) tk)) X1 := ⟨rP, rD⟩
      have hXX1 : World.setCells W0 ((w.heap.size + 1 + 1)) 0 ((dvC (.slice (some ⟨B, 0, none⟩) n cap) (dgL zs ((v + M) % szL zs)) pr (decide ((v + M) % szL zs = pr)) tk) : List Value).toArray.toList = X1 := hX1.symm
      rw [hXX1]
      refine hK _ _ ⟨hS1, ?_⟩
      try simp only [Act.put, List.setIfInBounds_toArray, List.set_cons_zero, List.set_cons_succ]
      clear hX1 hXX1 hK K hS0
      refine wpAnyH_takeD (some 5) (i := 6) (v := ?_) rfl rfl (by kernel_rfl) (by kernel_rfl) (by kernel_rfl) (fun _ _ _ h => h) (.inl ⟨by kernel_rfl, ?_⟩) hS1 ?_
      rotate_left
      · intro w' hw'; go_simp; try with_reducible rfl
      try simp only [Act.put, List.setIfInBounds_toArray, List.set_cons_zero, List.set_cons_succ]
      refine wpAnyH_takeD (some 6) (i := 7) (v := ?_) rfl rfl (by kernel_rfl) (by kernel_rfl) (by kernel_rfl) (fun _ _ _ h => h) (.inl ⟨by kernel_rfl, ?_⟩) hS1 ?_
      rotate_left
      · intro w' hw'; go_simp; try with_reducible rfl
      try simp only [Act.put, List.setIfInBounds_toArray, List.set_cons_zero, List.set_cons_succ]
      refine wpAnyH_done (by kernel_rfl) ?_ _
      go_wp2_with fail
      exact bodyPost_ret (v := .tuple #[.agg (dvC (.slice (some ⟨B, 0, none⟩) n cap) (dgL zs ((v + M) % szL zs)) pr (decide ((v + M) % szL zs = pr)) tk).toArray, .int .i64 (x - C), .nilIface]) (results_css (p := 4) (q := 5) (r := 6) (fn := Tryd.f131) rfl _ _ _ _ _ _ _ _ rfl rfl rfl nZ Tryd.underlying33 rfl hID) rfl ⟨rfl, nB⟩
set_option maxRecDepth 100000 in
set_option maxHeartbeats 4000000 in
theorem pulses_b2 (B n cap : Nat) (zs : List Int) (v pr : Int) (st : Bool) (tk : Int) (x s C : Int) (w : World) (hS : Stk w B zs) (hn : n = zs.length) (hv : okL zs = true) (hok : okS (szL zs) (v, pr, st, tk)) (hs : s = 1 ∨ s = -1) (hx : 0 ≤ x ∧ x ≤ 1000000000000) (hp0 : 0 ≤ pr) (hC : C = min x (if st = true then 0 else untX ((pr - v) * s) (szL zs))) (hpos : C = 0) :
    Calls Tryd.prog 131 #[.agg #[.int .i64 x, .int .i64 s], .agg (dvC (.slice (some ⟨B, 0, none⟩) n cap) (dgL zs v) pr st tk).toArray] w fun e w' => e = .returned (.tuple #[.agg (dvC (.slice (some ⟨B, 0, none⟩) n cap) (dgL zs v) pr st tk).toArray, .int .i64 (x - C), .nilIface]) ∧ Below w.heap.size w w' := by
  obtain ⟨_, h8, hin, z1, z2⟩ := okL_out hv
  obtain ⟨⟨v0, v1⟩, ⟨p0, p1⟩, hst, t0, t1⟩ := hok
  simp only at v0 v1 p0 p1 hst t0 t1
  have hID : (Tryd.prog.info? 33).map (·.size) = some 12 := Tryd.infoDev
  obtain ⟨V, hV⟩ : ∃ V, V = ((w.alloc (.cells #[.int .i64 x, .int .i64 s] 154)).alloc (.cells (dvC (.slice (some ⟨B, 0, none⟩) n cap) (dgL zs v) pr st tk).toArray 33)).alloc (.cells #[.slice none 0 0, .int .u8 0, .int .u8 0, .int .u8 0, .int .u8 0, .int .u8 0, .int .u8 0, .int .u8 0, .int .u8 0, .int .i64 0, .bool false, .int .i64 0] 33) := ⟨_, rfl⟩
  have bV : Below w.heap.size w V := by rw [hV]; exact (((Below.refl _ _).alloc (Nat.le_refl _) _).alloc (by simp) _).alloc (by simp; omega) _
  have sV : V.heap.size = w.heap.size + 1 + 1 + 1 := by rw [hV]; simp
  have rP : Row V w.heap.size 154 [.int .i64 x, .int .i64 s] := by rw [hV]; exact ((Row.new w _ _).alloc _).alloc _
  have rD : Row V (w.heap.size + 1) 33 (dvC (.slice (some ⟨B, 0, none⟩) n cap) (dgL zs v) pr st tk) := by
    have h := (Row.new (w.alloc (.cells #[.int .i64 x, .int .i64 s] 154)) 33 (dvC (.slice (some ⟨B, 0, none⟩) n cap) (dgL zs v) pr st tk)).alloc (.cells #[.slice none 0 0, .int .u8 0, .int .u8 0, .int .u8 0, .int .u8 0, .int .u8 0, .int .u8 0, .int .u8 0, .int .u8 0, .int .i64 0, .bool false, .int .i64 0] 33)
    simp only [World.size_alloc] at h
    rw [hV]; exact h
  have rZ : Row V (w.heap.size + 1 + 1) 33 dvZ := by
    have h := Row.new ((w.alloc (.cells #[.int .i64 x, .int .i64 s] 154)).alloc (.cells (dvC (.slice (some ⟨B, 0, none⟩) n cap) (dgL zs v) pr st tk).toArray 33)) 33 dvZ
    simp only [World.size_alloc] at h
    rw [hV]; exact h
  have sS := hS.below bV hS.1
  have HVL := hid (fun W h => valueV B n cap zs v pr st tk W h hn hv ⟨v0, v1⟩)
  have q0 := rP.cell 0; have q1 := rP.cell 1
  simp only [List.getElem?_cons_zero, List.getElem?_cons_succ] at q0 q1
  have c9 : V.cell? ⟨(w.heap.size + 1), 9, none⟩ = some (.int .i64 pr) := rD.cell 9
  have HV := hid hV
  have HUN := hid (fun W h => untilV B n cap zs v pr st tk s ((pr - v) * s) W h hn hv ⟨v0, v1⟩ ⟨hp0, p1⟩ rfl (by rcases hs with rfl | rfl <;> omega))
  have hU0 : 0 ≤ (if st = true then 0 else untX ((pr - v) * s) (szL zs)) := by
    split
    · omega
    · have := (untX_val hs ⟨hp0, p1⟩ ⟨v0, v1⟩).2.1; omega
  have hU1 : (if st = true then 0 else untX ((pr - v) * s) (szL zs)) ≤ szL zs := by
    split
    · omega
    · have := (untX_val hs ⟨hp0, p1⟩ ⟨v0, v1⟩).2.2.1; omega
  obtain ⟨u, hu⟩ : ∃ y, (if st = true then 0 else untX ((pr - v) * s) (szL zs)) = y := ⟨_, rfl⟩
  rw [hu] at HUN hC hU0 hU1
  have MN : ∀ w, Sem.run Tryd.prog (Builtin.min_ #[2, 2] 2 #[.int .i64 x, .int .i64 u]) w = .ok (.int .i64 C) w := fun w => by
    have : (if u < x then u else x) = min x u := by split <;> omega
    rw [hC, ← this]; rfl
  have e9 : (pr != -1) = true := by simp; omega
  have e9' : ¬ pr = -1 := by omega
  have g5 : ¬ 0 < C := by omega
  have ws : IntKind.i64.wrap (x - C) = (x - C) := IntWalk.i64_in _ (by omega)
  have HSS := hid hS
  rw [hV] at q0 q1 c9
  clear hS hn hv h8 hin z1 z2 v0 v1 p0 p1 hst t0 t1 hs hx hV hp0 hU0 hU1 hu hC hpos
  go_enter Tryd.func131, Tryd.ntmps131
  go_wp2_with ((with_reducible refine wpList_load_row rfl 33 _ rfl (w.heap.size + 1) ?_ 33 (dvC (.slice (some ⟨B, 0, none⟩) n cap) (dgL zs v) pr st tk).toArray (0, 0) _ ?_ Tryd.underlying33 ?_ ?_ ?_); rfl; rw [← HV.out]; exact rD; rfl; exact hID)
  rw [← HV.out]
  refine (HUN.out V sS).mono ?_
  rintro e w1 ⟨rfl, hB1⟩
  have bW1 := bV.trans (hB1.mono (by omega))
  replace rP := rP.below hB1 rP.lt; replace rD := rD.below hB1 rD.lt; replace rZ := rZ.below hB1 rZ.lt; replace sS := sS.below hB1 sS.1
  clear q0 q1 c9 hB1
  go_wp2_with fail
  refine wp_region_held (S := fun W' : World => Row W' w.heap.size 154 [.int .i64 x, .int .i64 s] ∧ Row W' (w.heap.size + 1) 33 (dvC (.slice (some ⟨B, 0, none⟩) n cap) (dgL zs v) pr st tk)) (by kernel_rfl) ?_
  change wpAnyH _ _ _ _ _ _ _ _ (World.drew _)
  obtain ⟨W0, hW0⟩ : ∃ X, X = World.drew (w1) := ⟨_, rfl⟩
  have hD0 : Below (w1).heap.size (w1) W0 := by rw [hW0]; exact (Below.refl _ _).drew
  replace rP := rP.below hD0 rP.lt
  replace rD := rD.below hD0 rD.lt
  replace rZ := rZ.below hD0 rZ.lt
  replace sS := sS.below hD0 sS.1
  have bW0 := bW1.trans (hD0.mono bW1.size)
  have bR : Below W0.heap.size W0 W0 := Below.refl _ _
  rw [← hW0]
  clear hW0 hD0
  have l_rP := rP.lt
  have l_rD := rD.lt
  have l_rZ := rZ.lt
  have l_sS := sS.1
  have hS0 : (fun W' : World => Row W' w.heap.size 154 [.int .i64 x, .int .i64 s] ∧ Row W' (w.heap.size + 1) 33 (dvC (.slice (some ⟨B, 0, none⟩) n cap) (dgL zs v) pr st tk)) W0 := ⟨rP, rD⟩
  refine wpAnyH_takeD (some 30) (i := 0) (v := .agg ((dvC (.slice (some ⟨B, 0, none⟩) n cap) (dgL zs v) pr st tk)).toArray) rfl rfl (by kernel_rfl) (by kernel_rfl) (by kernel_rfl) (fun _ _ _ h => h) (.inl ⟨by kernel_rfl, ?_⟩) hS0 ?_
  · intro w' hw'; exact exec_load_row 33 _ rfl (w.heap.size + 1) rfl 33 ((dvC (.slice (some ⟨B, 0, none⟩) n cap) (dgL zs v) pr st tk)).toArray _ (hw'.2) Tryd.underlying33 rfl hID
  try simp only [Act.put, List.setIfInBounds_toArray, List.set_cons_zero, List.set_cons_succ]
  refine wpAnyH_takeD (some 31) (i := 1) (v := ?_) rfl rfl (by kernel_rfl) (by kernel_rfl) (by kernel_rfl) (fun _ _ _ h => h) (.inl ⟨by kernel_rfl, ?_⟩) hS0 ?_
  rotate_left
  · intro w' hw'; have hrow0 := hw'.1; have e0x0 := Row.cell hrow0 0; have e0x1 := Row.cell hrow0 1; simp only [List.getElem?_cons_zero, List.getElem?_cons_succ] at e0x0 e0x1; clear hrow0; have e1 := hw'.2; clear hw'; go_simp; try with_reducible rfl
  try simp only [Act.put, List.setIfInBounds_toArray, List.set_cons_zero, List.set_cons_succ]
  refine wpAnyH_takeD (some 32) (i := 2) (v := ?_) rfl rfl (by kernel_rfl) (by kernel_rfl) (by kernel_rfl) (fun _ _ _ h => h) (.inl ⟨by kernel_rfl, ?_⟩) hS0 ?_
  rotate_left
  · intro w' hw'; have hrow0 := hw'.1; have e0x0 := Row.cell hrow0 0; have e0x1 := Row.cell hrow0 1; simp only [List.getElem?_cons_zero, List.getElem?_cons_succ] at e0x0 e0x1; clear hrow0; have e1 := hw'.2; clear hw'; go_simp; try with_reducible rfl
  try simp only [Act.put, List.setIfInBounds_toArray, List.set_cons_zero, List.set_cons_succ]
  refine wpAnyH_takeD (some 33) (i := 3) (v := ?_) rfl rfl (by kernel_rfl) (by kernel_rfl) (by kernel_rfl) (fun _ _ _ h => h) (.inl ⟨by kernel_rfl, ?_⟩) hS0 ?_
  rotate_left
  · intro w' hw'; go_simp; try with_reducible rfl
  try simp only [Act.put, List.setIfInBounds_toArray, List.set_cons_zero, List.set_cons_succ]
  refine wpAnyH_takeD (some 34) (i := 4) (v := ?_) rfl rfl (by kernel_rfl) (by kernel_rfl) (by kernel_rfl) (fun _ _ _ h => h) (.inl ⟨by kernel_rfl, ?_⟩) hS0 ?_
  rotate_left
  · intro w' hw'; go_simp; try with_reducible rfl
  try simp only [Act.put, List.setIfInBounds_toArray, List.set_cons_zero, List.set_cons_succ]
  refine wpAnyH_all (rs := [5]) (by kernel_rfl) (by simp) ?_
  intro i hi; simp only [List.mem_cons, List.not_mem_nil, or_false] at hi
  subst hi
  refine wpOp_step rfl (fun K hK => ?_)
  rw [if_pos (by kernel_rfl)]
  refine wp_store_mid 33 (.tmp 4) (.tmp 30) rfl ((w.heap.size + 1 + 1)) 0 ((dvC (.slice (some ⟨B, 0, none⟩) n cap) (dgL zs v) pr st tk) : List Value).toArray rfl rfl (rZ.thereO 0 12 (by rw [dvZ_len]; omega)) hID (all_oneCell_toArray (dvC_one _ _ _ _ _ _ _)) ?_
  obtain ⟨X1, hX1⟩ : ∃ X, X = World.setCells W0 ((w.heap.size + 1 + 1)) 0 ((dvC (.slice (some ⟨B, 0, none⟩) n cap) (dgL zs v) pr st tk) : List Value) := ⟨_, rfl⟩
  have nZ : Row X1 (w.heap.size + 1 + 1) 33 (dvC (.slice (some ⟨B, 0, none⟩) n cap) (dgL zs v) pr st tk) := by rw [hX1]; exact rZ.setAll rfl
  replace rP : Row X1 w.heap.size 154 [.int .i64 x, .int .i64 s] := by rw [hX1]; exact rP.setCellsO (by omega) _ _
  replace rD : Row X1 (w.heap.size + 1) 33 (dvC (.slice (some ⟨B, 0, none⟩) n cap) (dgL zs v) pr st tk) := by rw [hX1]; exact rD.setCellsO (by omega) _ _
  have nB : Below w.heap.size w X1 := by rw [hX1]; exact below_setCellsD _ _ _ (bW0.trans (bR.mono bW0.size)) (by omega)
  have hS1 : (fun W' : World => Row W' w.heap.size 154 [.int .i64 x, .int .i64 s] ∧ Row W' (w.heap.size + 1) 33 (dvC (.slice (some ⟨B, 0, none⟩) n cap) (dgL zs v) pr st tk)) X1 := ⟨rP, rD⟩
  have hXX1 : World.setCells W0 ((w.heap.size + 1 + 1)) 0 ((dvC (.slice (some ⟨B, 0, none⟩) n cap) (dgL zs v) pr st tk) : List Value).toArray.toList = X1 := hX1.symm
  rw [hXX1]
  refine hK _ _ ⟨hS1, ?_⟩
  try simp only [Act.put, List.setIfInBounds_toArray, List.set_cons_zero, List.set_cons_succ]
  clear hX1 hXX1 hK K hS0
  refine wpAnyH_takeD (some 5) (i := 6) (v := ?_) rfl rfl (by kernel_rfl) (by kernel_rfl) (by kernel_rfl) (fun _ _ _ h => h) (.inl ⟨by kernel_rfl, ?_⟩) hS1 ?_
  rotate_left
  · intro w' hw'; go_simp; try with_reducible rfl
  try simp only [Act.put, List.setIfInBounds_toArray, List.set_cons_zero, List.set_cons_succ]
  refine wpAnyH_takeD (some 6) (i := 7) (v := ?_) rfl rfl (by kernel_rfl) (by kernel_rfl) (by kernel_rfl) (fun _ _ _ h => h) (.inl ⟨by kernel_rfl, ?_⟩) hS1 ?_
  rotate_left
  · intro w' hw'; go_simp; try with_reducible rfl
  try simp only [Act.put, List.setIfInBounds_toArray, List.set_cons_zero, List.set_cons_succ]
  refine wpAnyH_done (by kernel_rfl) ?_ _
  go_wp2_with fail
  exact bodyPost_ret (v := .tuple #[.agg (dvC (.slice (some ⟨B, 0, none⟩) n cap) (dgL zs v) pr st tk).toArray, .int .i64 (x - C), .nilIface]) (results_css (p := 4) (q := 5) (r := 6) (fn := Tryd.f131) rfl _ _ _ _ _ _ _ _ rfl rfl rfl nZ Tryd.underlying33 rfl hID) rfl ⟨rfl, nB⟩
end Go.Proofs.YthifegbmpmialaaDoor

namespace Go.Proofs.YthifegbmpmialaaDoor
open Go.RowKit
set_option linter.unusedVariables false
set_option linter.unusedSimpArgs false
def ES (a : Addr) : Value := .iface 161 (.pointer (some a))
theorem cell_ltE {w : World} {a : Addr} {v : Value} (h : w.cell? a = some v) : a.block < w.heap.size := by
  unfold World.cell? at h
  by_cases k : a.block < w.heap.size
  · exact k
  · simp [Array.getElem?_eq_none (by omega : w.heap.size ≤ a.block)] at h
/-- the four sentinels lie in their variables, and are four -/
def SN (w : World) (a0 a1 a2 a3 : Addr) : Prop := True ∧ (w.cell? ⟨0, 0, none⟩ = some (ES a0) ∧ w.cell? ⟨2, 0, none⟩ = some (ES a1) ∧ w.cell? ⟨1, 0, none⟩ = some (ES a2) ∧ w.cell? ⟨3, 0, none⟩ = some (ES a3)) ∧ (a0 ≠ a1 ∧ a0 ≠ a2 ∧ a0 ≠ a3 ∧ a1 ≠ a2 ∧ a1 ≠ a3 ∧ a2 ≠ a3) ∧
  ((∃ c t, w.heap[a0.block]? = some (.cells c t (0, 0))) ∧ (∃ c t, w.heap[a1.block]? = some (.cells c t (0, 0))) ∧ (∃ c t, w.heap[a2.block]? = some (.cells c t (0, 0))) ∧ (∃ c t, w.heap[a3.block]? = some (.cells c t (0, 0))))
theorem SN.below {w w' : World} {a0 a1 a2 a3 : Addr} (h : SN w a0 a1 a2 a3) (hb : Below w.heap.size w w') (_ : True) : SN w' a0 a1 a2 a3 := by
  obtain ⟨_, ⟨c0, c1, c2, c3⟩, hd, ⟨x0, y0, h0⟩, ⟨x1, y1, h1⟩, ⟨x2, y2, h2⟩, ⟨x3, y3, h3⟩⟩ := h
  exact ⟨trivial, ⟨(hb.cell (cell_ltE c0)).trans c0, (hb.cell (cell_ltE c1)).trans c1, (hb.cell (cell_ltE c2)).trans c2, (hb.cell (cell_ltE c3)).trans c3⟩, hd,
    ⟨x0, y0, (hb.block _ (lt_of_block h0)).trans h0⟩, ⟨x1, y1, (hb.block _ (lt_of_block h1)).trans h1⟩, ⟨x2, y2, (hb.block _ (lt_of_block h2)).trans h2⟩, ⟨x3, y3, (hb.block _ (lt_of_block h3)).trans h3⟩⟩
theorem dvZ_oneT : dvZ.toArray.all (·.oneCell') = true := all_oneCell_toArray dvZ_one
set_option maxRecDepth 100000 in
set_option maxHeartbeats 4000000 in
theorem presetDo_ok (B n cap : Nat) (zs : List Int) (v pr : Int) (st : Bool) (tk : Int) (x : Int) (w : World) (hS : Stk w B zs) (hn : n = zs.length) (hv : okL zs = true) (hvv : 0 ≤ v ∧ v < szL zs) (a0 a1 a2 a3 : Addr) (hSN : SN w a0 a1 a2 a3) (hx : -1 ≤ x ∧ x < szL zs) :
    Calls Tryd.prog 137 #[.int .i64 x, .agg (dvC (.slice (some ⟨B, 0, none⟩) n cap) (dgL zs v) pr st tk).toArray] w fun e w' => e = .returned (.tuple #[.agg (dvC (.slice (some ⟨B, 0, none⟩) n cap) (dgL zs v) x (decide (v = x)) tk).toArray, .int .i64 0, .nilIface]) ∧ Below w.heap.size w w' := by
  obtain ⟨_, h8, hin, z1, z2⟩ := okL_out hv
  have hID : (Tryd.prog.info? 33).map (·.size) = some 12 := Tryd.infoDev
  obtain ⟨V, hV⟩ : ∃ V, V = (w.alloc (.cells (dvC (.slice (some ⟨B, 0, none⟩) n cap) (dgL zs v) pr st tk).toArray 33)).alloc (.cells #[.slice none 0 0, .int .u8 0, .int .u8 0, .int .u8 0, .int .u8 0, .int .u8 0, .int .u8 0, .int .u8 0, .int .u8 0, .int .i64 0, .bool false, .int .i64 0] 33) := ⟨_, rfl⟩
  have bV : Below w.heap.size w V := by rw [hV]; exact ((Below.refl _ _).alloc (Nat.le_refl _) _).alloc (by simp) _
  have sV : V.heap.size = w.heap.size + 1 + 1 := by rw [hV]; simp
  have rD : Row V w.heap.size 33 (dvC (.slice (some ⟨B, 0, none⟩) n cap) (dgL zs v) pr st tk) := by
    have h := (Row.new w 33 (dvC (.slice (some ⟨B, 0, none⟩) n cap) (dgL zs v) pr st tk)).alloc (.cells #[.slice none 0 0, .int .u8 0, .int .u8 0, .int .u8 0, .int .u8 0, .int .u8 0, .int .u8 0, .int .u8 0, .int .u8 0, .int .i64 0, .bool false, .int .i64 0] 33)
    skip
    rw [hV]; exact h
  have rZ : Row V (w.heap.size + 1) 33 dvZ := by
    have h := Row.new (w.alloc (.cells (dvC (.slice (some ⟨B, 0, none⟩) n cap) (dgL zs v) pr st tk).toArray 33)) 33 dvZ
    simp only [World.size_alloc] at h
    rw [hV]; exact h
  have sS := hS.below bV hS.1
  have sN := hSN.below bV trivial
  have HSN := hid hSN
  have HSS := hid hS
  have HV := hid hV
  have HP := hid (hasPreset_yes B n cap zs x V sS hn hv hx)
  have HVL := hid (fun W h => valueV B n cap zs v x st tk W h hn hv hvv)
  have HSH0 := fun W h => showing_any B n cap zs (dgL zs v) x st tk v W h hn hv (by omega)
  rw [Int.emod_eq_of_lt hvv.1 hvv.2] at HSH0
  have HSH := hid HSH0
  have c0 : V.cell? ⟨w.heap.size, 0, none⟩ = some (.slice (some ⟨B, 0, none⟩) n cap) := rD.cell 0
  rw [hV] at c0
  clear hS hn hv h8 hin z1 z2 hx hvv hV hSN HSH0
  go_enter Tryd.func137, Tryd.ntmps137
  go_wp2_with fail
  rw [← HV.out]
  refine HP.out.mono ?_
  rintro e w1 ⟨rfl, hB1⟩
  have bW1 := bV.trans (hB1.mono (by omega))
  replace rD := rD.below hB1 rD.lt; replace rZ := rZ.below hB1 rZ.lt; replace sS := sS.below hB1 sS.1
  have k9 : w1.cell? ⟨w.heap.size, 9, none⟩ = some (.int .i64 pr) := rD.cell 9
  have f9 := rD.frozen 9
  clear c0 hB1
  go_upto_region 4 with fail
  obtain ⟨W5, hW5⟩ : ∃ X, X = w1.setCell ⟨w.heap.size, 9, none⟩ (.int .i64 x) := ⟨_, rfl⟩
  have r5 : Row W5 w.heap.size 33 (dvC (.slice (some ⟨B, 0, none⟩) n cap) (dgL zs v) x st tk) := by rw [hW5]; exact rD.set 9 _
  have z5 : Row W5 (w.heap.size + 1) 33 dvZ := by rw [hW5]; exact rZ.other (by show w.heap.size ≠ (w.heap.size + 1); omega) _
  have b5 : Below w.heap.size w W5 := by rw [hW5]; exact bW1.setCell (p := ⟨w.heap.size, 9, none⟩) (Nat.le_refl _) _
  have s5 := HSS.out.below b5 HSS.out.1
  rw [← hW5]
  clear hW5 k9 f9 rD rZ sS bW1 bV sV
  have rD := r5; have rZ := z5; have sS := s5; have bW1 := b5
  clear r5 z5 s5 b5
  refine wp_region_held (S := fun W' : World => Row W' w.heap.size 33 (dvC (.slice (some ⟨B, 0, none⟩) n cap) (dgL zs v) x st tk)) (by kernel_rfl) ?_
  change wpAnyH _ _ _ _ _ _ _ _ (World.drew _)
  obtain ⟨W0, hW0⟩ : ∃ X, X = World.drew (W5) := ⟨_, rfl⟩
  have hD0 : Below (W5).heap.size (W5) W0 := by rw [hW0]; exact (Below.refl _ _).drew
  replace rD := rD.below hD0 rD.lt
  replace rZ := rZ.below hD0 rZ.lt
  replace sS := sS.below hD0 sS.1
  have bW0 := bW1.trans (hD0.mono bW1.size)
  have bR : Below W0.heap.size W0 W0 := Below.refl _ _
  rw [← hW0]
  clear hW0 hD0
  have l_rD := rD.lt
  have l_rZ := rZ.lt
  have l_sS := sS.1
  have hS0 : (fun W' : World => Row W' w.heap.size 33 (dvC (.slice (some ⟨B, 0, none⟩) n cap) (dgL zs v) x st tk)) W0 := rD
  refine wpAnyH_takeD (some 16) (i := 0) (v := .agg ((dvC (.slice (some ⟨B, 0, none⟩) n cap) (dgL zs v) x st tk)).toArray) rfl rfl (by kernel_rfl) (by kernel_rfl) (by kernel_rfl) (fun _ _ _ h => h) (.inl ⟨by kernel_rfl, ?_⟩) hS0 ?_
  · intro w' hw'; exact exec_load_row 33 _ rfl w.heap.size rfl 33 ((dvC (.slice (some ⟨B, 0, none⟩) n cap) (dgL zs v) x st tk)).toArray _ (hw') Tryd.underlying33 rfl hID
  try simp only [Act.put, List.setIfInBounds_toArray, List.set_cons_zero, List.set_cons_succ]
  refine wpAnyH_takeD (some 17) (i := 1) (v := .agg ((dvC (.slice (some ⟨B, 0, none⟩) n cap) (dgL zs v) x st tk)).toArray) rfl rfl (by kernel_rfl) (by kernel_rfl) (by kernel_rfl) (fun _ _ _ h => h) (.inl ⟨by kernel_rfl, ?_⟩) hS0 ?_
  · intro w' hw'; exact exec_load_row 33 _ rfl w.heap.size rfl 33 ((dvC (.slice (some ⟨B, 0, none⟩) n cap) (dgL zs v) x st tk)).toArray _ (hw') Tryd.underlying33 rfl hID
  try simp only [Act.put, List.setIfInBounds_toArray, List.set_cons_zero, List.set_cons_succ]
  refine wpAnyH_all (rs := [2]) (by kernel_rfl) (by simp) ?_
  intro i hi; simp only [List.mem_cons, List.not_mem_nil, or_false] at hi
  subst hi
  refine wpOp_step rfl (fun K hK => ?_)
  go_simp
  with_reducible refine (HVL.out W0 sS).mono ?_
  rintro e v1 ⟨rfl, hB1⟩
  replace rD := rD.below hB1 rD.lt
  replace rZ := rZ.below hB1 rZ.lt
  replace sS := sS.below hB1 sS.1
  replace bR := bR.trans (hB1.mono bR.size)
  have hS1 : (fun W' : World => Row W' w.heap.size 33 (dvC (.slice (some ⟨B, 0, none⟩) n cap) (dgL zs v) x st tk)) v1 := rD
  refine hK _ _ ⟨hS1, ?_⟩
  try simp only [Act.put, List.setIfInBounds_toArray, List.set_cons_zero, List.set_cons_succ]
  clear hB1 hK K hS0
  refine wpAnyH_all (rs := [3]) (by kernel_rfl) (by simp) ?_
  intro i hi; simp only [List.mem_cons, List.not_mem_nil, or_false] at hi
  subst hi
  refine wpOp_step rfl (fun K hK => ?_)
  go_simp
  with_reducible refine (HSH.out v1 sS).mono ?_
  rintro e v2 ⟨rfl, hB2⟩
  replace rD := rD.below hB2 rD.lt
  replace rZ := rZ.below hB2 rZ.lt
  replace sS := sS.below hB2 sS.1
  replace bR := bR.trans (hB2.mono bR.size)
  have hS2 : (fun W' : World => Row W' w.heap.size 33 (dvC (.slice (some ⟨B, 0, none⟩) n cap) (dgL zs v) x st tk)) v2 := rD
  refine hK _ _ ⟨hS2, ?_⟩
  try simp only [Act.put, List.setIfInBounds_toArray, List.set_cons_zero, List.set_cons_succ]
  clear hB2 hK K hS1
  refine wpAnyH_all (rs := [4]) (by kernel_rfl) (by simp) ?_
  intro i hi; simp only [List.mem_cons, List.not_mem_nil, or_false] at hi
  subst hi
  refine wpOp_step rfl (fun K hK => ?_)
  rw [if_pos (by kernel_rfl)]
  refine wp_store_mid 33 (.tmp 4) (.tmp 19) rfl ((w.heap.size + 1)) 0 ((dvC (.slice (some ⟨B, 0, none⟩) n cap) (dgL zs v) x (decide (v = x)) tk) : List Value).toArray rfl rfl (rZ.thereO 0 12 (by rw [dvZ_len]; omega)) hID (all_oneCell_toArray (dvC_one _ _ _ _ _ _ _)) ?_
  obtain ⟨X3, hX3⟩ : ∃ X, X = World.setCells v2 ((w.heap.size + 1)) 0 ((dvC (.slice (some ⟨B, 0, none⟩) n cap) (dgL zs v) x (decide (v = x)) tk) : List Value) := ⟨_, rfl⟩
  have nZ : Row X3 (w.heap.size + 1) 33 (dvC (.slice (some ⟨B, 0, none⟩) n cap) (dgL zs v) x (decide (v = x)) tk) := by rw [hX3]; exact rZ.setAll rfl
  have nB : Below w.heap.size w X3 := by rw [hX3]; exact below_setCellsD _ _ _ (bW0.trans (bR.mono bW0.size)) (by omega)
  replace rD : Row X3 w.heap.size 33 (dvC (.slice (some ⟨B, 0, none⟩) n cap) (dgL zs v) x st tk) := by rw [hX3]; exact rD.setCellsO (by omega) _ _
  have hS3 : (fun W' : World => Row W' w.heap.size 33 (dvC (.slice (some ⟨B, 0, none⟩) n cap) (dgL zs v) x st tk)) X3 := rD
  have hXX3 : World.setCells v2 ((w.heap.size + 1)) 0 ((dvC (.slice (some ⟨B, 0, none⟩) n cap) (dgL zs v) x (decide (v = x)) tk) : List Value).toArray.toList = X3 := hX3.symm
  rw [hXX3]
  refine hK _ _ ⟨hS3, ?_⟩
  try simp only [Act.put, List.setIfInBounds_toArray, List.set_cons_zero, List.set_cons_succ]
  clear hX3 hXX3 hK K hS2
  refine wpAnyH_takeD (some 5) (i := 5) (v := ?_) rfl rfl (by kernel_rfl) (by kernel_rfl) (by kernel_rfl) (fun _ _ _ h => h) (.inl ⟨by kernel_rfl, ?_⟩) hS3 ?_
  rotate_left
  · intro w' hw'; go_simp; try with_reducible rfl
  try simp only [Act.put, List.setIfInBounds_toArray, List.set_cons_zero, List.set_cons_succ]
  refine wpAnyH_takeD (some 6) (i := 6) (v := ?_) rfl rfl (by kernel_rfl) (by kernel_rfl) (by kernel_rfl) (fun _ _ _ h => h) (.inl ⟨by kernel_rfl, ?_⟩) hS3 ?_
  rotate_left
  · intro w' hw'; go_simp; try with_reducible rfl
  try simp only [Act.put, List.setIfInBounds_toArray, List.set_cons_zero, List.set_cons_succ]
  refine wpAnyH_done (by kernel_rfl) ?_ _
  go_wp2_with fail
  exact bodyPost_ret (v := .tuple #[.agg (dvC (.slice (some ⟨B, 0, none⟩) n cap) (dgL zs v) x (decide (v = x)) tk).toArray, .int .i64 0, .nilIface]) (results_css (p := 4) (q := 5) (r := 6) (fn := Tryd.f137) rfl _ _ _ _ _ _ _ _ rfl rfl rfl nZ Tryd.underlying33 rfl hID) rfl ⟨rfl, nB⟩
set_option maxRecDepth 100000 in
set_option maxHeartbeats 4000000 in
theorem presetDo_no (B n cap : Nat) (zs : List Int) (v pr : Int) (st : Bool) (tk : Int) (x : Int) (w : World) (hS : Stk w B zs) (hn : n = zs.length) (hv : okL zs = true) (hvv : 0 ≤ v ∧ v < szL zs) (a0 a1 a2 a3 : Addr) (hSN : SN w a0 a1 a2 a3) (hx : szL zs ≤ x) :
    Calls Tryd.prog 137 #[.int .i64 x, .agg (dvC (.slice (some ⟨B, 0, none⟩) n cap) (dgL zs v) pr st tk).toArray] w fun e w' => e = .returned (.tuple #[.agg dvZ.toArray, .int .i64 0, ES a2]) ∧ Below w.heap.size w w' := by
  obtain ⟨_, h8, hin, z1, z2⟩ := okL_out hv
  have hID : (Tryd.prog.info? 33).map (·.size) = some 12 := Tryd.infoDev
  obtain ⟨V, hV⟩ : ∃ V, V = (w.alloc (.cells (dvC (.slice (some ⟨B, 0, none⟩) n cap) (dgL zs v) pr st tk).toArray 33)).alloc (.cells #[.slice none 0 0, .int .u8 0, .int .u8 0, .int .u8 0, .int .u8 0, .int .u8 0, .int .u8 0, .int .u8 0, .int .u8 0, .int .i64 0, .bool false, .int .i64 0] 33) := ⟨_, rfl⟩
  have bV : Below w.heap.size w V := by rw [hV]; exact ((Below.refl _ _).alloc (Nat.le_refl _) _).alloc (by simp) _
  have sV : V.heap.size = w.heap.size + 1 + 1 := by rw [hV]; simp
  have rD : Row V w.heap.size 33 (dvC (.slice (some ⟨B, 0, none⟩) n cap) (dgL zs v) pr st tk) := by
    have h := (Row.new w 33 (dvC (.slice (some ⟨B, 0, none⟩) n cap) (dgL zs v) pr st tk)).alloc (.cells #[.slice none 0 0, .int .u8 0, .int .u8 0, .int .u8 0, .int .u8 0, .int .u8 0, .int .u8 0, .int .u8 0, .int .u8 0, .int .i64 0, .bool false, .int .i64 0] 33)
    skip
    rw [hV]; exact h
  have rZ : Row V (w.heap.size + 1) 33 dvZ := by
    have h := Row.new (w.alloc (.cells (dvC (.slice (some ⟨B, 0, none⟩) n cap) (dgL zs v) pr st tk).toArray 33)) 33 dvZ
    simp only [World.size_alloc] at h
    rw [hV]; exact h
  have sS := hS.below bV hS.1
  have sN := hSN.below bV trivial
  have HSN := hid hSN
  have HSS := hid hS
  have HV := hid hV
  have HP := hid (hasPreset_no B n cap zs x V sS hn hv (by omega))
  have c0 : V.cell? ⟨w.heap.size, 0, none⟩ = some (.slice (some ⟨B, 0, none⟩) n cap) := rD.cell 0
  rw [hV] at c0
  clear hS hn hv h8 hin z1 z2 hx hvv hV hSN
  go_enter Tryd.func137, Tryd.ntmps137
  go_wp2_with fail
  rw [← HV.out]
  refine HP.out.mono ?_
  rintro e w1 ⟨rfl, hB1⟩
  have bW1 := bV.trans (hB1.mono (by omega))
  replace rZ := rZ.below hB1 rZ.lt; replace sN := sN.below hB1 trivial
  clear c0 hB1 rD sS
  go_wp2_with fail
  refine wp_region_held (S := fun W' : World => SN W' a0 a1 a2 a3) (by kernel_rfl) ?_
  change wpAnyH _ _ _ _ _ _ _ _ (World.drew _)
  obtain ⟨W0, hW0⟩ : ∃ X, X = World.drew (w1) := ⟨_, rfl⟩
  have hD0 : Below (w1).heap.size (w1) W0 := by rw [hW0]; exact (Below.refl _ _).drew
  replace rZ := rZ.below hD0 rZ.lt
  replace sN := sN.below hD0 sN.1
  have bW0 := bW1.trans (hD0.mono bW1.size)
  have bR : Below W0.heap.size W0 W0 := Below.refl _ _
  rw [← hW0]
  clear hW0 hD0
  have l_rZ := rZ.lt
  have l_sN := sN.1
  have hS0 : (fun W' : World => SN W' a0 a1 a2 a3) W0 := sN
  refine wpAnyH_takeD (some 12) (i := 0) (v := ?_) rfl rfl (by kernel_rfl) (by kernel_rfl) (by kernel_rfl) (fun _ _ _ h => h) (.inl ⟨by kernel_rfl, ?_⟩) hS0 ?_
  rotate_left
  · intro w' hw'; go_simp; try with_reducible rfl
  try simp only [Act.put, List.setIfInBounds_toArray, List.set_cons_zero, List.set_cons_succ]
  refine wpAnyH_takeD (some 13) (i := 1) (v := ?_) rfl rfl (by kernel_rfl) (by kernel_rfl) (by kernel_rfl) (fun _ _ _ h => h) (.inl ⟨by kernel_rfl, ?_⟩) hS0 ?_
  rotate_left
  · intro w' hw'; have eG := hw'.2.1.2.2.1; clear hw'; go_simp; try with_reducible rfl
  try simp only [Act.put, List.setIfInBounds_toArray, List.set_cons_zero, List.set_cons_succ]
  refine wpAnyH_all (rs := [2]) (by kernel_rfl) (by simp) ?_
  intro i hi; simp only [List.mem_cons, List.not_mem_nil, or_false] at hi
  subst hi
  refine wpOp_step rfl (fun K hK => ?_)
  rw [if_pos (by kernel_rfl)]
  refine wp_store_mid 33 (.tmp 4) (.tmp 12) rfl ((w.heap.size + 1)) 0 (dvZ : List Value).toArray rfl rfl (rZ.thereO 0 12 (by rw [dvZ_len]; omega)) hID dvZ_oneT ?_
  obtain ⟨X1, hX1⟩ : ∃ X, X = World.setCells W0 ((w.heap.size + 1)) 0 (dvZ : List Value) := ⟨_, rfl⟩
  have nZ : Row X1 (w.heap.size + 1) 33 dvZ := by rw [hX1]; exact rZ.setAll rfl
  have nB : Below w.heap.size w X1 := by rw [hX1]; exact below_setCellsD _ _ _ (bW0.trans (bR.mono bW0.size)) (by omega)
  replace sN : SN X1 a0 a1 a2 a3 := HSN.out.below nB trivial
  have hS1 : (fun W' : World => SN W' a0 a1 a2 a3) X1 := sN
  have hXX1 : World.setCells W0 ((w.heap.size + 1)) 0 (dvZ : List Value).toArray.toList = X1 := hX1.symm
  rw [hXX1]
  refine hK _ _ ⟨hS1, ?_⟩
  try simp only [Act.put, List.setIfInBounds_toArray, List.set_cons_zero, List.set_cons_succ]
  clear hX1 hXX1 hK K hS0
  refine wpAnyH_takeD (some 5) (i := 3) (v := ?_) rfl rfl (by kernel_rfl) (by kernel_rfl) (by kernel_rfl) (fun _ _ _ h => h) (.inl ⟨by kernel_rfl, ?_⟩) hS1 ?_
  rotate_left
  · intro w' hw'; go_simp; try with_reducible rfl
  try simp only [Act.put, List.setIfInBounds_toArray, List.set_cons_zero, List.set_cons_succ]
  refine wpAnyH_takeD (some 6) (i := 4) (v := ?_) rfl rfl (by kernel_rfl) (by kernel_rfl) (by kernel_rfl) (fun _ _ _ h => h) (.inl ⟨by kernel_rfl, ?_⟩) hS1 ?_
  rotate_left
  · intro w' hw'; go_simp; try with_reducible rfl
  try simp only [Act.put, List.setIfInBounds_toArray, List.set_cons_zero, List.set_cons_succ]
  refine wpAnyH_done (by kernel_rfl) ?_ _
  go_wp2_with fail
  exact bodyPost_ret (v := .tuple #[.agg dvZ.toArray, .int .i64 0, ES a2]) (results_css (p := 4) (q := 5) (r := 6) (fn := Tryd.f137) rfl _ _ _ _ _ _ _ _ rfl rfl rfl nZ Tryd.underlying33 rfl hID) rfl ⟨rfl, nB⟩
set_option maxRecDepth 100000 in
set_option maxHeartbeats 4000000 in
theorem resetDo (B n cap : Nat) (zs : List Int) (v pr : Int) (st : Bool) (tk : Int) (w : World) (hS : Stk w B zs) (hn : n = zs.length) (hv : okL zs = true) (hvv : 0 ≤ v ∧ v < szL zs) (a0 a1 a2 a3 : Addr) (hSN : SN w a0 a1 a2 a3) :
    Calls Tryd.prog 138 #[.agg #[], .agg (dvC (.slice (some ⟨B, 0, none⟩) n cap) (dgL zs v) pr st tk).toArray] w fun e w' => e = .returned (.tuple #[.agg (dvC (.slice (some ⟨B, 0, none⟩) n cap) (dgL zs 0) pr (decide (0 = pr)) tk).toArray, .int .i64 0, .nilIface]) ∧ Below w.heap.size w w' := by
  obtain ⟨_, h8, hin, z1, z2⟩ := okL_out hv
  have hID : (Tryd.prog.info? 33).map (·.size) = some 12 := Tryd.infoDev
  obtain ⟨V, hV⟩ : ∃ V, V = ((w.alloc (.cells #[] 157)).alloc (.cells (dvC (.slice (some ⟨B, 0, none⟩) n cap) (dgL zs v) pr st tk).toArray 33)).alloc (.cells #[.slice none 0 0, .int .u8 0, .int .u8 0, .int .u8 0, .int .u8 0, .int .u8 0, .int .u8 0, .int .u8 0, .int .u8 0, .int .i64 0, .bool false, .int .i64 0] 33) := ⟨_, rfl⟩
  have bV : Below w.heap.size w V := by rw [hV]; exact (((Below.refl _ _).alloc (Nat.le_refl _) _).alloc (by simp) _).alloc (by simp; omega) _
  have sV : V.heap.size = w.heap.size + 1 + 1 + 1 := by rw [hV]; simp
  have rD : Row V (w.heap.size + 1) 33 (dvC (.slice (some ⟨B, 0, none⟩) n cap) (dgL zs v) pr st tk) := by
    have h := (Row.new (w.alloc (.cells #[] 157)) 33 (dvC (.slice (some ⟨B, 0, none⟩) n cap) (dgL zs v) pr st tk)).alloc (.cells #[.slice none 0 0, .int .u8 0, .int .u8 0, .int .u8 0, .int .u8 0, .int .u8 0, .int .u8 0, .int .u8 0, .int .u8 0, .int .i64 0, .bool false, .int .i64 0] 33)
    simp only [World.size_alloc] at h
    rw [hV]; exact h
  have rZ : Row V (w.heap.size + 1 + 1) 33 dvZ := by
    have h := Row.new ((w.alloc (.cells #[] 157)).alloc (.cells (dvC (.slice (some ⟨B, 0, none⟩) n cap) (dgL zs v) pr st tk).toArray 33)) 33 dvZ
    simp only [World.size_alloc] at h
    rw [hV]; exact h
  have sS := hS.below bV hS.1
  have sN := hSN.below bV trivial
  have HSN := hid hSN
  have HSS := hid hS
  have HV := hid hV
  have HSH0 := fun W h => showing_any B n cap zs (dgL zs v) pr st tk 0 W h hn hv (by omega)
  rw [Int.zero_emod] at HSH0
  have HSH := hid HSH0
  clear hS hn hv h8 hin z1 z2 hvv hV hSN HSH0 sN
  go_enter Tryd.func138, Tryd.ntmps138
  go_wp2_with ((with_reducible refine wpList_load_row rfl 33 _ rfl (w.heap.size + 1) ?_ 33 (dvC (.slice (some ⟨B, 0, none⟩) n cap) (dgL zs v) pr st tk).toArray (0, 0) _ ?_ Tryd.underlying33 ?_ ?_ ?_); rfl; rw [← HV.out]; exact rD; rfl; exact hID)
  rw [← HV.out]
  refine (HSH.out V sS).mono ?_
  rintro e w1 ⟨rfl, hB1⟩
  have bW1 := bV.trans (hB1.mono (by omega))
  replace rZ := rZ.below hB1 rZ.lt
  have T5 := rZ.thereO 0 12 (by rw [dvZ_len]; omega)
  clear hB1 rD sS
  go_wp2_with ((with_reducible refine wpList_store_mid rfl 33 _ _ rfl (w.heap.size + 1 + 1) 0 (dvC (.slice (some ⟨B, 0, none⟩) n cap) (dgL zs 0) pr (decide (0 = pr)) tk).toArray ?_ ?_ ?_ ?_ (all_oneCell_toArray (dvC_one _ _ _ _ _ _ _)) ?_); rfl; rfl; exact T5; exact hID)
  have r6 := rZ.setAll (ys := (dvC (.slice (some ⟨B, 0, none⟩) n cap) (dgL zs 0) pr (decide (0 = pr)) tk)) rfl
  exact bodyPost_ret (v := .tuple #[.agg (dvC (.slice (some ⟨B, 0, none⟩) n cap) (dgL zs 0) pr (decide (0 = pr)) tk).toArray, .int .i64 0, .nilIface]) (results_css (p := 4) (q := 5) (r := 6) (fn := Tryd.f138) rfl _ _ _ _ _ _ _ _ rfl rfl rfl r6 Tryd.underlying33 rfl hID) rfl ⟨rfl, below_setCellsD _ _ _ bW1 (by omega)⟩
set_option maxRecDepth 100000 in
set_option maxHeartbeats 4000000 in
theorem printDo_ok (B n cap : Nat) (zs : List Int) (v pr : Int) (st : Bool) (tk : Int) (w : World) (hS : Stk w B zs) (hn : n = zs.length) (hv : okL zs = true) (hvv : 0 ≤ v ∧ v < szL zs) (a0 a1 a2 a3 : Addr) (hSN : SN w a0 a1 a2 a3) (ht : 0 ≤ tk ∧ tk < 1000000) :
    Calls Tryd.prog 139 #[.agg #[], .agg (dvC (.slice (some ⟨B, 0, none⟩) n cap) (dgL zs v) pr st tk).toArray] w fun e w' => e = .returned (.tuple #[.agg (dvC (.slice (some ⟨B, 0, none⟩) n cap) (dgL zs v) pr st (tk + 1)).toArray, .int .i64 0, .nilIface]) ∧ Below w.heap.size w w' := by
  obtain ⟨_, h8, hin, z1, z2⟩ := okL_out hv
  have hID : (Tryd.prog.info? 33).map (·.size) = some 12 := Tryd.infoDev
  obtain ⟨V, hV⟩ : ∃ V, V = ((w.alloc (.cells #[] 158)).alloc (.cells (dvC (.slice (some ⟨B, 0, none⟩) n cap) (dgL zs v) pr st tk).toArray 33)).alloc (.cells #[.slice none 0 0, .int .u8 0, .int .u8 0, .int .u8 0, .int .u8 0, .int .u8 0, .int .u8 0, .int .u8 0, .int .u8 0, .int .i64 0, .bool false, .int .i64 0] 33) := ⟨_, rfl⟩
  have bV : Below w.heap.size w V := by rw [hV]; exact (((Below.refl _ _).alloc (Nat.le_refl _) _).alloc (by simp) _).alloc (by simp; omega) _
  have sV : V.heap.size = w.heap.size + 1 + 1 + 1 := by rw [hV]; simp
  have rD : Row V (w.heap.size + 1) 33 (dvC (.slice (some ⟨B, 0, none⟩) n cap) (dgL zs v) pr st tk) := by
    have h := (Row.new (w.alloc (.cells #[] 158)) 33 (dvC (.slice (some ⟨B, 0, none⟩) n cap) (dgL zs v) pr st tk)).alloc (.cells #[.slice none 0 0, .int .u8 0, .int .u8 0, .int .u8 0, .int .u8 0, .int .u8 0, .int .u8 0, .int .u8 0, .int .u8 0, .int .i64 0, .bool false, .int .i64 0] 33)
    simp only [World.size_alloc] at h
    rw [hV]; exact h
  have rZ : Row V (w.heap.size + 1 + 1) 33 dvZ := by
    have h := Row.new ((w.alloc (.cells #[] 158)).alloc (.cells (dvC (.slice (some ⟨B, 0, none⟩) n cap) (dgL zs v) pr st tk).toArray 33)) 33 dvZ
    simp only [World.size_alloc] at h
    rw [hV]; exact h
  have sS := hS.below bV hS.1
  have sN := hSN.below bV trivial
  have HSN := hid hSN
  have HSS := hid hS
  have HV := hid hV
  have c11 : V.cell? ⟨(w.heap.size + 1), 11, none⟩ = some (.int .i64 tk) := rD.cell 11
  have f11 := rD.frozen 11
  rw [hV] at c11 f11
  have e11 : (tk == 1000000) = false := by simp; omega
  have wt : IntKind.i64.wrap (tk + 1) = tk + 1 := IntWalk.i64_in _ (by omega)
  clear hS hn hv h8 hin z1 z2 hvv hV hSN sN sS ht
  go_enter Tryd.func139, Tryd.ntmps139
  go_upto_region 3 with fail
  rw [← HV.out]
  have c11 : V.cell? ⟨(w.heap.size + 1), 11, none⟩ = some (.int .i64 tk) := rD.cell 11
  have f11 := rD.frozen 11
  go_upto_region 4 with fail
  obtain ⟨W5, hW5⟩ : ∃ X, X = V.setCell ⟨(w.heap.size + 1), 11, none⟩ (.int .i64 (tk + 1)) := ⟨_, rfl⟩
  have r5 : Row W5 (w.heap.size + 1) 33 (dvC (.slice (some ⟨B, 0, none⟩) n cap) (dgL zs v) pr st (tk + 1)) := by rw [hW5]; exact rD.set 11 _
  have z5 : Row W5 (w.heap.size + 1 + 1) 33 dvZ := by rw [hW5]; exact rZ.other (by show (w.heap.size + 1) ≠ (w.heap.size + 1 + 1); omega) _
  have b5 : Below w.heap.size w W5 := by rw [hW5]; exact bV.setCell (p := ⟨(w.heap.size + 1), 11, none⟩) (by show w.heap.size ≤ (w.heap.size + 1); omega) _
  rw [← hW5]
  clear hW5 c11 f11 rD rZ
  have T5 := z5.thereO 0 12 (by rw [dvZ_len]; omega)
  go_wp2_with (first | ((with_reducible refine wpList_load_row rfl 33 _ rfl (w.heap.size + 1) ?_ 33 (dvC (.slice (some ⟨B, 0, none⟩) n cap) (dgL zs v) pr st (tk + 1)).toArray (0, 0) _ ?_ Tryd.underlying33 ?_ ?_ ?_); rfl; exact r5; rfl; exact hID) | ((with_reducible refine wpList_store_mid rfl 33 _ _ rfl (w.heap.size + 1 + 1) 0 (dvC (.slice (some ⟨B, 0, none⟩) n cap) (dgL zs v) pr st (tk + 1)).toArray ?_ ?_ ?_ ?_ (all_oneCell_toArray (dvC_one _ _ _ _ _ _ _)) ?_); rfl; rfl; exact T5; exact hID))
  have r6 := z5.setAll (ys := (dvC (.slice (some ⟨B, 0, none⟩) n cap) (dgL zs v) pr st (tk + 1))) rfl
  exact bodyPost_ret (v := .tuple #[.agg (dvC (.slice (some ⟨B, 0, none⟩) n cap) (dgL zs v) pr st (tk + 1)).toArray, .int .i64 0, .nilIface]) (results_css (p := 4) (q := 5) (r := 6) (fn := Tryd.f139) rfl _ _ _ _ _ _ _ _ rfl rfl rfl r6 Tryd.underlying33 rfl hID) rfl ⟨rfl, below_setCellsD _ _ _ b5 (by omega)⟩
set_option maxRecDepth 100000 in
set_option maxHeartbeats 4000000 in
theorem printDo_no (B n cap : Nat) (zs : List Int) (v pr : Int) (st : Bool) (tk : Int) (w : World) (hS : Stk w B zs) (hn : n = zs.length) (hv : okL zs = true) (hvv : 0 ≤ v ∧ v < szL zs) (a0 a1 a2 a3 : Addr) (hSN : SN w a0 a1 a2 a3) (ht : tk = 1000000) :
    Calls Tryd.prog 139 #[.agg #[], .agg (dvC (.slice (some ⟨B, 0, none⟩) n cap) (dgL zs v) pr st tk).toArray] w fun e w' => e = .returned (.tuple #[.agg dvZ.toArray, .int .i64 0, ES a3]) ∧ Below w.heap.size w w' := by
  obtain ⟨_, h8, hin, z1, z2⟩ := okL_out hv
  have hID : (Tryd.prog.info? 33).map (·.size) = some 12 := Tryd.infoDev
  obtain ⟨V, hV⟩ : ∃ V, V = ((w.alloc (.cells #[] 158)).alloc (.cells (dvC (.slice (some ⟨B, 0, none⟩) n cap) (dgL zs v) pr st tk).toArray 33)).alloc (.cells #[.slice none 0 0, .int .u8 0, .int .u8 0, .int .u8 0, .int .u8 0, .int .u8 0, .int .u8 0, .int .u8 0, .int .u8 0, .int .i64 0, .bool false, .int .i64 0] 33) := ⟨_, rfl⟩
  have bV : Below w.heap.size w V := by rw [hV]; exact (((Below.refl _ _).alloc (Nat.le_refl _) _).alloc (by simp) _).alloc (by simp; omega) _
  have sV : V.heap.size = w.heap.size + 1 + 1 + 1 := by rw [hV]; simp
  have rD : Row V (w.heap.size + 1) 33 (dvC (.slice (some ⟨B, 0, none⟩) n cap) (dgL zs v) pr st tk) := by
    have h := (Row.new (w.alloc (.cells #[] 158)) 33 (dvC (.slice (some ⟨B, 0, none⟩) n cap) (dgL zs v) pr st tk)).alloc (.cells #[.slice none 0 0, .int .u8 0, .int .u8 0, .int .u8 0, .int .u8 0, .int .u8 0, .int .u8 0, .int .u8 0, .int .u8 0, .int .i64 0, .bool false, .int .i64 0] 33)
    simp only [World.size_alloc] at h
    rw [hV]; exact h
  have rZ : Row V (w.heap.size + 1 + 1) 33 dvZ := by
    have h := Row.new ((w.alloc (.cells #[] 158)).alloc (.cells (dvC (.slice (some ⟨B, 0, none⟩) n cap) (dgL zs v) pr st tk).toArray 33)) 33 dvZ
    simp only [World.size_alloc] at h
    rw [hV]; exact h
  have sS := hS.below bV hS.1
  have sN := hSN.below bV trivial
  have HSN := hid hSN
  have HSS := hid hS
  have HV := hid hV
  have c11 : V.cell? ⟨(w.heap.size + 1), 11, none⟩ = some (.int .i64 tk) := rD.cell 11
  have f11 := rD.frozen 11
  rw [hV] at c11 f11
  have e11 : (tk == 1000000) = true := by simp; omega
  clear hS hn hv h8 hin z1 z2 hvv hV hSN sS ht rD
  go_enter Tryd.func139, Tryd.ntmps139
  go_wp2_with fail
  rw [← HV.out]
  have bW1 := bV
  clear c11 f11
  refine wp_region_held (S := fun W' : World => SN W' a0 a1 a2 a3) (by kernel_rfl) ?_
  change wpAnyH _ _ _ _ _ _ _ _ (World.drew _)
  obtain ⟨W0, hW0⟩ : ∃ X, X = World.drew (V) := ⟨_, rfl⟩
  have hD0 : Below (V).heap.size (V) W0 := by rw [hW0]; exact (Below.refl _ _).drew
  replace rZ := rZ.below hD0 rZ.lt
  replace sN := sN.below hD0 sN.1
  have bW0 := bW1.trans (hD0.mono bW1.size)
  have bR : Below W0.heap.size W0 W0 := Below.refl _ _
  rw [← hW0]
  clear hW0 hD0
  have l_rZ := rZ.lt
  have l_sN := sN.1
  have hS0 : (fun W' : World => SN W' a0 a1 a2 a3) W0 := sN
  refine wpAnyH_takeD (some 10) (i := 0) (v := ?_) rfl rfl (by kernel_rfl) (by kernel_rfl) (by kernel_rfl) (fun _ _ _ h => h) (.inl ⟨by kernel_rfl, ?_⟩) hS0 ?_
  rotate_left
  · intro w' hw'; go_simp; try with_reducible rfl
  try simp only [Act.put, List.setIfInBounds_toArray, List.set_cons_zero, List.set_cons_succ]
  refine wpAnyH_takeD (some 11) (i := 1) (v := ?_) rfl rfl (by kernel_rfl) (by kernel_rfl) (by kernel_rfl) (fun _ _ _ h => h) (.inl ⟨by kernel_rfl, ?_⟩) hS0 ?_
  rotate_left
  · intro w' hw'; have eG := hw'.2.1.2.2.2; clear hw'; go_simp; try with_reducible rfl
  try simp only [Act.put, List.setIfInBounds_toArray, List.set_cons_zero, List.set_cons_succ]
  refine wpAnyH_all (rs := [2]) (by kernel_rfl) (by simp) ?_
  intro i hi; simp only [List.mem_cons, List.not_mem_nil, or_false] at hi
  subst hi
  refine wpOp_step rfl (fun K hK => ?_)
  rw [if_pos (by kernel_rfl)]
  refine wp_store_mid 33 (.tmp 4) (.tmp 10) rfl ((w.heap.size + 1 + 1)) 0 (dvZ : List Value).toArray rfl rfl (rZ.thereO 0 12 (by rw [dvZ_len]; omega)) hID dvZ_oneT ?_
  obtain ⟨X1, hX1⟩ : ∃ X, X = World.setCells W0 ((w.heap.size + 1 + 1)) 0 (dvZ : List Value) := ⟨_, rfl⟩
  have nZ : Row X1 (w.heap.size + 1 + 1) 33 dvZ := by rw [hX1]; exact rZ.setAll rfl
  have nB : Below w.heap.size w X1 := by rw [hX1]; exact below_setCellsD _ _ _ (bW0.trans (bR.mono bW0.size)) (by omega)
  replace sN : SN X1 a0 a1 a2 a3 := HSN.out.below nB trivial
  have hS1 : (fun W' : World => SN W' a0 a1 a2 a3) X1 := sN
  have hXX1 : World.setCells W0 ((w.heap.size + 1 + 1)) 0 (dvZ : List Value).toArray.toList = X1 := hX1.symm
  rw [hXX1]
  refine hK _ _ ⟨hS1, ?_⟩
  try simp only [Act.put, List.setIfInBounds_toArray, List.set_cons_zero, List.set_cons_succ]
  clear hX1 hXX1 hK K hS0
  refine wpAnyH_takeD (some 5) (i := 3) (v := ?_) rfl rfl (by kernel_rfl) (by kernel_rfl) (by kernel_rfl) (fun _ _ _ h => h) (.inl ⟨by kernel_rfl, ?_⟩) hS1 ?_
  rotate_left
  · intro w' hw'; go_simp; try with_reducible rfl
  try simp only [Act.put, List.setIfInBounds_toArray, List.set_cons_zero, List.set_cons_succ]
  refine wpAnyH_takeD (some 6) (i := 4) (v := ?_) rfl rfl (by kernel_rfl) (by kernel_rfl) (by kernel_rfl) (fun _ _ _ h => h) (.inl ⟨by kernel_rfl, ?_⟩) hS1 ?_
  rotate_left
  · intro w' hw'; go_simp; try with_reducible rfl
  try simp only [Act.put, List.setIfInBounds_toArray, List.set_cons_zero, List.set_cons_succ]
  refine wpAnyH_done (by kernel_rfl) ?_ _
  go_wp2_with fail
  exact bodyPost_ret (v := .tuple #[.agg dvZ.toArray, .int .i64 0, ES a3]) (results_css (p := 4) (q := 5) (r := 6) (fn := Tryd.f139) rfl _ _ _ _ _ _ _ _ rfl rfl rfl nZ Tryd.underlying33 rfl hID) rfl ⟨rfl, nB⟩
theorem pulses_any (B n cap : Nat) (zs : List Int) (v pr : Int) (st : Bool) (tk : Int) (x s : Int) (w : World) (hS : Stk w B zs) (hn : n = zs.length) (hv : okL zs = true) (hok : okS (szL zs) (v, pr, st, tk)) (hs : s = 1 ∨ s = -1) (hx : 0 ≤ x ∧ x ≤ 1000000000000) :
    Calls Tryd.prog 131 #[.agg #[.int .i64 x, .int .i64 s], .agg (dvC (.slice (some ⟨B, 0, none⟩) n cap) (dgL zs v) pr st tk).toArray] w fun e w' => e = .returned (.tuple #[.agg (dvC (.slice (some ⟨B, 0, none⟩) n cap) (dgL zs (pulF (szL zs) (v, pr, st, tk) x s).1.1) (pulF (szL zs) (v, pr, st, tk) x s).1.2.1 (pulF (szL zs) (v, pr, st, tk) x s).1.2.2.1 (pulF (szL zs) (v, pr, st, tk) x s).1.2.2.2).toArray, .int .i64 (pulF (szL zs) (v, pr, st, tk) x s).2, .nilIface]) ∧ Below w.heap.size w w' := by
  obtain ⟨⟨v0, v1⟩, ⟨p0, p1⟩, hst, t0, t1⟩ := hok
  have hok : okS (szL zs) (v, pr, st, tk) := ⟨⟨v0, v1⟩, ⟨p0, p1⟩, hst, t0, t1⟩
  simp only at v0 v1 p0 p1 hst t0 t1
  by_cases hp : pr = -1
  · have hf : st = false := by cases st with
      | false => rfl
      | true => have := hst rfl; omega
    subst hf
    have e0 : pulF (szL zs) (v, pr, false, tk) x s = (((v + x * s) % szL zs, pr, false, tk), 0) := by
      unfold pulF
      simp only
      rw [if_neg (by simp), if_neg (by omega)]
    rw [e0]
    by_cases h0 : 0 < x
    · have h := pulses_a1 B n cap zs v pr false tk x s w hS hn hv hok hs hx hp h0
      rw [decide_eq_false (by have := Int.emod_nonneg (v + x * s) (show szL zs ≠ 0 by omega); omega)] at h
      exact h
    · have hx0 : x = 0 := by omega
      have h := pulses_a2 B n cap zs v pr false tk x s w hS hn hv hok hs hx hp hx0
      subst hx0
      rw [Int.zero_mul, Int.add_zero, Int.emod_eq_of_lt v0 v1]
      exact h
  · have hp0 : 0 ≤ pr := by omega
    cases st with
    | true =>
      have h := pulses_b2 B n cap zs v pr true tk x s 0 w hS hn hv hok hs hx hp0 (by rw [if_pos rfl]; omega) rfl
      have e0 : pulF (szL zs) (v, pr, true, tk) x s = ((v, pr, true, tk), x) := by unfold pulF; rw [if_pos rfl]
      rw [e0]
      rw [Int.sub_zero] at h
      exact h
    | false =>
      obtain ⟨u1, u2, u3, u4⟩ := untX_val hs ⟨hp0, p1⟩ ⟨v0, v1⟩
      by_cases hu : untX ((pr - v) * s) (szL zs) ≤ x
      · have e0 : pulF (szL zs) (v, pr, false, tk) x s = ((pr, pr, true, tk), x - untX ((pr - v) * s) (szL zs)) := by
          unfold pulF
          simp only
          rw [if_neg (by simp), if_pos ⟨hp0, hu⟩]
        rw [e0]
        have h := pulses_b1 B n cap zs v pr false tk x s (untX ((pr - v) * s) (szL zs)) w hS hn hv hok hs hx hp0 (by rw [if_neg (by simp)]; omega) (by omega)
        rw [u1, decide_eq_true rfl] at h
        exact h
      · have e0 : pulF (szL zs) (v, pr, false, tk) x s = (((v + x * s) % szL zs, pr, false, tk), 0) := by
          unfold pulF
          simp only
          rw [if_neg (by simp), if_neg (by omega)]
        rw [e0]
        by_cases h0 : 0 < x
        · have h := pulses_b1 B n cap zs v pr false tk x s x w hS hn hv hok hs hx hp0 (by rw [if_neg (by simp)]; omega) h0
          rw [decide_eq_false (u4 x h0 (by omega)), Int.sub_self] at h
          exact h
        · have hx0 : x = 0 := by omega
          have h := pulses_b2 B n cap zs v pr false tk x s x w hS hn hv hok hs hx hp0 (by rw [if_neg (by simp)]; omega) hx0
          subst hx0
          rw [Int.zero_mul, Int.add_zero, Int.emod_eq_of_lt v0 v1]
          exact h
end Go.Proofs.YthifegbmpmialaaDoor
