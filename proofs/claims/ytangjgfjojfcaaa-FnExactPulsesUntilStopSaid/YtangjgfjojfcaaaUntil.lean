/- How many pulses there are until a device stops; PulsesUntilStop: the program's and the model's answers. -/
import Derived.Test.YtangjgfjojfcaaaDevV
import Derived.Test.YtangjgfjojfcaaaFloor
namespace Go.Proofs.Ytangjgfjojfcaaa
open Go.RowKit
/-- from x, that lies within a round of nothing, to 1 to a whole round -/
def untX (x z : Int) : Int := if x ≤ 0 then x + z else x
theorem untX_mod {x z : Int} (h1 : -z < x) (h2 : x < z) : 1 + (x - 1) % z = untX x z := by
  unfold untX
  by_cases h : x ≤ 0
  · rw [if_pos h]
    have e : (x - 1) % z = (x - 1 + z) % z := by rw [Int.add_emod_right]
    rw [e, Int.emod_eq_of_lt (by omega) (by omega)]
    omega
  · rw [if_neg h, Int.emod_eq_of_lt (by omega) (by omega)]
    omega
theorem untX_bd {x z : Int} (h1 : -z < x) (h2 : x < z) : 1 ≤ untX x z ∧ untX x z ≤ z := by
  unfold untX
  by_cases h : x ≤ 0
  · rw [if_pos h]; omega
  · rw [if_neg h]; omega
theorem valDev_bd {zs : List Int} {d0 d1 d2 d3 d4 d5 d6 d7 : Int} (hv : okV zs [d0, d1, d2, d3, d4, d5, d6, d7] = true) (ho : Oct d0 d1 d2 d3 d4 d5 d6 d7) : 0 ≤ valL zs [d0, d1, d2, d3, d4, d5, d6, d7] zs.length ∧ valL zs [d0, d1, d2, d3, d4, d5, d6, d7] zs.length < szL zs := by
  obtain ⟨hv1, hv2⟩ := okV_out hv
  obtain ⟨_, h8, hin, _, _⟩ := okL_out hv1
  have hlt := okD_lt hv2 h8 (fun j hj => (oct_bd ho j hj).1)
  have := valL_bd zs [d0, d1, d2, d3, d4, d5, d6, d7] zs.length (Nat.le_refl _) hin hlt
  rw [List.take_length] at this
  exact this
set_option maxRecDepth 100000 in
set_option maxHeartbeats 4000000 in
theorem untilStop_any (B n cap : Nat) (zs : List Int) (d0 d1 d2 d3 d4 d5 d6 d7 : Int) (pr : Int) (st : Bool) (tk : Int) (s x : Int) (w : World) (hS : Stk w B zs) (hn : n = zs.length) (ho : Oct d0 d1 d2 d3 d4 d5 d6 d7) (hv : okV zs [d0, d1, d2, d3, d4, d5, d6, d7] = true) (hp : 0 ≤ pr ∧ pr < szL zs) (hx : (pr - valL zs [d0, d1, d2, d3, d4, d5, d6, d7] zs.length) * s = x) (hb : -szL zs < x ∧ x < szL zs) :
    Calls Try.prog 63 #[.agg #[.slice (some ⟨B, 0, none⟩) n cap, .int .u8 d0, .int .u8 d1, .int .u8 d2, .int .u8 d3, .int .u8 d4, .int .u8 d5, .int .u8 d6, .int .u8 d7, .int .i64 pr, .bool st, .int .i64 tk], .int .i64 s] w (GivesB w (.int .i64 (if st then 0 else untX x (szL zs)))) := by
  obtain ⟨W, hW⟩ : ∃ W, W = (w.alloc (.cells #[.slice (some ⟨B, 0, none⟩) n cap, .int .u8 d0, .int .u8 d1, .int .u8 d2, .int .u8 d3, .int .u8 d4, .int .u8 d5, .int .u8 d6, .int .u8 d7, .int .i64 pr, .bool st, .int .i64 tk] 31)) := ⟨_, rfl⟩
  have bel : Below w.heap.size w W := by rw [hW]; exact boxD_bel _ _ _
  have r0 : Row W w.heap.size 31 [.slice (some ⟨B, 0, none⟩) n cap, .int .u8 d0, .int .u8 d1, .int .u8 d2, .int .u8 d3, .int .u8 d4, .int .u8 d5, .int .u8 d6, .int .u8 d7, .int .i64 pr, .bool st, .int .i64 tk] := by rw [hW]; exact Row.new _ _ _
  have hK := hS.below bel hS.1
  cases st with
  | true =>
    have c10 := r0.cell 10
    simp only [List.getElem?_cons_zero, List.getElem?_cons_succ] at c10
    have BE := hid bel
    have HW := hid hW
    clear bel hW hK hS hn r0 ho hv hp hx hb
    go_enter Try.func63, Try.ntmps63
    go_wp2_with fail
    rw [← HW.out]
    go_wp2_with fail
    go_ret
    exact ⟨rfl, BE.out⟩
  | false =>
    have hv1 := (okV_out hv).1
    obtain ⟨_, _, _, z1, z2⟩ := okL_out hv1
    have HS0 := hid (heldDev r0 (Below.refl _ _).drew)
    have HL := hid (fun (w' : World) (h : (fun w' : World => Below W.heap.size W w' ∧ w'.cell? ⟨w.heap.size, 0, none⟩ = some (.slice (some ⟨B, 0, none⟩) n cap) ∧ w'.cell? ⟨w.heap.size, 1, none⟩ = some (.int .u8 d0) ∧ w'.cell? ⟨w.heap.size, 2, none⟩ = some (.int .u8 d1) ∧ w'.cell? ⟨w.heap.size, 3, none⟩ = some (.int .u8 d2) ∧ w'.cell? ⟨w.heap.size, 4, none⟩ = some (.int .u8 d3) ∧ w'.cell? ⟨w.heap.size, 5, none⟩ = some (.int .u8 d4) ∧ w'.cell? ⟨w.heap.size, 6, none⟩ = some (.int .u8 d5) ∧ w'.cell? ⟨w.heap.size, 7, none⟩ = some (.int .u8 d6) ∧ w'.cell? ⟨w.heap.size, 8, none⟩ = some (.int .u8 d7) ∧ w'.cell? ⟨w.heap.size, 9, none⟩ = some (.int .i64 pr) ∧ w'.cell? ⟨w.heap.size, 10, none⟩ = some (.bool false) ∧ w'.cell? ⟨w.heap.size, 11, none⟩ = some (.int .i64 tk)) w') => (devValue_any B n cap zs d0 d1 d2 d3 d4 d5 d6 d7 pr false tk w' (hK.below h.1 hK.1) hn ho hv).mono fun e w'' ⟨he, hB⟩ => And.intro (show e = Ending.returned (.int .i64 (valL zs [d0, d1, d2, d3, d4, d5, d6, d7] zs.length)) from he) (heldDev r0 (h.1.trans (hB.mono h.1.size))))
    have HZ := hid (fun (w' : World) (h : (fun w' : World => Below W.heap.size W w' ∧ w'.cell? ⟨w.heap.size, 0, none⟩ = some (.slice (some ⟨B, 0, none⟩) n cap) ∧ w'.cell? ⟨w.heap.size, 1, none⟩ = some (.int .u8 d0) ∧ w'.cell? ⟨w.heap.size, 2, none⟩ = some (.int .u8 d1) ∧ w'.cell? ⟨w.heap.size, 3, none⟩ = some (.int .u8 d2) ∧ w'.cell? ⟨w.heap.size, 4, none⟩ = some (.int .u8 d3) ∧ w'.cell? ⟨w.heap.size, 5, none⟩ = some (.int .u8 d4) ∧ w'.cell? ⟨w.heap.size, 6, none⟩ = some (.int .u8 d5) ∧ w'.cell? ⟨w.heap.size, 7, none⟩ = some (.int .u8 d6) ∧ w'.cell? ⟨w.heap.size, 8, none⟩ = some (.int .u8 d7) ∧ w'.cell? ⟨w.heap.size, 9, none⟩ = some (.int .i64 pr) ∧ w'.cell? ⟨w.heap.size, 10, none⟩ = some (.bool false) ∧ w'.cell? ⟨w.heap.size, 11, none⟩ = some (.int .i64 tk)) w') => (size_any B n cap zs hn hv1 w' (hK.below h.1 hK.1)).mono fun e w'' ⟨he, hB⟩ => And.intro (show e = Ending.returned (.int .i64 (szL zs)) from he) (heldDev r0 (h.1.trans (hB.mono h.1.size))))
    have HF := hid (fun (w' : World) (h : (fun w' : World => Below W.heap.size W w' ∧ w'.cell? ⟨w.heap.size, 0, none⟩ = some (.slice (some ⟨B, 0, none⟩) n cap) ∧ w'.cell? ⟨w.heap.size, 1, none⟩ = some (.int .u8 d0) ∧ w'.cell? ⟨w.heap.size, 2, none⟩ = some (.int .u8 d1) ∧ w'.cell? ⟨w.heap.size, 3, none⟩ = some (.int .u8 d2) ∧ w'.cell? ⟨w.heap.size, 4, none⟩ = some (.int .u8 d3) ∧ w'.cell? ⟨w.heap.size, 5, none⟩ = some (.int .u8 d4) ∧ w'.cell? ⟨w.heap.size, 6, none⟩ = some (.int .u8 d5) ∧ w'.cell? ⟨w.heap.size, 7, none⟩ = some (.int .u8 d6) ∧ w'.cell? ⟨w.heap.size, 8, none⟩ = some (.int .u8 d7) ∧ w'.cell? ⟨w.heap.size, 9, none⟩ = some (.int .i64 pr) ∧ w'.cell? ⟨w.heap.size, 10, none⟩ = some (.bool false) ∧ w'.cell? ⟨w.heap.size, 11, none⟩ = some (.int .i64 tk)) w') => (floorMod_any (x - 1) (szL zs) (by omega) (by omega) w').mono fun e w'' ⟨he, hB⟩ => And.intro (show e = Ending.returned (.int .i64 ((x - 1) % szL zs)) from he) (hB ▸ h))
    have c10 := r0.cell 10
    simp only [List.getElem?_cons_zero, List.getElem?_cons_succ] at c10
    have vb := valDev_bd hv ho
    have eu := untX_mod hb.1 hb.2
    have bu := untX_bd hb.1 hb.2
    simp only [Bool.false_eq_true, if_false]
    rw [← eu] at bu ⊢
    obtain ⟨v, hvv⟩ : ∃ v, valL zs [d0, d1, d2, d3, d4, d5, d6, d7] zs.length = v := ⟨_, rfl⟩
    obtain ⟨z, hz⟩ : ∃ z, szL zs = z := ⟨_, rfl⟩
    rw [hvv] at HL vb hx
    rw [hz] at HZ HF z1 z2 vb hp hb bu ⊢
    obtain ⟨r, hr⟩ : ∃ r, (x - 1) % z = r := ⟨_, rfl⟩
    rw [hr] at HF bu ⊢
    have t1 : IntKind.i64.wrap (pr - v) = pr - v := IntWalk.i64_in _ (by omega)
    have t2 : IntKind.i64.wrap x = x := IntWalk.i64_in _ (by omega)
    have t3 : IntKind.i64.wrap (x - 1) = x - 1 := IntWalk.i64_in _ (by omega)
    have t4 : IntKind.i64.wrap (1 + r) = 1 + r := IntWalk.i64_in _ (by omega)
    have BE := hid bel
    have HW := hid hW
    clear bel hW hK hS hn r0 ho hv hv1 hp hb hvv hz hr eu vb z1 z2 bu
    go_enter Try.func63, Try.ntmps63
    go_wp2_with fail
    rw [← HW.out]
    go_wp2_with fail
    clear c10
    go_region_held3 (fun w' : World => Below W.heap.size W w' ∧ w'.cell? ⟨w.heap.size, 0, none⟩ = some (.slice (some ⟨B, 0, none⟩) n cap) ∧ w'.cell? ⟨w.heap.size, 1, none⟩ = some (.int .u8 d0) ∧ w'.cell? ⟨w.heap.size, 2, none⟩ = some (.int .u8 d1) ∧ w'.cell? ⟨w.heap.size, 3, none⟩ = some (.int .u8 d2) ∧ w'.cell? ⟨w.heap.size, 4, none⟩ = some (.int .u8 d3) ∧ w'.cell? ⟨w.heap.size, 5, none⟩ = some (.int .u8 d4) ∧ w'.cell? ⟨w.heap.size, 6, none⟩ = some (.int .u8 d5) ∧ w'.cell? ⟨w.heap.size, 7, none⟩ = some (.int .u8 d6) ∧ w'.cell? ⟨w.heap.size, 8, none⟩ = some (.int .u8 d7) ∧ w'.cell? ⟨w.heap.size, 9, none⟩ = some (.int .i64 pr) ∧ w'.cell? ⟨w.heap.size, 10, none⟩ = some (.bool false) ∧ w'.cell? ⟨w.heap.size, 11, none⟩ = some (.int .i64 tk)) (first | with_reducible assumption | with_reducible exact HS0.out)
      ((first | (go_at_call 45; with_reducible refine (HL.out _ (by assumption)).mono ?_; rintro e v ⟨rfl, hv⟩) | (go_at_call 73; with_reducible refine (HZ.out _ (by assumption)).mono ?_; rintro e v ⟨rfl, hv⟩) | (go_at_call 72; with_reducible refine (HF.out _ (by assumption)).mono ?_; rintro e v ⟨rfl, hv⟩)))
    all_goals
      go_wp2_with fail
      go_ret
      exact ⟨rfl, BE.out.trans (hv.1.mono BE.out.size)⟩
set_option maxRecDepth 100000 in
set_option maxHeartbeats 4000000 in
theorem l07Until_on (g B n cap : Nat) (zs : List Int) (d0 d1 d2 d3 d4 d5 d6 d7 : Int) (pr : Int) (st : Bool) (tk : Int) (w : World) (hS : Stk w B zs) (hn : n = zs.length) (ho : Oct d0 d1 d2 d3 d4 d5 d6 d7) (hv : okV zs [d0, d1, d2, d3, d4, d5, d6, d7] = true) (hp : 0 ≤ pr ∧ pr < szL zs) (hR : Row w g 31 [.slice (some ⟨B, 0, none⟩) n cap, .int .u8 d0, .int .u8 d1, .int .u8 d2, .int .u8 d3, .int .u8 d4, .int .u8 d5, .int .u8 d6, .int .u8 d7, .int .i64 pr, .bool st, .int .i64 tk]) :
    Calls Try.prog 62 #[.pointer (some ⟨g, 0, none⟩), .bool false] w (GivesB w (.int .i64 (untX (pr - valL zs [d0, d1, d2, d3, d4, d5, d6, d7] zs.length) (szL zs)))) := by
  have hv1 := (okV_out hv).1
  obtain ⟨_, _, _, z1, z2⟩ := okL_out hv1
  have HS0 := hid (heldDev hR (Below.refl _ _).drew)
  have HL := hid (fun (w' : World) (h : (fun w' : World => Below w.heap.size w w' ∧ w'.cell? ⟨g, 0, none⟩ = some (.slice (some ⟨B, 0, none⟩) n cap) ∧ w'.cell? ⟨g, 1, none⟩ = some (.int .u8 d0) ∧ w'.cell? ⟨g, 2, none⟩ = some (.int .u8 d1) ∧ w'.cell? ⟨g, 3, none⟩ = some (.int .u8 d2) ∧ w'.cell? ⟨g, 4, none⟩ = some (.int .u8 d3) ∧ w'.cell? ⟨g, 5, none⟩ = some (.int .u8 d4) ∧ w'.cell? ⟨g, 6, none⟩ = some (.int .u8 d5) ∧ w'.cell? ⟨g, 7, none⟩ = some (.int .u8 d6) ∧ w'.cell? ⟨g, 8, none⟩ = some (.int .u8 d7) ∧ w'.cell? ⟨g, 9, none⟩ = some (.int .i64 pr) ∧ w'.cell? ⟨g, 10, none⟩ = some (.bool st) ∧ w'.cell? ⟨g, 11, none⟩ = some (.int .i64 tk)) w') => (l01Value_ok B n cap zs d0 d1 d2 d3 d4 d5 d6 d7 ho hv (by omega) w' (hS.below h.1 hS.1)).mono fun e w'' ⟨he, hB⟩ => And.intro (show e = Ending.returned (.int .i64 (valL zs [d0, d1, d2, d3, d4, d5, d6, d7] n)) from he) (heldDev hR (h.1.trans (hB.mono h.1.size))))
  have HZ := hid (fun (w' : World) (h : Below w.heap.size w w') => l01Size_dev B n cap zs hn hv1 w' (hS.below h hS.1))
  have HC := hid (fun (w' : World) (h : Below w.heap.size w w') => (heldDev hR h).2)
  rw [hn] at HL
  have vb := valDev_bd hv ho
  have c9 := hR.cell 9
  simp only [List.getElem?_cons_zero, List.getElem?_cons_succ] at c9
  obtain ⟨v, hvv⟩ : ∃ v, valL zs [d0, d1, d2, d3, d4, d5, d6, d7] zs.length = v := ⟨_, rfl⟩
  obtain ⟨z, hz⟩ : ∃ z, szL zs = z := ⟨_, rfl⟩
  rw [hvv] at HL vb ⊢
  rw [← hn] at HL
  rw [hz] at HZ z1 z2 vb hp ⊢
  have dd0 : decide (pr < 0) = false := decide_eq_false (by omega)
  have t1 : IntKind.i64.wrap (pr - v) = pr - v := IntWalk.i64_in _ (by omega)
  have t2 : IntKind.i64.wrap (-(pr - v)) = -(pr - v) := IntWalk.i64_in _ (by omega)
  have tz : IntKind.i64.wrap (pr - v + z) = pr - v + z := IntWalk.i64_in _ (by omega)
  have ty : IntKind.i64.wrap (-(pr - v) + z) = -(pr - v) + z := IntWalk.i64_in _ (by omega)
  clear hS hn ho hv hv1 hvv hz hR
  unfold untX
  by_cases hx : pr - v ≤ 0
  · rw [if_pos hx]
    have dx : decide (pr - v ≤ 0) = true := decide_eq_true hx
    skip
    clear hx hp vb z1 z2
    go_enter Try.func62, Try.ntmps62
    go_wp2_with fail
    go_region_held3 (fun w' : World => Below w.heap.size w w' ∧ w'.cell? ⟨g, 0, none⟩ = some (.slice (some ⟨B, 0, none⟩) n cap) ∧ w'.cell? ⟨g, 1, none⟩ = some (.int .u8 d0) ∧ w'.cell? ⟨g, 2, none⟩ = some (.int .u8 d1) ∧ w'.cell? ⟨g, 3, none⟩ = some (.int .u8 d2) ∧ w'.cell? ⟨g, 4, none⟩ = some (.int .u8 d3) ∧ w'.cell? ⟨g, 5, none⟩ = some (.int .u8 d4) ∧ w'.cell? ⟨g, 6, none⟩ = some (.int .u8 d5) ∧ w'.cell? ⟨g, 7, none⟩ = some (.int .u8 d6) ∧ w'.cell? ⟨g, 8, none⟩ = some (.int .u8 d7) ∧ w'.cell? ⟨g, 9, none⟩ = some (.int .i64 pr) ∧ w'.cell? ⟨g, 10, none⟩ = some (.bool st) ∧ w'.cell? ⟨g, 11, none⟩ = some (.int .i64 tk)) (first | with_reducible assumption | with_reducible exact HS0.out)
      ((go_at_call 67; with_reducible refine (HL.out _ (by assumption)).mono ?_; rintro e v' ⟨rfl, hv⟩))
    obtain ⟨k0, k1, k2, k3, k4, k5, k6, k7, k8, k9, k10, k11⟩ := HC.out _ hv.1
    go_wp2_with fail
    refine (HZ.out _ hv.1).mono ?_
    rintro e w1 ⟨rfl, rfl⟩
    go_wp2_with fail
    go_ret
    exact ⟨rfl, hv.1⟩
  · rw [if_neg hx]
    have dx : decide (pr - v ≤ 0) = false := decide_eq_false hx
    skip
    clear hx hp vb z1 z2
    go_enter Try.func62, Try.ntmps62
    go_wp2_with fail
    go_region_held3 (fun w' : World => Below w.heap.size w w' ∧ w'.cell? ⟨g, 0, none⟩ = some (.slice (some ⟨B, 0, none⟩) n cap) ∧ w'.cell? ⟨g, 1, none⟩ = some (.int .u8 d0) ∧ w'.cell? ⟨g, 2, none⟩ = some (.int .u8 d1) ∧ w'.cell? ⟨g, 3, none⟩ = some (.int .u8 d2) ∧ w'.cell? ⟨g, 4, none⟩ = some (.int .u8 d3) ∧ w'.cell? ⟨g, 5, none⟩ = some (.int .u8 d4) ∧ w'.cell? ⟨g, 6, none⟩ = some (.int .u8 d5) ∧ w'.cell? ⟨g, 7, none⟩ = some (.int .u8 d6) ∧ w'.cell? ⟨g, 8, none⟩ = some (.int .u8 d7) ∧ w'.cell? ⟨g, 9, none⟩ = some (.int .i64 pr) ∧ w'.cell? ⟨g, 10, none⟩ = some (.bool st) ∧ w'.cell? ⟨g, 11, none⟩ = some (.int .i64 tk)) (first | with_reducible assumption | with_reducible exact HS0.out)
      ((go_at_call 67; with_reducible refine (HL.out _ (by assumption)).mono ?_; rintro e v' ⟨rfl, hv⟩))
    go_wp2_with fail
    go_ret
    exact ⟨rfl, hv.1⟩
set_option maxRecDepth 100000 in
set_option maxHeartbeats 4000000 in
theorem l07Until_back (g B n cap : Nat) (zs : List Int) (d0 d1 d2 d3 d4 d5 d6 d7 : Int) (pr : Int) (st : Bool) (tk : Int) (w : World) (hS : Stk w B zs) (hn : n = zs.length) (ho : Oct d0 d1 d2 d3 d4 d5 d6 d7) (hv : okV zs [d0, d1, d2, d3, d4, d5, d6, d7] = true) (hp : 0 ≤ pr ∧ pr < szL zs) (hR : Row w g 31 [.slice (some ⟨B, 0, none⟩) n cap, .int .u8 d0, .int .u8 d1, .int .u8 d2, .int .u8 d3, .int .u8 d4, .int .u8 d5, .int .u8 d6, .int .u8 d7, .int .i64 pr, .bool st, .int .i64 tk]) :
    Calls Try.prog 62 #[.pointer (some ⟨g, 0, none⟩), .bool true] w (GivesB w (.int .i64 (untX (-(pr - (valL zs [d0, d1, d2, d3, d4, d5, d6, d7] zs.length))) (szL zs)))) := by
  have hv1 := (okV_out hv).1
  obtain ⟨_, _, _, z1, z2⟩ := okL_out hv1
  have HS0 := hid (heldDev hR (Below.refl _ _).drew)
  have HL := hid (fun (w' : World) (h : (fun w' : World => Below w.heap.size w w' ∧ w'.cell? ⟨g, 0, none⟩ = some (.slice (some ⟨B, 0, none⟩) n cap) ∧ w'.cell? ⟨g, 1, none⟩ = some (.int .u8 d0) ∧ w'.cell? ⟨g, 2, none⟩ = some (.int .u8 d1) ∧ w'.cell? ⟨g, 3, none⟩ = some (.int .u8 d2) ∧ w'.cell? ⟨g, 4, none⟩ = some (.int .u8 d3) ∧ w'.cell? ⟨g, 5, none⟩ = some (.int .u8 d4) ∧ w'.cell? ⟨g, 6, none⟩ = some (.int .u8 d5) ∧ w'.cell? ⟨g, 7, none⟩ = some (.int .u8 d6) ∧ w'.cell? ⟨g, 8, none⟩ = some (.int .u8 d7) ∧ w'.cell? ⟨g, 9, none⟩ = some (.int .i64 pr) ∧ w'.cell? ⟨g, 10, none⟩ = some (.bool st) ∧ w'.cell? ⟨g, 11, none⟩ = some (.int .i64 tk)) w') => (l01Value_ok B n cap zs d0 d1 d2 d3 d4 d5 d6 d7 ho hv (by omega) w' (hS.below h.1 hS.1)).mono fun e w'' ⟨he, hB⟩ => And.intro (show e = Ending.returned (.int .i64 (valL zs [d0, d1, d2, d3, d4, d5, d6, d7] n)) from he) (heldDev hR (h.1.trans (hB.mono h.1.size))))
  have HZ := hid (fun (w' : World) (h : Below w.heap.size w w') => l01Size_dev B n cap zs hn hv1 w' (hS.below h hS.1))
  have HC := hid (fun (w' : World) (h : Below w.heap.size w w') => (heldDev hR h).2)
  rw [hn] at HL
  have vb := valDev_bd hv ho
  have c9 := hR.cell 9
  simp only [List.getElem?_cons_zero, List.getElem?_cons_succ] at c9
  obtain ⟨v, hvv⟩ : ∃ v, valL zs [d0, d1, d2, d3, d4, d5, d6, d7] zs.length = v := ⟨_, rfl⟩
  obtain ⟨z, hz⟩ : ∃ z, szL zs = z := ⟨_, rfl⟩
  rw [hvv] at HL vb ⊢
  rw [← hn] at HL
  rw [hz] at HZ z1 z2 vb hp ⊢
  have dd0 : decide (pr < 0) = false := decide_eq_false (by omega)
  have t1 : IntKind.i64.wrap (pr - v) = pr - v := IntWalk.i64_in _ (by omega)
  have t2 : IntKind.i64.wrap (-(pr - v)) = -(pr - v) := IntWalk.i64_in _ (by omega)
  have tz : IntKind.i64.wrap (pr - v + z) = pr - v + z := IntWalk.i64_in _ (by omega)
  have ty : IntKind.i64.wrap (-(pr - v) + z) = -(pr - v) + z := IntWalk.i64_in _ (by omega)
  clear hS hn ho hv hv1 hvv hz hR
  unfold untX
  by_cases hx : -(pr - v) ≤ 0
  · rw [if_pos hx]
    have dx : decide (-(pr - v) ≤ 0) = true := decide_eq_true hx
    have dy : decide (v ≤ pr) = true := decide_eq_true (by omega)
    clear hx hp vb z1 z2
    go_enter Try.func62, Try.ntmps62
    go_wp2_with fail
    go_region_held3 (fun w' : World => Below w.heap.size w w' ∧ w'.cell? ⟨g, 0, none⟩ = some (.slice (some ⟨B, 0, none⟩) n cap) ∧ w'.cell? ⟨g, 1, none⟩ = some (.int .u8 d0) ∧ w'.cell? ⟨g, 2, none⟩ = some (.int .u8 d1) ∧ w'.cell? ⟨g, 3, none⟩ = some (.int .u8 d2) ∧ w'.cell? ⟨g, 4, none⟩ = some (.int .u8 d3) ∧ w'.cell? ⟨g, 5, none⟩ = some (.int .u8 d4) ∧ w'.cell? ⟨g, 6, none⟩ = some (.int .u8 d5) ∧ w'.cell? ⟨g, 7, none⟩ = some (.int .u8 d6) ∧ w'.cell? ⟨g, 8, none⟩ = some (.int .u8 d7) ∧ w'.cell? ⟨g, 9, none⟩ = some (.int .i64 pr) ∧ w'.cell? ⟨g, 10, none⟩ = some (.bool st) ∧ w'.cell? ⟨g, 11, none⟩ = some (.int .i64 tk)) (first | with_reducible assumption | with_reducible exact HS0.out)
      ((go_at_call 67; with_reducible refine (HL.out _ (by assumption)).mono ?_; rintro e v' ⟨rfl, hv⟩))
    obtain ⟨k0, k1, k2, k3, k4, k5, k6, k7, k8, k9, k10, k11⟩ := HC.out _ hv.1
    go_wp2_with fail
    refine (HZ.out _ hv.1).mono ?_
    rintro e w1 ⟨rfl, rfl⟩
    go_wp2_with fail
    go_ret
    exact ⟨rfl, hv.1⟩
  · rw [if_neg hx]
    have dx : decide (-(pr - v) ≤ 0) = false := decide_eq_false hx
    have dy : decide (v ≤ pr) = false := decide_eq_false (by omega)
    clear hx hp vb z1 z2
    go_enter Try.func62, Try.ntmps62
    go_wp2_with fail
    go_region_held3 (fun w' : World => Below w.heap.size w w' ∧ w'.cell? ⟨g, 0, none⟩ = some (.slice (some ⟨B, 0, none⟩) n cap) ∧ w'.cell? ⟨g, 1, none⟩ = some (.int .u8 d0) ∧ w'.cell? ⟨g, 2, none⟩ = some (.int .u8 d1) ∧ w'.cell? ⟨g, 3, none⟩ = some (.int .u8 d2) ∧ w'.cell? ⟨g, 4, none⟩ = some (.int .u8 d3) ∧ w'.cell? ⟨g, 5, none⟩ = some (.int .u8 d4) ∧ w'.cell? ⟨g, 6, none⟩ = some (.int .u8 d5) ∧ w'.cell? ⟨g, 7, none⟩ = some (.int .u8 d6) ∧ w'.cell? ⟨g, 8, none⟩ = some (.int .u8 d7) ∧ w'.cell? ⟨g, 9, none⟩ = some (.int .i64 pr) ∧ w'.cell? ⟨g, 10, none⟩ = some (.bool st) ∧ w'.cell? ⟨g, 11, none⟩ = some (.int .i64 tk)) (first | with_reducible assumption | with_reducible exact HS0.out)
      ((go_at_call 67; with_reducible refine (HL.out _ (by assumption)).mono ?_; rintro e v' ⟨rfl, hv⟩))
    go_wp2_with fail
    go_ret
    exact ⟨rfl, hv.1⟩
/-- how many pulses there are until a device stops, with a code -/
def puR (zs ds : List Int) (pr : Int) (st : Bool) (tk : Int) : Int × Int :=
  if okDev zs ds pr st tk then (if pr < 0 then (0, 6) else (if st then 0 else untX (pr - valL zs ds zs.length) (szL zs), 0)) else (0, 1)
theorem puR_no {zs ds : List Int} {pr : Int} {st : Bool} {tk : Int} (h : okDev zs ds pr st tk = false) : puR zs ds pr st tk = (0, 1) := by simp [puR, h]
theorem puR_none {zs ds : List Int} {pr : Int} {st : Bool} {tk : Int} (h : okDev zs ds pr st tk = true) (k : pr < 0) : puR zs ds pr st tk = (0, 6) := by rw [puR, if_pos h, if_pos k]
theorem puR_yes {zs ds : List Int} {pr : Int} {st : Bool} {tk : Int} (h : okDev zs ds pr st tk = true) (k : ¬ pr < 0) : puR zs ds pr st tk = (if st then 0 else untX (pr - valL zs ds zs.length) (szL zs), 0) := by rw [puR, if_pos h, if_neg k]
set_option maxRecDepth 100000 in
set_option maxHeartbeats 4000000 in
theorem specPulsesUntilStop_any (B n cap : Nat) (zs : List Int) (d0 d1 d2 d3 d4 d5 d6 d7 : Int) (pr : Int) (st : Bool) (tk : Int) (w : World) (hS : Stk w B zs) (hn : n = zs.length) (ho : Oct d0 d1 d2 d3 d4 d5 d6 d7) :
    Calls Try.prog 34 #[.agg #[.slice (some ⟨B, 0, none⟩) n cap, .int .u8 d0, .int .u8 d1, .int .u8 d2, .int .u8 d3, .int .u8 d4, .int .u8 d5, .int .u8 d6, .int .u8 d7, .int .i64 pr, .bool st, .int .i64 tk]] w (GivesB w (.tuple #[.int .i64 (puR zs [d0, d1, d2, d3, d4, d5, d6, d7] pr st tk).1, .int .i64 (puR zs [d0, d1, d2, d3, d4, d5, d6, d7] pr st tk).2])) := by
  obtain ⟨W, hW⟩ : ∃ W, W = (w.alloc (.cells #[.slice (some ⟨B, 0, none⟩) n cap, .int .u8 d0, .int .u8 d1, .int .u8 d2, .int .u8 d3, .int .u8 d4, .int .u8 d5, .int .u8 d6, .int .u8 d7, .int .i64 pr, .bool st, .int .i64 tk] 31)) := ⟨_, rfl⟩
  have bel : Below w.heap.size w W := by rw [hW]; exact boxD_bel _ _ _
  have r0 : Row W w.heap.size 31 [.slice (some ⟨B, 0, none⟩) n cap, .int .u8 d0, .int .u8 d1, .int .u8 d2, .int .u8 d3, .int .u8 d4, .int .u8 d5, .int .u8 d6, .int .u8 d7, .int .i64 pr, .bool st, .int .i64 tk] := by rw [hW]; exact Row.new _ _ _
  have hK := hS.below bel hS.1
  have HV := hid (l07Ok_any w.heap.size B n cap zs d0 d1 d2 d3 d4 d5 d6 d7 pr st tk W hK hn ho r0)
  have RC := hid (fun (v : World) (hB : Below W.heap.size W v) => (heldDev r0 hB).2)
  have BE := hid bel
  have HW := hid hW
  have c0 := r0.cell 0; have c1 := r0.cell 1; have c2 := r0.cell 2; have c3 := r0.cell 3; have c4 := r0.cell 4; have c5 := r0.cell 5; have c6 := r0.cell 6; have c7 := r0.cell 7; have c8 := r0.cell 8; have c9 := r0.cell 9; have c10 := r0.cell 10; have c11 := r0.cell 11
  simp only [List.getElem?_cons_zero, List.getElem?_cons_succ] at c0 c1 c2 c3 c4 c5 c6 c7 c8 c9 c10 c11
  cases hv : okDev zs [d0, d1, d2, d3, d4, d5, d6, d7] pr st tk with
  | false =>
    rw [puR_no hv]
    rw [hv] at HV
    clear hv hS hn ho bel hW r0 hK
    go_enter Try.func34, Try.ntmps34
    go_wp2_with fail
    rw [← HW.out]
    refine HV.out.mono ?_
    rintro e w1 ⟨rfl, hB1⟩
    go_wp2_with fail
    go_ret2
    exact ⟨rfl, BE.out.trans (hB1.mono BE.out.size)⟩
  | true =>
    obtain ⟨v1, p1, v3, v4⟩ := okDev_out hv
    clear v3 v4
    rw [hv] at HV
    by_cases hk : pr < 0
    · rw [puR_none hv hk]
      have dk : decide (pr < 0) = true := decide_eq_true hk
      have ek : pr = -1 := by omega
      subst ek
      clear hv hS hn ho bel hW r0 hK p1 v1 hk c0 c1 c2 c3 c4 c5 c6 c7 c8 c9 c10 c11
      go_enter Try.func34, Try.ntmps34
      go_wp2_with fail
      rw [← HW.out]
      refine HV.out.mono ?_
      rintro e w1 ⟨rfl, hB1⟩
      obtain ⟨c0, c1, c2, c3, c4, c5, c6, c7, c8, c9, c10, c11⟩ := RC.out _ hB1
      go_wp2_with fail
      go_ret2
      exact ⟨rfl, BE.out.trans (hB1.mono BE.out.size)⟩
    · rw [puR_yes hv hk]
      have dk : decide (pr < 0) = false := decide_eq_false hk
      have ek : (pr == -1) = false := by simp; omega
      have vb := valDev_bd v1 ho
      have HU := hid (fun (v : World) (hB : Below W.heap.size W v) => l07Until_on w.heap.size B n cap zs d0 d1 d2 d3 d4 d5 d6 d7 pr st tk v (hK.below hB hK.1) hn ho v1 (by omega) (r0.below hB r0.lt))
      obtain ⟨u, hu⟩ : ∃ u, untX (pr - valL zs [d0, d1, d2, d3, d4, d5, d6, d7] zs.length) (szL zs) = u := ⟨_, rfl⟩
      rw [hu] at HU ⊢
      clear hv hS hn ho bel hW r0 hK p1 v1 hk vb hu c0 c1 c2 c3 c4 c5 c6 c7 c8 c9 c10 c11
      cases st
      · go_enter Try.func34, Try.ntmps34
        go_wp2_with fail
        rw [← HW.out]
        refine HV.out.mono ?_
        rintro e w1 ⟨rfl, hB1⟩
        have hz1 := hB1.size
        obtain ⟨c0, c1, c2, c3, c4, c5, c6, c7, c8, c9, c10, c11⟩ := RC.out _ hB1
        go_wp2_with fail
        refine (HU.out _ hB1).mono ?_
        rintro e w2 ⟨rfl, hB2⟩
        go_wp2_with fail
        go_ret2
        exact ⟨rfl, BE.out.trans ((hB1.trans (hB2.mono hz1)).mono BE.out.size)⟩
      · go_enter Try.func34, Try.ntmps34
        go_wp2_with fail
        rw [← HW.out]
        refine HV.out.mono ?_
        rintro e w1 ⟨rfl, hB1⟩
        have hz1 := hB1.size
        obtain ⟨c0, c1, c2, c3, c4, c5, c6, c7, c8, c9, c10, c11⟩ := RC.out _ hB1
        go_wp2_with fail
        go_ret2
        exact ⟨rfl, BE.out.trans (hB1.mono BE.out.size)⟩
set_option maxRecDepth 100000 in
set_option maxHeartbeats 4000000 in
theorem implPulsesUntilStop_any (B n cap : Nat) (zs : List Int) (d0 d1 d2 d3 d4 d5 d6 d7 : Int) (pr : Int) (st : Bool) (tk : Int) (w : World) (hS : Stk w B zs) (hn : n = zs.length) (ho : Oct d0 d1 d2 d3 d4 d5 d6 d7) :
    Calls Try.prog 35 #[.agg #[.slice (some ⟨B, 0, none⟩) n cap, .int .u8 d0, .int .u8 d1, .int .u8 d2, .int .u8 d3, .int .u8 d4, .int .u8 d5, .int .u8 d6, .int .u8 d7, .int .i64 pr, .bool st, .int .i64 tk]] w (GivesB w (.tuple #[.int .i64 (puR zs [d0, d1, d2, d3, d4, d5, d6, d7] pr st tk).1, .int .i64 (puR zs [d0, d1, d2, d3, d4, d5, d6, d7] pr st tk).2])) := by
  obtain ⟨W, hW⟩ : ∃ W, W = (w.alloc (.cells #[.slice (some ⟨B, 0, none⟩) n cap, .int .u8 d0, .int .u8 d1, .int .u8 d2, .int .u8 d3, .int .u8 d4, .int .u8 d5, .int .u8 d6, .int .u8 d7, .int .i64 pr, .bool st, .int .i64 tk] 31)) := ⟨_, rfl⟩
  have bel : Below w.heap.size w W := by rw [hW]; exact boxD_bel _ _ _
  have r0 : Row W w.heap.size 31 [.slice (some ⟨B, 0, none⟩) n cap, .int .u8 d0, .int .u8 d1, .int .u8 d2, .int .u8 d3, .int .u8 d4, .int .u8 d5, .int .u8 d6, .int .u8 d7, .int .i64 pr, .bool st, .int .i64 tk] := by rw [hW]; exact Row.new _ _ _
  have hK := hS.below bel hS.1
  have HV := hid (implValidDevice_any B n cap zs d0 d1 d2 d3 d4 d5 d6 d7 pr st tk W hK hn ho)
  have RC := hid (fun (v : World) (hB : Below W.heap.size W v) => (heldDev r0 hB).2)
  have BE := hid bel
  have HW := hid hW
  have c0 := r0.cell 0; have c1 := r0.cell 1; have c2 := r0.cell 2; have c3 := r0.cell 3; have c4 := r0.cell 4; have c5 := r0.cell 5; have c6 := r0.cell 6; have c7 := r0.cell 7; have c8 := r0.cell 8; have c9 := r0.cell 9; have c10 := r0.cell 10; have c11 := r0.cell 11
  simp only [List.getElem?_cons_zero, List.getElem?_cons_succ] at c0 c1 c2 c3 c4 c5 c6 c7 c8 c9 c10 c11
  cases hv : okDev zs [d0, d1, d2, d3, d4, d5, d6, d7] pr st tk with
  | false =>
    rw [puR_no hv]
    rw [hv] at HV
    clear hv hS hn ho bel hW r0 hK
    go_enter Try.func35, Try.ntmps35
    go_wp2_with fail
    rw [← HW.out]
    refine HV.out.mono ?_
    rintro e w1 ⟨rfl, hB1⟩
    go_wp2_with fail
    go_ret2
    exact ⟨rfl, BE.out.trans (hB1.mono BE.out.size)⟩
  | true =>
    obtain ⟨v1, p1, v3, v4⟩ := okDev_out hv
    clear v3 v4
    rw [hv] at HV
    by_cases hk : pr < 0
    · rw [puR_none hv hk]
      have dk : decide (pr < 0) = true := decide_eq_true hk
      have ek : pr = -1 := by omega
      subst ek
      clear hv hS hn ho bel hW r0 hK p1 v1 hk c0 c1 c2 c3 c4 c5 c6 c7 c8 c9 c10 c11
      go_enter Try.func35, Try.ntmps35
      go_wp2_with fail
      rw [← HW.out]
      refine HV.out.mono ?_
      rintro e w1 ⟨rfl, hB1⟩
      obtain ⟨c0, c1, c2, c3, c4, c5, c6, c7, c8, c9, c10, c11⟩ := RC.out _ hB1
      go_wp2_with fail
      go_ret2
      exact ⟨rfl, BE.out.trans (hB1.mono BE.out.size)⟩
    · rw [puR_yes hv hk]
      have dk : decide (pr < 0) = false := decide_eq_false hk
      have ek : (pr == -1) = false := by simp; omega
      have vb := valDev_bd v1 ho
      have HU := hid (fun (v : World) (hB : Below W.heap.size W v) => untilStop_any B n cap zs d0 d1 d2 d3 d4 d5 d6 d7 pr st tk 1 (pr - valL zs [d0, d1, d2, d3, d4, d5, d6, d7] zs.length) v (hK.below hB hK.1) hn ho v1 (by omega) (by rw [Int.mul_one]) (by omega))
      obtain ⟨u, hu⟩ : ∃ u, (if st = true then (0 : Int) else untX (pr - valL zs [d0, d1, d2, d3, d4, d5, d6, d7] zs.length) (szL zs)) = u := ⟨_, rfl⟩
      rw [hu] at HU ⊢
      clear hv hS hn ho bel hW r0 hK p1 v1 hk vb hu c0 c1 c2 c3 c4 c5 c6 c7 c8 c9 c10 c11
      go_enter Try.func35, Try.ntmps35
      go_wp2_with fail
      rw [← HW.out]
      refine HV.out.mono ?_
      rintro e w1 ⟨rfl, hB1⟩
      have hz1 := hB1.size
      obtain ⟨c0, c1, c2, c3, c4, c5, c6, c7, c8, c9, c10, c11⟩ := RC.out _ hB1
      go_wp2_with fail
      refine (HU.out _ hB1).mono ?_
      rintro e w2 ⟨rfl, hB2⟩
      go_wp2_with fail
      go_ret2
      exact ⟨rfl, BE.out.trans ((hB1.trans (hB2.mono hz1)).mono BE.out.size)⟩
end Go.Proofs.Ytangjgfjojfcaaa
