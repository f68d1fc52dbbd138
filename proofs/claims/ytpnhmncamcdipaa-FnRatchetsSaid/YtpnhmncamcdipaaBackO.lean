/- BackAndForth of a list that begins inside its block. -/
import Derived.Test.YtpnhmncamcdipaaBack
namespace Go.Proofs.Ytpnhmncamcdipaa
open Go.RowKit
set_option linter.unusedVariables false
set_option linter.unusedSimpArgs false
def LstO (w : World) (b off : Nat) (zs : List Int) : Prop :=
  b < w.heap.size ∧ (∀ j, j < zs.length → w.cell? ⟨b, off + j, none⟩ = some (.int .i64 (zs[j]?.getD 0))) ∧ (∀ z ∈ zs, -9223372036854775808 ≤ z ∧ z ≤ 9223372036854775807) ∧ zs.length ≤ 1048576
theorem LstO.below {w w' : World} {b off n : Nat} {zs : List Int} (h : LstO w b off zs) (hb : Below n w w') (hn : b < n) : LstO w' b off zs :=
  ⟨Nat.lt_of_lt_of_le h.1 hb.size, fun j hj => (hb.cell (p := ⟨b, off + j, none⟩) hn).trans (h.2.1 j hj), h.2.2.1, h.2.2.2⟩
theorem validMovesO_any (b off n cap : Nat) (ms : List Int) (w : World) (h : LstO w b off ms) (hn : n = ms.length) : Calls Try.prog 19 #[.slice (some ⟨b, off, none⟩) n cap] w fun e w' => e = .returned (.bool (movesOk ms)) ∧ w = w' := by
  have N := hid hn
  have C := hid h.2.1
  have hl := h.2.2.2
  rw [← hn] at hl
  clear h hn
  by_cases h1 : 100 < n
  · rw [show movesOk ms = false from by simp only [movesOk, decide_eq_false (show ¬ ms.length ≤ 100 by have := N.out; omega)]; rfl]
    go_enter Try.func19, Try.ntmps19
    go_wp2_with fail
    go_ret
    exact ⟨rfl, rfl⟩
  · have h2 : n ≤ 100 := by omega
    have HM := hid (show movesOk ms = movesB ms from by simp only [movesOk, decide_eq_true (show ms.length ≤ 100 by have := N.out; omega)]; simp)
    clear h1
    go_enter Try.func19, Try.ntmps19
    go_wp2_with fail
    go_loop [10] (fun i => ∃ k : Nat, k ≤ n ∧ i = .int .i64 k ∧ movesTo ms k) (fun i => n - (intOf i).toNat)
    case atStart => exact ⟨0, Nat.zero_le _, rfl, fun j hj => by omega⟩
    case round =>
      obtain ⟨k, hk, rfl, hS⟩ := hrel
      by_cases hlt : k < n
      · have hx := C.out k (by rw [← N.out]; exact hlt)
        have HS := hid (fun e => movesTo_succ hS e)
        have HB := hid (movesB_at (ms := ms) k (by rw [← N.out]; exact hlt))
        clear hS
        obtain ⟨m, hm⟩ : ∃ m, m = ms[k]?.getD 0 := ⟨_, rfl⟩
        rw [← hm] at hx HS HB
        clear hm
        by_cases m1 : m < -1000000000000000
        · have HB' := hid (HB.out (by omega))
          go_wp2_with fail
          go_ret
          exact ⟨by rw [HM.out, HB'.out]; rfl, rfl⟩
        · by_cases m2 : 1000000000000000 < m
          · have HB' := hid (HB.out (by omega))
            have m3 : -1000000000000000 ≤ m := by omega
            clear m1
            go_wp2_with fail
            go_ret
            exact ⟨by rw [HM.out, HB'.out]; rfl, rfl⟩
          · have m3 : -1000000000000000 ≤ m := by omega
            have m4 : m ≤ 1000000000000000 := by omega
            have HS' := hid (HS.out ⟨m3, m4⟩)
            clear m1 m2
            go_wp2_with fail
            go_round
            case rel => exact ⟨k + 1, by omega, by go_num, HS'.out⟩
            case measure => simp [intOf]; omega
      · obtain rfl : k = n := by omega
        have HB := hid (movesB_all (ms := ms) (by rw [← N.out]; exact hS))
        clear hS
        go_wp2_with fail
        go_ret
        exact ⟨by rw [HM.out, HB.out]; rfl, rfl⟩

set_option maxHeartbeats 2000000 in
theorem implBackO_any (turn t : Int) (b off n cap : Nat) (ms : List Int) (w : World) (h : LstO w b off ms) (hn : n = ms.length) : Calls Try.prog 9 #[.int .i64 turn, .slice (some ⟨b, off, none⟩) n cap, .int .i64 t] w fun e w' => e = .returned (.tuple #[.int .i64 (backR turn ms t).1, .int .i64 (backR turn ms t).2.1, .int .i64 (backR turn ms t).2.2]) ∧ Below w.heap.size w w' := by
  have bel : Below w.heap.size w (w.alloc (.cells #[.int .i64 turn] 2)) := (Below.refl w.heap.size w).alloc (Nat.le_refl _) _
  have rT := hid (Row.new w 2 [.int .i64 turn])
  have hmf : ∀ (fn : Fn) (first cap : Array Value) (w : World), (Instr.makeFunc fn first cap).run Try.prog w = .ok (.func fn first cap) w := fun _ _ _ _ => rfl
  have N := hid hn
  have hbl := h.1
  have S0 := hid (h.below bel h.1)
  have HV := hid (fun w h => validMovesO_any b off n cap ms w h hn)
  have hl := h.2.2.2
  rw [← hn] at hl
  clear h hn
  have HT := hid (fun w => validTeeth_any t w)
  cases ht : teethB t with
  | false =>
    rw [backR_teeth ht]
    rw [ht] at HT
    clear ht
    go_enter Try.func9, Try.ntmps9
    go_wp2_with (go_at_call 11; refine (HT.out _).mono ?_; rintro e w' ⟨rfl, rfl⟩)
    go_ret3
    exact ⟨rfl, bel⟩
  | true =>
    rw [ht] at HT
    cases hm : movesOk ms with
    | false =>
      rw [backR_moves hm]
      rw [hm] at HV
      clear ht hm
      go_enter Try.func9, Try.ntmps9
      go_wp2_with (first | (go_at_call 11; refine (HT.out _).mono ?_; rintro e w' ⟨rfl, rfl⟩) | (go_at_call 19; refine (HV.out _ S0.out).mono ?_; rintro e w' ⟨rfl, rfl⟩))
      go_ret3
      exact ⟨rfl, bel⟩
    | true =>
      rw [hm] at HV
      cases hu : turnB turn with
      | false =>
        rw [backR_turn hu]
        have HS := hid (settle_pan 20 #[.pointer (some ⟨w.heap.size, 0, none⟩)] turn (w.alloc (.cells #[.int .i64 turn] 2)) (fun _ => rfl)
          (fun w1 h1 _ => (back1_no _ turn (turnB_no hu) w1 ((rT.out.below h1 (by simp)).cell 0)).mono fun e w' ⟨he, hd⟩ => ⟨he, by rw [← hd]; exact Below.refl _ _⟩))
        clear ht hm hu
        go_enter Try.func9, Try.ntmps9
        go_wp2_with (first | (go_at_call 11; refine (HT.out _).mono ?_; rintro e w' ⟨rfl, rfl⟩) | (go_at_call 19; refine (HV.out _ S0.out).mono ?_; rintro e w' ⟨rfl, rfl⟩))
        refine HS.out.mono ?_
        rintro e w1 ⟨rfl, hB⟩
        go_wp2_with fail
        go_ret3
        exact ⟨rfl, bel.trans (hB.mono (by simp))⟩
      | true =>
        have HS := hid (settle_ok 20 #[.pointer (some ⟨w.heap.size, 0, none⟩)] turn (w.alloc (.cells #[.int .i64 turn] 2)) (fun _ => rfl)
          (fun w1 h1 _ => (back1_ok _ turn (turnB_yes hu) w1 ((rT.out.below h1 (by simp)).cell 0)).mono fun e w' ⟨he, hd⟩ => ⟨he, by rw [← hd]; exact Below.refl _ _⟩))
        have hb := teethB_out ht
        have gb := gap_bd hb.1 hb.2.1
        have e1 : Int.tdiv 1000 t = gapOf t := Int.tdiv_eq_ediv_of_nonneg (by decide)
        have n1 : t ≠ 0 := by omega
        have HY := hid (fun n e => @backR_some turn ms t n ht hu hm e)
        have HO := hid (fun e => @backR_none turn ms t ht hu hm e)
        have HM := hid (fun k hk => movesB_out (ms := ms) (by simp only [movesOk, Bool.and_eq_true] at hm; exact hm.2) k hk)
        have ub := turnB_yes hu
        have HW := hid hm
        obtain ⟨R, hR⟩ : ∃ R, R = backR turn ms t := ⟨_, rfl⟩
        rw [← hR]
        rw [← hR] at HY HO
        obtain ⟨g, hg⟩ : ∃ g, g = gapOf t := ⟨_, rfl⟩
        rw [← hg] at gb e1 HY HO
        have w1 : IntKind.i64.wrap g = g := IntWalk.i64_in g (by omega)
        have n2 : g ≠ 0 := by omega
        clear hg hR ht hm hu hb
        go_enter Try.func9, Try.ntmps9
        go_wp2_with (first | (go_at_call 11; refine (HT.out _).mono ?_; rintro e w' ⟨rfl, rfl⟩) | (go_at_call 19; refine (HV.out _ S0.out).mono ?_; rintro e w' ⟨rfl, rfl⟩))
        refine HS.out.mono ?_
        rintro e w1 ⟨rfl, hB⟩
        simp only [World.size_alloc] at hB
        have hbel := hid (bel.trans (hB.mono (by omega)))
        have hT := (rT.out.below hB (by omega)).cell 0
        simp only [List.getElem?_cons_zero] at hT
        have S1 := hid (S0.out.below hB (by omega))
        go_wp2_with fail
        go_loop [9, 34] (fun s i => ∃ (k : Nat) (q : Int), k ≤ n ∧ i = .int .i64 k ∧ s = .int .i64 q ∧ goF g turn (ms.take k) = some q ∧ 0 ≤ q ∧ q ≤ 1000000000000000) (fun _ i => n - (intOf i).toNat)
        case atStart => exact ⟨0, turn, Nat.zero_le _, rfl, rfl, rfl, ub.1, ub.2⟩
        case round =>
          obtain ⟨k, q, hk, rfl, rfl, hF, q1, q2⟩ := hrel
          by_cases hlt : k < n
          · have hkm : k < ms.length := by rw [← N.out]; exact hlt
            have hx := S1.out.2.1 k hkm
            have hmb := HM.out k hkm
            have HA := hid (fun hl => goF_step hkm hF hl)
            have HZ := hid (fun hl => goF_stuck hkm hF hl)
            have HL := hid (fun w => lastTooth_any q g ⟨q1, q2⟩ gb.1 w)
            have mb := mod_bd q g q1 gb.1
            clear hF hkm
            obtain ⟨m, hm⟩ : ∃ m, m = ms[k]?.getD 0 := ⟨_, rfl⟩
            rw [← hm] at hx hmb HA HZ
            clear hm
            have G1 := hid (@go1_held g q m)
            have G2 := hid (@go1_free g q m)
            obtain ⟨r, hr⟩ : ∃ r, r = q % g := ⟨_, rfl⟩
            rw [← hr] at HL mb G1 G2
            clear hr
            by_cases hc : q + m < q - r
            · rw [G1.out hc] at HA
              have HA' := hid (HA.out (by omega))
              clear HA HZ G1 G2
              go_wp2_with (go_at_call 14; refine (HL.out _).mono ?_; rintro e w' ⟨rfl, rfl⟩)
              go_round
              case rel => exact ⟨k + 1, q - r, by omega, by go_num, rfl, HA'.out, by omega, by omega⟩
              case measure => simp [intOf]; omega
            · rw [G2.out hc] at HA HZ
              clear G1 G2
              by_cases hd : q + m ≤ 1000000000000000
              · have HA' := hid (HA.out hd)
                clear HA HZ
                go_wp2_with (go_at_call 14; refine (HL.out _).mono ?_; rintro e w' ⟨rfl, rfl⟩)
                go_round
                case rel => exact ⟨k + 1, q + m, by omega, by go_num, rfl, HA'.out, by omega, by omega⟩
                case measure => simp [intOf]; omega
              · have HZ' := hid (HO.out (HZ.out hd))
                have hd' : 1000000000000000 < q + m := by omega
                clear HA HZ hd
                go_wp2_with (go_at_call 14; refine (HL.out _).mono ?_; rintro e w' ⟨rfl, rfl⟩)
                go_ret3
                exact ⟨by rw [HZ'.out]; rfl, hbel.out⟩
          · obtain rfl : k = n := by omega
            have hF' : goF g turn ms = some q := by rw [← hF, List.take_of_length_le (by rw [← N.out]; exact Nat.le_refl _)]
            have HZ := hid (HY.out q hF')
            have e2 : q.tdiv g = q / g := Int.tdiv_eq_ediv_of_nonneg q1
            have e3 : turn.tdiv g = turn / g := Int.tdiv_eq_ediv_of_nonneg ub.1
            have b2 := div_bd q g q1 gb.1
            have b3 := div_bd turn g ub.1 gb.1
            obtain ⟨x, hx⟩ : ∃ x, x = q / g := ⟨_, rfl⟩
            obtain ⟨y, hy⟩ : ∃ y, y = turn / g := ⟨_, rfl⟩
            rw [← hx] at e2 b2 HZ
            rw [← hy] at e3 b3 HZ
            have w3 : IntKind.i64.wrap x = x := IntWalk.i64_in x (by omega)
            have w4 : IntKind.i64.wrap y = y := IntWalk.i64_in y (by omega)
            have w5 : IntKind.i64.wrap (x - y) = x - y := IntWalk.i64_in _ (by omega)
            clear hx hy hF hF'
            go_wp2_with fail
            go_quiet (fail)
            go_wp2_with fail
            go_ret3
            exact ⟨by rw [HZ.out]; rfl, below_drewN hbel.out _⟩

end Go.Proofs.Ytpnhmncamcdipaa
