/- BackAndForth: the program's, the model's, the law. -/
import Derived.Test.YtpnhmncamcdipaaClicks
import Derived.Test.YtpnhmncamcdipaaInts
namespace Go.Proofs.Ytpnhmncamcdipaa
open Go.RowKit

/-- one move, held by the last tooth -/
def go1 (g n m : Int) : Int := if n + m < n - n % g then n - n % g else n + m
theorem go1_held {g n m : Int} (h : n + m < n - n % g) : go1 g n m = n - n % g := if_pos h
theorem go1_free {g n m : Int} (h : ¬ n + m < n - n % g) : go1 g n m = n + m := if_neg h
def goF (g turn : Int) (ms : List Int) : Option Int := ms.foldl (fun o m => o.bind fun n => if go1 g n m ≤ 1000000000000000 then some (go1 g n m) else none) (some turn)
theorem goF_snoc (g turn : Int) (ms : List Int) (m : Int) : goF g turn (ms ++ [m]) = (goF g turn ms).bind fun n => if go1 g n m ≤ 1000000000000000 then some (go1 g n m) else none := by simp [goF]
theorem goF_step {g turn : Int} {ms : List Int} {k : Nat} {n : Int} (hk : k < ms.length) (h : goF g turn (ms.take k) = some n) (hl : go1 g n (ms[k]?.getD 0) ≤ 1000000000000000) : goF g turn (ms.take (k + 1)) = some (go1 g n (ms[k]?.getD 0)) := by
  rw [take_snoc' ms k hk, goF_snoc, h]; simp [hl]
theorem goF_stuck {g turn : Int} {ms : List Int} {k : Nat} {n : Int} (hk : k < ms.length) (h : goF g turn (ms.take k) = some n) (hl : ¬ go1 g n (ms[k]?.getD 0) ≤ 1000000000000000) : goF g turn ms = none := by
  have h1 : goF g turn (ms.take (k + 1)) = none := by rw [take_snoc' ms k hk, goF_snoc, h]; simp [hl]
  have h2 : ∀ (l : List Int), l.foldl (fun (o : Option Int) m => o.bind fun n => if go1 g n m ≤ 1000000000000000 then some (go1 g n m) else none) none = none := by
    intro l
    induction l with
    | nil => rfl
    | cons a l ih => simpa using ih
  rw [← List.take_append_drop (k + 1) ms]
  unfold goF at *
  rw [List.foldl_append, h1, h2]
def movesB (ms : List Int) : Bool := ms.all fun m => decide (-1000000000000000 ≤ m ∧ m ≤ 1000000000000000)
def movesTo (ms : List Int) (k : Nat) : Prop := ∀ j, j < k → -1000000000000000 ≤ ms[j]?.getD 0 ∧ ms[j]?.getD 0 ≤ 1000000000000000
theorem movesTo_succ {ms : List Int} {k : Nat} (h : movesTo ms k) (e : -1000000000000000 ≤ ms[k]?.getD 0 ∧ ms[k]?.getD 0 ≤ 1000000000000000) : movesTo ms (k + 1) := fun j hj => by
  by_cases h' : j = k
  · subst h'; exact e
  · exact h j (by omega)
theorem movesB_all {ms : List Int} (h : movesTo ms ms.length) : movesB ms = true := by
  simp only [movesB, List.all_eq_true, decide_eq_true_eq]
  intro m hm
  obtain ⟨j, hj, rfl⟩ := List.mem_iff_getElem.1 hm
  have := h j hj
  simpa [hj] using this
theorem movesB_at {ms : List Int} (k : Nat) (hk : k < ms.length) (h : ¬ (-1000000000000000 ≤ ms[k]?.getD 0 ∧ ms[k]?.getD 0 ≤ 1000000000000000)) : movesB ms = false := by
  cases hb : movesB ms with
  | false => rfl
  | true =>
    simp only [movesB, List.all_eq_true, decide_eq_true_eq] at hb
    have := hb ms[k] (List.getElem_mem hk)
    simp [hk] at h
    omega
theorem movesB_out {ms : List Int} (h : movesB ms = true) (k : Nat) (hk : k < ms.length) : -1000000000000000 ≤ ms[k]?.getD 0 ∧ ms[k]?.getD 0 ≤ 1000000000000000 := by
  simp only [movesB, List.all_eq_true, decide_eq_true_eq] at h
  have := h ms[k] (List.getElem_mem hk)
  simpa [hk] using this
def movesOk (ms : List Int) : Bool := decide (ms.length ≤ 100) && movesB ms
def backR (turn : Int) (ms : List Int) (t : Int) : Int × Int × Int :=
  if teethB t && turnB turn && movesOk ms then (match goF (gapOf t) turn ms with | some n => (n, n / gapOf t - turn / gapOf t, 0) | none => (0, 0, 3)) else (0, 0, 2)
theorem backR_teeth {turn : Int} {ms : List Int} {t : Int} (h : teethB t = false) : backR turn ms t = (0, 0, 2) := by simp [backR, h]
theorem backR_turn {turn : Int} {ms : List Int} {t : Int} (h : turnB turn = false) : backR turn ms t = (0, 0, 2) := by simp [backR, h]
theorem backR_moves {turn : Int} {ms : List Int} {t : Int} (h : movesOk ms = false) : backR turn ms t = (0, 0, 2) := by simp [backR, h]
theorem backR_some {turn : Int} {ms : List Int} {t n : Int} (h : teethB t = true) (k : turnB turn = true) (l : movesOk ms = true) (e : goF (gapOf t) turn ms = some n) : backR turn ms t = (n, n / gapOf t - turn / gapOf t, 0) := by simp [backR, h, k, l, e]
theorem backR_none {turn : Int} {ms : List Int} {t : Int} (h : teethB t = true) (k : turnB turn = true) (l : movesOk ms = true) (e : goF (gapOf t) turn ms = none) : backR turn ms t = (0, 0, 3) := by simp [backR, h, k, l, e]

theorem validMoves_any (b n cap : Nat) (ms : List Int) (w : World) (h : Lst w b ms) (hn : n = ms.length) : Calls Try.prog 19 #[.slice (some ⟨b, 0, none⟩) n cap] w fun e w' => e = .returned (.bool (movesOk ms)) ∧ w = w' := by
  have N := hid hn
  have C := hid h.2.1
  have hl := h.2.2.2
  rw [← hn] at hl
  clear h hn
  by_cases h1 : 100 < n
  · rw [show movesOk ms = false from by simp only [movesOk, decide_eq_false (show ¬ ms.length ≤ 100 by have := N.out; omega)]; rfl]
    go_enter Try.func19, Try.ntmps19
    go_wp2_with fail
    go_ret
    exact ⟨rfl, rfl⟩
  · have h2 : n ≤ 100 := by omega
    have HM := hid (show movesOk ms = movesB ms from by simp only [movesOk, decide_eq_true (show ms.length ≤ 100 by have := N.out; omega)]; simp)
    clear h1
    go_enter Try.func19, Try.ntmps19
    go_wp2_with fail
    go_loop [10] (fun i => ∃ k : Nat, k ≤ n ∧ i = .int .i64 k ∧ movesTo ms k) (fun i => n - (intOf i).toNat)
    case atStart => exact ⟨0, Nat.zero_le _, rfl, fun j hj => by omega⟩
    case round =>
      obtain ⟨k, hk, rfl, hS⟩ := hrel
      by_cases hlt : k < n
      · have hx := C.out k (by rw [← N.out]; exact hlt)
        have HS := hid (fun e => movesTo_succ hS e)
        have HB := hid (movesB_at (ms := ms) k (by rw [← N.out]; exact hlt))
        clear hS
        obtain ⟨m, hm⟩ : ∃ m, m = ms[k]?.getD 0 := ⟨_, rfl⟩
        rw [← hm] at hx HS HB
        clear hm
        by_cases m1 : m < -1000000000000000
        · have HB' := hid (HB.out (by omega))
          go_wp2_with fail
          go_ret
          exact ⟨by rw [HM.out, HB'.out]; rfl, rfl⟩
        · by_cases m2 : 1000000000000000 < m
          · have HB' := hid (HB.out (by omega))
            have m3 : -1000000000000000 ≤ m := by omega
            clear m1
            go_wp2_with fail
            go_ret
            exact ⟨by rw [HM.out, HB'.out]; rfl, rfl⟩
          · have m3 : -1000000000000000 ≤ m := by omega
            have m4 : m ≤ 1000000000000000 := by omega
            have HS' := hid (HS.out ⟨m3, m4⟩)
            clear m1 m2
            go_wp2_with fail
            go_round
            case rel => exact ⟨k + 1, by omega, by go_num, HS'.out⟩
            case measure => simp [intOf]; omega
      · obtain rfl : k = n := by omega
        have HB := hid (movesB_all (ms := ms) (by rw [← N.out]; exact hS))
        clear hS
        go_wp2_with fail
        go_ret
        exact ⟨by rw [HM.out, HB.out]; rfl, rfl⟩

theorem back1_ok (p : Addr) (turn : Int) (h : 0 ≤ turn ∧ turn ≤ 1000000000000000) (w : World) (hp : w.cell? p = some (.int .i64 turn)) :
    Calls Try.prog 20 #[.pointer (some p)] w fun e w' => e = .returned (.int .i64 turn) ∧ w = w' := by
  have HF := hid (fun w => freeTurn_ok turn h w)
  clear h
  go_enter Try.func20, Try.ntmps20
  go_wp2_with (go_at_call 15; refine (HF.out _).mono ?_; rintro e w' ⟨rfl, rfl⟩)
  go_ret
  exact ⟨rfl, rfl⟩
theorem back1_no (p : Addr) (turn : Int) (h : ¬ (0 ≤ turn ∧ turn ≤ 1000000000000000)) (w : World) (hp : w.cell? p = some (.int .i64 turn)) :
    Calls Try.prog 20 #[.pointer (some p)] w fun e w' => e = .panicked [{ v := .iface 48 (.int .i64 turn), recovered := false }] ∧ w = w' := by
  have HF := hid (fun w => freeTurn_no turn h w)
  clear h
  go_enter Try.func20, Try.ntmps20
  go_wp2_with (go_at_call 15; refine (HF.out _).mono ?_; rintro e w' ⟨rfl, rfl⟩)
  exact ⟨rfl, rfl, rfl⟩

set_option maxHeartbeats 2000000 in
theorem implBack_any (turn t : Int) (b n cap : Nat) (ms : List Int) (w : World) (h : Lst w b ms) (hn : n = ms.length) : Calls Try.prog 9 #[.int .i64 turn, .slice (some ⟨b, 0, none⟩) n cap, .int .i64 t] w fun e w' => e = .returned (.tuple #[.int .i64 (backR turn ms t).1, .int .i64 (backR turn ms t).2.1, .int .i64 (backR turn ms t).2.2]) ∧ Below w.heap.size w w' := by
  have bel : Below w.heap.size w (w.alloc (.cells #[.int .i64 turn] 2)) := (Below.refl w.heap.size w).alloc (Nat.le_refl _) _
  have rT := hid (Row.new w 2 [.int .i64 turn])
  have hmf : ∀ (fn : Fn) (first cap : Array Value) (w : World), (Instr.makeFunc fn first cap).run Try.prog w = .ok (.func fn first cap) w := fun _ _ _ _ => rfl
  have N := hid hn
  have hbl := h.1
  have S0 := hid (h.below bel h.1)
  have HV := hid (fun w h => validMoves_any b n cap ms w h hn)
  have hl := h.2.2.2
  rw [← hn] at hl
  clear h hn
  have HT := hid (fun w => validTeeth_any t w)
  cases ht : teethB t with
  | false =>
    rw [backR_teeth ht]
    rw [ht] at HT
    clear ht
    go_enter Try.func9, Try.ntmps9
    go_wp2_with (go_at_call 11; refine (HT.out _).mono ?_; rintro e w' ⟨rfl, rfl⟩)
    go_ret3
    exact ⟨rfl, bel⟩
  | true =>
    rw [ht] at HT
    cases hm : movesOk ms with
    | false =>
      rw [backR_moves hm]
      rw [hm] at HV
      clear ht hm
      go_enter Try.func9, Try.ntmps9
      go_wp2_with (first | (go_at_call 11; refine (HT.out _).mono ?_; rintro e w' ⟨rfl, rfl⟩) | (go_at_call 19; refine (HV.out _ S0.out).mono ?_; rintro e w' ⟨rfl, rfl⟩))
      go_ret3
      exact ⟨rfl, bel⟩
    | true =>
      rw [hm] at HV
      cases hu : turnB turn with
      | false =>
        rw [backR_turn hu]
        have HS := hid (settle_pan 20 #[.pointer (some ⟨w.heap.size, 0, none⟩)] turn (w.alloc (.cells #[.int .i64 turn] 2)) (fun _ => rfl)
          (fun w1 h1 _ => (back1_no _ turn (turnB_no hu) w1 ((rT.out.below h1 (by simp)).cell 0)).mono fun e w' ⟨he, hd⟩ => ⟨he, by rw [← hd]; exact Below.refl _ _⟩))
        clear ht hm hu
        go_enter Try.func9, Try.ntmps9
        go_wp2_with (first | (go_at_call 11; refine (HT.out _).mono ?_; rintro e w' ⟨rfl, rfl⟩) | (go_at_call 19; refine (HV.out _ S0.out).mono ?_; rintro e w' ⟨rfl, rfl⟩))
        refine HS.out.mono ?_
        rintro e w1 ⟨rfl, hB⟩
        go_wp2_with fail
        go_ret3
        exact ⟨rfl, bel.trans (hB.mono (by simp))⟩
      | true =>
        have HS := hid (settle_ok 20 #[.pointer (some ⟨w.heap.size, 0, none⟩)] turn (w.alloc (.cells #[.int .i64 turn] 2)) (fun _ => rfl)
          (fun w1 h1 _ => (back1_ok _ turn (turnB_yes hu) w1 ((rT.out.below h1 (by simp)).cell 0)).mono fun e w' ⟨he, hd⟩ => ⟨he, by rw [← hd]; exact Below.refl _ _⟩))
        have hb := teethB_out ht
        have gb := gap_bd hb.1 hb.2.1
        have e1 : Int.tdiv 1000 t = gapOf t := Int.tdiv_eq_ediv_of_nonneg (by decide)
        have n1 : t ≠ 0 := by omega
        have HY := hid (fun n e => @backR_some turn ms t n ht hu hm e)
        have HO := hid (fun e => @backR_none turn ms t ht hu hm e)
        have HM := hid (fun k hk => movesB_out (ms := ms) (by simp only [movesOk, Bool.and_eq_true] at hm; exact hm.2) k hk)
        have ub := turnB_yes hu
        have HW := hid hm
        obtain ⟨R, hR⟩ : ∃ R, R = backR turn ms t := ⟨_, rfl⟩
        rw [← hR]
        rw [← hR] at HY HO
        obtain ⟨g, hg⟩ : ∃ g, g = gapOf t := ⟨_, rfl⟩
        rw [← hg] at gb e1 HY HO
        have w1 : IntKind.i64.wrap g = g := IntWalk.i64_in g (by omega)
        have n2 : g ≠ 0 := by omega
        clear hg hR ht hm hu hb
        go_enter Try.func9, Try.ntmps9
        go_wp2_with (first | (go_at_call 11; refine (HT.out _).mono ?_; rintro e w' ⟨rfl, rfl⟩) | (go_at_call 19; refine (HV.out _ S0.out).mono ?_; rintro e w' ⟨rfl, rfl⟩))
        refine HS.out.mono ?_
        rintro e w1 ⟨rfl, hB⟩
        simp only [World.size_alloc] at hB
        have hbel := hid (bel.trans (hB.mono (by omega)))
        have hT := (rT.out.below hB (by omega)).cell 0
        simp only [List.getElem?_cons_zero] at hT
        have S1 := hid (S0.out.below hB (by omega))
        go_wp2_with fail
        go_loop [9, 34] (fun s i => ∃ (k : Nat) (q : Int), k ≤ n ∧ i = .int .i64 k ∧ s = .int .i64 q ∧ goF g turn (ms.take k) = some q ∧ 0 ≤ q ∧ q ≤ 1000000000000000) (fun _ i => n - (intOf i).toNat)
        case atStart => exact ⟨0, turn, Nat.zero_le _, rfl, rfl, rfl, ub.1, ub.2⟩
        case round =>
          obtain ⟨k, q, hk, rfl, rfl, hF, q1, q2⟩ := hrel
          by_cases hlt : k < n
          · have hkm : k < ms.length := by rw [← N.out]; exact hlt
            have hx := S1.out.2.1 k hkm
            have hmb := HM.out k hkm
            have HA := hid (fun hl => goF_step hkm hF hl)
            have HZ := hid (fun hl => goF_stuck hkm hF hl)
            have HL := hid (fun w => lastTooth_any q g ⟨q1, q2⟩ gb.1 w)
            have mb := mod_bd q g q1 gb.1
            clear hF hkm
            obtain ⟨m, hm⟩ : ∃ m, m = ms[k]?.getD 0 := ⟨_, rfl⟩
            rw [← hm] at hx hmb HA HZ
            clear hm
            have G1 := hid (@go1_held g q m)
            have G2 := hid (@go1_free g q m)
            obtain ⟨r, hr⟩ : ∃ r, r = q % g := ⟨_, rfl⟩
            rw [← hr] at HL mb G1 G2
            clear hr
            by_cases hc : q + m < q - r
            · rw [G1.out hc] at HA
              have HA' := hid (HA.out (by omega))
              clear HA HZ G1 G2
              go_wp2_with (go_at_call 14; refine (HL.out _).mono ?_; rintro e w' ⟨rfl, rfl⟩)
              go_round
              case rel => exact ⟨k + 1, q - r, by omega, by go_num, rfl, HA'.out, by omega, by omega⟩
              case measure => simp [intOf]; omega
            · rw [G2.out hc] at HA HZ
              clear G1 G2
              by_cases hd : q + m ≤ 1000000000000000
              · have HA' := hid (HA.out hd)
                clear HA HZ
                go_wp2_with (go_at_call 14; refine (HL.out _).mono ?_; rintro e w' ⟨rfl, rfl⟩)
                go_round
                case rel => exact ⟨k + 1, q + m, by omega, by go_num, rfl, HA'.out, by omega, by omega⟩
                case measure => simp [intOf]; omega
              · have HZ' := hid (HO.out (HZ.out hd))
                have hd' : 1000000000000000 < q + m := by omega
                clear HA HZ hd
                go_wp2_with (go_at_call 14; refine (HL.out _).mono ?_; rintro e w' ⟨rfl, rfl⟩)
                go_ret3
                exact ⟨by rw [HZ'.out]; rfl, hbel.out⟩
          · obtain rfl : k = n := by omega
            have hF' : goF g turn ms = some q := by rw [← hF, List.take_of_length_le (by rw [← N.out]; exact Nat.le_refl _)]
            have HZ := hid (HY.out q hF')
            have e2 : q.tdiv g = q / g := Int.tdiv_eq_ediv_of_nonneg q1
            have e3 : turn.tdiv g = turn / g := Int.tdiv_eq_ediv_of_nonneg ub.1
            have b2 := div_bd q g q1 gb.1
            have b3 := div_bd turn g ub.1 gb.1
            obtain ⟨x, hx⟩ : ∃ x, x = q / g := ⟨_, rfl⟩
            obtain ⟨y, hy⟩ : ∃ y, y = turn / g := ⟨_, rfl⟩
            rw [← hx] at e2 b2 HZ
            rw [← hy] at e3 b3 HZ
            have w3 : IntKind.i64.wrap x = x := IntWalk.i64_in x (by omega)
            have w4 : IntKind.i64.wrap y = y := IntWalk.i64_in y (by omega)
            have w5 : IntKind.i64.wrap (x - y) = x - y := IntWalk.i64_in _ (by omega)
            clear hx hy hF hF'
            go_wp2_with fail
            go_quiet (fail)
            go_wp2_with fail
            go_ret3
            exact ⟨by rw [HZ.out]; rfl, below_drewN hbel.out _⟩

theorem l00Max_if (a b : Int) (w : World) : Calls Try.prog 23 #[.int .i64 a, .int .i64 b] w fun e w' => e = .returned (.int .i64 (if a < b then b else a)) ∧ w = w' := by
  by_cases h : b < a
  · rw [if_neg (by omega)]
    go_enter Try.func23, Try.ntmps23
    go_wp2_with fail
    go_ret
    exact ⟨rfl, rfl⟩
  · have e : (if a < b then b else a) = b := by
      by_cases h2 : a < b
      · exact if_pos h2
      · rw [if_neg h2]; omega
    rw [e]
    have h2 : a ≤ b := by omega
    clear e h
    go_enter Try.func23, Try.ntmps23
    go_wp2_with fail
    go_ret
    exact ⟨rfl, rfl⟩

set_option maxRecDepth 100000 in
set_option maxHeartbeats 2000000 in
theorem specBack_teeth (turn t : Int) (b n cap : Nat) (ms : List Int) (w : World) (h : Lst w b ms) (hn : n = ms.length) (ht : (turnB turn && teethB t) = false) : Calls Try.prog 10 #[.int .i64 turn, .slice (some ⟨b, 0, none⟩) n cap, .int .i64 t] w fun e w' => e = .returned (.tuple #[.int .i64 (backR turn ms t).1, .int .i64 (backR turn ms t).2.1, .int .i64 (backR turn ms t).2.2]) ∧ ∃ d, w' = w.drewN d := by
  have HT := hid (fun w => l02Teeth_any turn t w)
  have hr : backR turn ms t = (0, 0, 2) := by
    rcases Bool.and_eq_false_iff.1 ht with h | h
    · exact backR_turn h
    · exact backR_teeth h
  have hl := h.2.2.2
  rw [← hn] at hl
  rw [hr]
  rw [ht] at HT
  clear ht hr h hn
  by_cases h0 : 0 < n
  · go_enter Try.func10, Try.ntmps10
    go_wp2_with (go_at_call 21; refine (HT.out _).mono ?_; rintro e w' ⟨rfl, rfl⟩)
    refine wp_loop_rounds 1 ?_
    rw [rounds_succ]
    go_wp2_with fail
    go_ret3
    exact ⟨rfl, 0, rfl⟩
  · obtain rfl : n = 0 := by omega
    go_enter Try.func10, Try.ntmps10
    go_wp2_with (go_at_call 21; refine (HT.out _).mono ?_; rintro e w' ⟨rfl, rfl⟩)
    refine wp_loop_rounds 1 ?_
    rw [rounds_succ]
    go_wp2_with fail
    go_ret3
    exact ⟨rfl, 0, rfl⟩
set_option maxRecDepth 100000 in
set_option maxHeartbeats 2000000 in
theorem specBack_many (turn t : Int) (b n cap : Nat) (ms : List Int) (w : World) (h : Lst w b ms) (hn : n = ms.length) (ht : (turnB turn && teethB t) = true) (hm : 100 < n) : Calls Try.prog 10 #[.int .i64 turn, .slice (some ⟨b, 0, none⟩) n cap, .int .i64 t] w fun e w' => e = .returned (.tuple #[.int .i64 (backR turn ms t).1, .int .i64 (backR turn ms t).2.1, .int .i64 (backR turn ms t).2.2]) ∧ ∃ d, w' = w.drewN d := by
  have HT := hid (fun w => l02Teeth_any turn t w)
  have hr : backR turn ms t = (0, 0, 2) := backR_moves (by simp only [movesOk, decide_eq_false (show ¬ ms.length ≤ 100 by omega)]; rfl)
  have hl := h.2.2.2
  rw [← hn] at hl
  rw [hr]
  rw [ht] at HT
  clear ht hr h hn
  have h0 : 0 < n := by omega
  have hd : decide ((n : Int) ≤ 100) = false := by simp; omega
  go_enter Try.func10, Try.ntmps10
  go_wp2_with (go_at_call 21; refine (HT.out _).mono ?_; rintro e w' ⟨rfl, rfl⟩)
  refine wp_loop_rounds 1 ?_
  rw [rounds_succ]
  go_wp2_with fail
  go_ret3
  exact ⟨rfl, 0, rfl⟩
set_option maxRecDepth 100000 in
set_option maxHeartbeats 4000000 in
theorem specBack_few (turn t : Int) (b n cap : Nat) (ms : List Int) (w : World) (h : Lst w b ms) (hn : n = ms.length) (ht : (turnB turn && teethB t) = true) (hm : n ≤ 100) : Calls Try.prog 10 #[.int .i64 turn, .slice (some ⟨b, 0, none⟩) n cap, .int .i64 t] w fun e w' => e = .returned (.tuple #[.int .i64 (backR turn ms t).1, .int .i64 (backR turn ms t).2.1, .int .i64 (backR turn ms t).2.2]) ∧ ∃ d, w' = w.drewN d := by
  have HT := hid (fun w => l02Teeth_any turn t w)
  rw [ht] at HT
  have N := hid hn
  have C := hid h.2.1
  obtain ⟨hu, h2⟩ := Bool.and_eq_true_iff.1 ht
  have ub := turnB_yes hu
  have hb := teethB_out h2
  have gb := gap_bd hb.1 hb.2.1
  have e1 : Int.tdiv 1000 t = gapOf t := Int.tdiv_eq_ediv_of_nonneg (by decide)
  have n1 : t ≠ 0 := by omega
  have HX := hid (fun (hm : movesB ms = false) => @backR_moves turn ms t (by simp only [movesOk, hm, Bool.and_false]))
  have hok : movesB ms = true → movesOk ms = true := fun h => by simp only [movesOk, h, decide_eq_true (show ms.length ≤ 100 by omega)]; rfl
  have HY := hid (fun n (hm : movesB ms = true) e => @backR_some turn ms t n h2 hu (hok hm) e)
  have HO := hid (fun (hm : movesB ms = true) e => @backR_none turn ms t h2 hu (hok hm) e)
  obtain ⟨R, hR⟩ : ∃ R, R = backR turn ms t := ⟨_, rfl⟩
  rw [← hR]
  rw [← hR] at HY HO HX
  obtain ⟨g, hg⟩ : ∃ g, g = gapOf t := ⟨_, rfl⟩
  rw [← hg] at gb e1 HY HO
  have w1 : IntKind.i64.wrap g = g := IntWalk.i64_in g (by omega)
  have n2 : g ≠ 0 := by omega
  have e3 : turn.tdiv g = turn / g := Int.tdiv_eq_ediv_of_nonneg ub.1
  have b3 := div_bd turn g ub.1 gb.1
  obtain ⟨y, hy⟩ : ∃ y, y = turn / g := ⟨_, rfl⟩
  rw [← hy] at e3 b3 HY
  have HYY := hid hy
  have hdn : decide ((n : Int) ≤ 100) = true := by simp; omega
  clear hg hR hu h2 hb hok h hn hy ht
  go_enter Try.func10, Try.ntmps10
  go_wp2_with (go_at_call 21; refine (HT.out _).mono ?_; rintro e w' ⟨rfl, rfl⟩)
  go_loop [9, 10] (fun o i => ∃ (k : Nat) (c : Bool), k ≤ n ∧ o = .bool c ∧ i = .int .i64 k ∧ (c = true → movesTo ms k) ∧ (c = false → R = (0, 0, 2))) (fun _ i => n - (intOf i).toNat)
  case atStart => exact ⟨0, true, Nat.zero_le _, rfl, rfl, fun _ j hj => by omega, fun h => by cases h⟩
  case round =>
    obtain ⟨k, c, hk, rfl, rfl, hT, hF⟩ := hrel
    cases c with
    | false =>
      have HF := hid (hF rfl)
      clear hT hF
      by_cases hlt : k < n
      · go_wp2_with fail
        go_ret3
        exact ⟨by rw [HF.out]; rfl, 0, rfl⟩
      · go_wp2_with fail
        go_ret3
        exact ⟨by rw [HF.out]; rfl, 0, rfl⟩
    | true =>
      have hS := hT rfl
      clear hT hF
      by_cases hlt : k < n
      · have hkm : k < ms.length := by rw [← N.out]; exact hlt
        have hx := C.out k hkm
        have HS := hid (fun e => movesTo_succ hS e)
        have HB := hid (fun h => HX.out (movesB_at (ms := ms) k hkm h))
        clear hS hkm
        obtain ⟨m, hm⟩ : ∃ m, m = ms[k]?.getD 0 := ⟨_, rfl⟩
        rw [← hm] at hx HS HB
        clear hm
        by_cases hmb : -1000000000000000 ≤ m ∧ m ≤ 1000000000000000
        · have HI := hid (fun w => inr_yes m (-1000000000000000) 1000000000000000 w hmb)
          have HS' := hid (HS.out hmb)
          clear hmb HS HB
          go_wp2_with (go_at_call 22; refine (HI.out _).mono ?_; rintro e w' ⟨rfl, rfl⟩)
          go_round
          case rel => exact ⟨k + 1, true, by omega, rfl, by go_num, fun _ => HS'.out, fun h => by cases h⟩
          case measure => simp [intOf]; omega
        · have HI := hid (fun w => inr_no m (-1000000000000000) 1000000000000000 w (by omega))
          have HB' := hid (HB.out hmb)
          clear hmb HS HB
          go_wp2_with (go_at_call 22; refine (HI.out _).mono ?_; rintro e w' ⟨rfl, rfl⟩)
          go_round
          case rel => exact ⟨k + 1, false, by omega, rfl, by go_num, fun h => (by cases h), fun _ => HB'.out⟩
          case measure => simp [intOf]; omega
      · obtain rfl : k = n := by omega
        have hmt := movesB_all (ms := ms) (by rw [← N.out]; exact hS)
        have HM := hid (fun k hk => movesB_out hmt k hk)
        have HY' := hid (fun n e => HY.out n hmt e)
        have HO' := hid (fun e => HO.out hmt e)
        clear hS hmt HY HO HX
        go_wp2_with fail
        go_loopw [0, 12, 13] (fun a p i wr => ∃ (j : Nat) (q : Int), j ≤ k ∧ i = .int .i64 j ∧ a = .int .i64 q ∧ p = .int .i64 (q / g - y) ∧ goF g turn (ms.take j) = some q ∧ 0 ≤ q ∧ q ≤ 1000000000000000 ∧ ∃ d, wr = w.drewN d) (fun _ _ i _ => k - (intOf i).toNat)
        case atStart => exact ⟨0, turn, Nat.zero_le _, rfl, rfl, by rw [← HYY.out, Int.sub_self], rfl, ub.1, ub.2, 0, rfl⟩
        case round =>
          obtain ⟨j, q, hj, rfl, rfl, rfl, hF, q1, q2, d, rfl⟩ := hrel
          have e2 : q.tdiv g = q / g := Int.tdiv_eq_ediv_of_nonneg q1
          have b2 := div_bd q g q1 gb.1
          have em := div_mul_self q g
          have mb := mod_bd q g q1 gb.1
          obtain ⟨x, hx⟩ : ∃ x, x = q / g := ⟨_, rfl⟩
          rw [← hx] at e2 b2 em ⊢
          have HXX := hid hx
          clear hx
          have w3 : IntKind.i64.wrap x = x := IntWalk.i64_in x (by omega)
          by_cases hlt' : j < k
          · have hkm : j < ms.length := by rw [← N.out]; exact hlt'
            have hcl := C.out j hkm
            have hmb := HM.out j hkm
            have HA := hid (fun hl => goF_step hkm hF hl)
            have HZ := hid (fun hl => goF_stuck hkm hF hl)
            clear hF hkm
            obtain ⟨m, hm⟩ : ∃ m, m = ms[j]?.getD 0 := ⟨_, rfl⟩
            rw [← hm] at hcl hmb HA HZ
            clear hm
            have G1 := hid (@go1_held g q m)
            have G2 := hid (@go1_free g q m)
            obtain ⟨r, hr⟩ : ∃ r, r = q % g := ⟨_, rfl⟩
            rw [← hr] at em mb G1 G2
            clear hr
            have w4 : IntKind.i64.wrap (x * g) = q - r := by rw [em]; exact IntWalk.i64_in _ (by omega)
            have em0 := Int.mul_nonneg b2.1 (show 0 ≤ g by omega)
            have HE := hid em
            clear em
            have HMx := hid (fun w => l00Max_if (q + m) (q - r) w)
            by_cases hc : q + m < q - r
            · rw [G1.out hc] at HA
              rw [if_pos hc] at HMx
              have HA' := hid (HA.out (by omega))
              have hm0 : m < 0 := by omega
              clear HA HZ G1 G2
              have e4 : (q - r).tdiv g = (q - r) / g := Int.tdiv_eq_ediv_of_nonneg (by omega)
              have b4 := div_bd (q - r) g (by omega) gb.1
              obtain ⟨z, hz⟩ : ∃ z, z = (q - r) / g := ⟨_, rfl⟩
              rw [← hz] at e4 b4
              have HZ0 := hid hz
              clear hz
              have w5 : IntKind.i64.wrap z = z := IntWalk.i64_in z (by omega)
              have w6 : IntKind.i64.wrap (z - x) = z - x := IntWalk.i64_in _ (by omega)
              have w7 : IntKind.i64.wrap (x - y + (z - x)) = x - y + (z - x) := IntWalk.i64_in _ (by omega)
              go_wp2_with (go_at_call 23; (try rw [HE.out]); refine (HMx.out _).mono ?_; rintro e w' ⟨rfl, rfl⟩)
              go_quiet (fail)
              go_wp2_with fail
              go_roundw
              case rel => exact ⟨j + 1, q - r, by omega, by go_num, rfl, by rw [← HZ0.out]; go_num, HA'.out, by omega, by omega, _, rfl⟩
              case measure => simp [intOf]; omega
            · rw [G2.out hc] at HA HZ
              rw [if_neg hc] at HMx
              clear G1 G2
              by_cases hd : q + m ≤ 1000000000000000
              · have HA' := hid (HA.out hd)
                clear HA HZ
                by_cases hm0 : m < 0
                · have hq := hm0
                  have e4 : (q + m).tdiv g = (q + m) / g := Int.tdiv_eq_ediv_of_nonneg (by omega)
                  have b4 := div_bd (q + m) g (by omega) gb.1
                  obtain ⟨z, hz⟩ : ∃ z, z = (q + m) / g := ⟨_, rfl⟩
                  rw [← hz] at e4 b4
                  have HZ0 := hid hz
                  clear hz
                  have w5 : IntKind.i64.wrap z = z := IntWalk.i64_in z (by omega)
                  have w6 : IntKind.i64.wrap (z - x) = z - x := IntWalk.i64_in _ (by omega)
                  have w7 : IntKind.i64.wrap (x - y + (z - x)) = x - y + (z - x) := IntWalk.i64_in _ (by omega)
                  go_wp2_with (go_at_call 23; (try rw [HE.out]); refine (HMx.out _).mono ?_; rintro e w' ⟨rfl, rfl⟩)
                  go_quiet (fail)
                  go_wp2_with fail
                  go_roundw
                  case rel => exact ⟨j + 1, q + m, by omega, by go_num, rfl, by rw [← HZ0.out]; go_num, HA'.out, by omega, by omega, _, rfl⟩
                  case measure => simp [intOf]; omega
                · have hq : 0 ≤ m := by omega
                  have e4 : (q + m).tdiv g = (q + m) / g := Int.tdiv_eq_ediv_of_nonneg (by omega)
                  have b4 := div_bd (q + m) g (by omega) gb.1
                  obtain ⟨z, hz⟩ : ∃ z, z = (q + m) / g := ⟨_, rfl⟩
                  rw [← hz] at e4 b4
                  have HZ0 := hid hz
                  clear hz
                  have w5 : IntKind.i64.wrap z = z := IntWalk.i64_in z (by omega)
                  have w6 : IntKind.i64.wrap (z - x) = z - x := IntWalk.i64_in _ (by omega)
                  have w7 : IntKind.i64.wrap (x - y + (z - x)) = x - y + (z - x) := IntWalk.i64_in _ (by omega)
                  go_wp2_with fail
                  go_quiet (fail)
                  go_wp2_with fail
                  go_roundw
                  case rel => exact ⟨j + 1, q + m, by omega, by go_num, rfl, by rw [← HZ0.out]; go_num, HA'.out, by omega, by omega, _, rfl⟩
                  case measure => simp [intOf]; omega
              · have HZ' := hid (HO'.out (HZ.out hd))
                have hd' : 1000000000000000 < q + m := by omega
                have hm0 : 0 ≤ m := by omega
                clear HA HZ hd
                go_wp2_with fail
                go_ret3
                exact ⟨by rw [HZ'.out]; rfl, _, rfl⟩
          · obtain rfl : j = k := by omega
            have hF' : goF g turn ms = some q := by rw [← hF, List.take_of_length_le (by rw [← N.out]; exact Nat.le_refl _)]
            have HZ := hid (HY'.out q hF')
            rw [← HXX.out] at HZ
            clear hF hF'
            go_wp2_with fail
            go_ret3
            exact ⟨by rw [HZ.out]; rfl, d, rfl⟩
theorem specBack_any (turn t : Int) (b n cap : Nat) (ms : List Int) (w : World) (h : Lst w b ms) (hn : n = ms.length) : Calls Try.prog 10 #[.int .i64 turn, .slice (some ⟨b, 0, none⟩) n cap, .int .i64 t] w fun e w' => e = .returned (.tuple #[.int .i64 (backR turn ms t).1, .int .i64 (backR turn ms t).2.1, .int .i64 (backR turn ms t).2.2]) ∧ ∃ d, w' = w.drewN d := by
  cases ht : turnB turn && teethB t with
  | false => exact specBack_teeth turn t b n cap ms w h hn ht
  | true =>
    by_cases hm : 100 < n
    · exact specBack_many turn t b n cap ms w h hn ht hm
    · exact specBack_few turn t b n cap ms w h hn ht (by omega)

end Go.Proofs.Ytpnhmncamcdipaa
