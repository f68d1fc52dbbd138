/- TurnBy: the program's and the model's. -/
import Derived.Test.YtjpiobcilpjfeaaSpan
import Derived.Test.YtjpiobcilpjfeaaSettleTwo
import Derived.Test.YtjpiobcilpjfeaaNextC
import Derived.OrdersHeld
namespace Go.Proofs.Ytjpiobcilpjfeaa
open Go.RowKit

theorem l02Down_any (a c : Int) (ha : -1000000000000000000 ≤ a ∧ a ≤ 1000000000000000000) (hc : 1 ≤ c ∧ c ≤ 10000000000000000) (w : World) :
    Calls Try.prog 60 #[.int .i64 a, .int .i64 c] w fun e w' => e = .returned (.int .i64 (a / c)) ∧ w = w' := by
  have hc0 : c ≠ 0 := by omega
  by_cases h0 : 0 ≤ a
  · have e1 : a.tmod c = a % c := Int.tmod_eq_emod_of_nonneg h0
    have e2 : a.tdiv c = a / c := Int.tdiv_eq_ediv_of_nonneg h0
    have m0 := Int.emod_nonneg a hc0
    have m1 := Int.emod_lt_of_pos a (show 0 < c by omega)
    have q0 := Int.ediv_nonneg h0 (show 0 ≤ c by omega)
    have q1 := Int.ediv_le_self c h0
    obtain ⟨r, hr⟩ : ∃ r, r = a % c := ⟨_, rfl⟩
    obtain ⟨q, hq⟩ : ∃ q, q = a / c := ⟨_, rfl⟩
    rw [← hr] at e1 m0 m1
    rw [← hq] at e2 q0 q1
    rw [← hq]
    have d1 : decide (r < 0) = false := by simp; omega
    replace e1 := e1
    clear hr hq h0
    go_enter Try.func60, Try.ntmps60
    go_wp2_with fail
    go_ret
    exact ⟨rfl, rfl⟩
  · obtain ⟨m, rfl⟩ : ∃ m, a = -m := ⟨-a, by omega⟩
    have hm : 0 ≤ m := by omega
    have e1 : (-m).tmod c = -(m % c) := by rw [Int.neg_tmod, Int.tmod_eq_emod_of_nonneg hm]
    have e2 : (-m).tdiv c = -(m / c) := by rw [Int.neg_tdiv, Int.tdiv_eq_ediv_of_nonneg hm]
    have e3 := ediv_neg_of m c hc.1
    have m0 := Int.emod_nonneg m hc0
    have m1 := Int.emod_lt_of_pos m (show 0 < c by omega)
    have q0 := Int.ediv_nonneg hm (show 0 ≤ c by omega)
    have q1 := Int.ediv_le_self c hm
    obtain ⟨r, hr⟩ : ∃ r, r = m % c := ⟨_, rfl⟩
    obtain ⟨q, hq⟩ : ∃ q, q = m / c := ⟨_, rfl⟩
    rw [← hr] at e1 e3 m0 m1
    rw [← hq] at e2 e3 q0 q1
    obtain ⟨a, hA⟩ : ∃ a, a = -m := ⟨_, rfl⟩
    rw [← hA] at e1 e2 e3 ha
    rw [← hA, e3]
    by_cases hz : r = 0
    · subst hz
      simp only [if_true]
      simp only [Int.neg_zero] at e1
      have d1 : decide ((0 : Int) < 0) = false := rfl
      have q2 : -1000000000000000000 ≤ -q ∧ -q ≤ 0 := by omega
      clear e3 hr hq hA h0 q0 q1
      generalize -q = q' at e2 q2 ⊢
      go_enter Try.func60, Try.ntmps60
      go_wp2_with fail
      go_ret
      exact ⟨rfl, rfl⟩
    · rw [if_neg hz]
      have d0 : -10000000000000000 ≤ -r ∧ -r < 0 := by omega
      have q2 : -1000000000000000000 ≤ -q ∧ -q ≤ 0 := by omega
      clear e3 hr hq hA h0 hz q0 q1 m0 m1
      generalize -q = q' at e2 q2 ⊢
      generalize -r = r' at e1 d0
      have d1 : decide (r' < 0) = true := by simp; omega
      go_enter Try.func60, Try.ntmps60
      go_wp2_with fail
      go_ret
      exact ⟨rfl, rfl⟩


def byOk (y : Int) : Bool := decide (-1000000000000000 ≤ y ∧ y ≤ 1000000000000000)
theorem byOk_yes {y : Int} (h : byOk y = true) : -1000000000000000 ≤ y ∧ y ≤ 1000000000000000 := by simpa [byOk] using h
theorem byOk_no {y : Int} (h : byOk y = false) : ¬ (-1000000000000000 ≤ y ∧ y ≤ 1000000000000000) := by simpa [byOk] using h
def turnByR (zs : List Int) (js : List (Int × Int)) (turn y : Int) : Int × Int × Int :=
  if okM zs js then (if byOk y && turnOk zs turn then ((turn + y) % spanL zs, (turn + y) / spanL zs, 0) else (0, 0, 2)) else (0, 0, 1)

set_option maxHeartbeats 1000000 in
theorem turnBy1_ok (B p q : Nat) (b n cap g m cap' : Nat) (zs : List Int) (js : List (Int × Int)) (turn by_ : Int) (w : World) (hM : MoAt w B b n cap g m cap' zs js) (hp : p < w.heap.size) (hq : q < w.heap.size) (cp : w.cell? ⟨p, 0, none⟩ = some (.int .i64 turn)) (cq : w.cell? ⟨q, 0, none⟩ = some (.int .i64 by_)) (hn : n = zs.length) (hv : okL zs = true) (ht : turnOk zs turn = true) (hy : byOk by_ = true) :
    Calls Try.prog 62 #[.pointer (some ⟨B, 0, none⟩), .pointer (some ⟨p, 0, none⟩), .pointer (some ⟨q, 0, none⟩)] w fun e w' => e = .returned (.agg #[.int .i64 ((turn + by_) % spanL zs), .int .i64 ((turn + by_) / spanL zs)]) ∧ Below w.heap.size w w' := by
  have bel : Below w.heap.size w (w.alloc (.cells #[.int .i64 0, .int .i64 0] 85)) := (Below.refl _ w).alloc (Nat.le_refl _) _
  have M0 := hid (hM.keep bel)
  have rR := hid (Row.new w 85 [.int .i64 0, .int .i64 0])
  have hBl := hM.1.lt
  obtain ⟨c0, c1⟩ := (hM.keep bel).cells
  have cp0 := (bel.cell (p := ⟨p, 0, none⟩) hp).trans cp
  have cq0 := (bel.cell (p := ⟨q, 0, none⟩) hq).trans cq
  have sb := spanL_bd hv
  have tb := turnOk_out ht
  have yb := byOk_yes hy
  have HT := hid (fun w1 (h : Stk w1 b zs) => moTurn_ok b n cap g m cap' zs js turn w1 h hn hv ht)
  have HS := hid (fun w1 (h : Stk w1 b zs) => moSpan_any b n cap g m cap' zs js w1 h hn hv)
  obtain ⟨Z, hZ⟩ : ∃ Z, Z = spanL zs := ⟨_, rfl⟩
  rw [← hZ] at HS sb tb
  rw [← hZ]
  have FD := hid (fun w => floorDiv_any (turn + by_) Z (by omega) (by omega) w)
  have FM := hid (fun w => floorMod_any (turn + by_) Z (by omega) (by omega) w)
  obtain ⟨x, hx⟩ : ∃ x, x = (turn + by_) % Z := ⟨_, rfl⟩
  obtain ⟨y, hy'⟩ : ∃ y, y = (turn + by_) / Z := ⟨_, rfl⟩
  rw [← hx] at FM
  rw [← hy'] at FD
  rw [← hx, ← hy']
  have wy : IntKind.i64.wrap (turn + by_) = turn + by_ := IntWalk.i64_in _ (by omega)
  clear hM cp cq hn hv ht hy hZ hx hy'
  go_enter Try.func62, Try.ntmps62
  go_wp2_with fail
  go_region_held3 (fun w' => w'.cell? ⟨B, 0, none⟩ = some (.slice (some ⟨b, 0, none⟩) n cap) ∧ w'.cell? ⟨B, 1, none⟩ = some (.slice (some ⟨g, 0, none⟩) m cap') ∧ w'.cell? ⟨p, 0, none⟩ = some (.int .i64 turn) ∧ w'.cell? ⟨q, 0, none⟩ = some (.int .i64 by_)) (first | exact hq2 | exact hq1 | exact ⟨c0, c1, cp0, cq0⟩) ((first | (go_at_call 52; have hX := HS.out w1 M1.out.2.1; refine hX.mono ?_; clear hX; rintro e w2 ⟨rfl, hB2⟩; have hz2 := hB2.size; have hq2 := And.intro ((hB2.cell (p := ⟨B, 0, none⟩) (by show B < _; omega)).trans hq1.1) (And.intro ((hB2.cell (p := ⟨B, 1, none⟩) (by show B < _; omega)).trans hq1.2.1) (And.intro ((hB2.cell (p := ⟨p, 0, none⟩) (by show p < _; omega)).trans hq1.2.2.1) ((hB2.cell (p := ⟨q, 0, none⟩) (by show q < _; omega)).trans hq1.2.2.2)))) | (go_at_call 58; have hX := HT.out (w.alloc (.cells #[.int .i64 0, .int .i64 0] 85)).drew M0.out.2.1; refine hX.mono ?_; clear hX; rintro e w1 ⟨rfl, hB1⟩; have hz1 := hB1.size; simp only [World.size_drew, World.size_alloc] at hB1 hz1; have M1 := hid (MoAt.keep (w := (w.alloc (.cells #[.int .i64 0, .int .i64 0] 85)).drew) M0.out (by simpa only [World.size_drew, World.size_alloc] using hB1)); have hq1 := And.intro ((hB1.cell (p := ⟨B, 0, none⟩) (by show B < _; omega)).trans c0) (And.intro ((hB1.cell (p := ⟨B, 1, none⟩) (by show B < _; omega)).trans c1) (And.intro ((hB1.cell (p := ⟨p, 0, none⟩) (by show p < _; omega)).trans cp0) ((hB1.cell (p := ⟨q, 0, none⟩) (by show q < _; omega)).trans cq0))))))
  have b2 : Below (w.heap.size + 1) (w.alloc (.cells #[.int .i64 0, .int .i64 0] 85)) w2 := (Below.refl _ _).drew.trans (hB1.trans (hB2.mono (by omega)))
  have r1 := rR.out.below b2 (by omega)
  have g0 := r1.cell 0; have k0 := r1.frozen 0; have g1 := r1.cell 1; have k1 := r1.frozen 1
  simp only [List.getElem?_cons_zero, List.getElem?_cons_succ] at g0 g1
  obtain ⟨W, hW⟩ : ∃ W, W = (w2.setCell ⟨w.heap.size, 0, none⟩ (.int .i64 x)).setCell ⟨w.heap.size, 1, none⟩ (.int .i64 y) := ⟨_, rfl⟩
  have fin : Row W w.heap.size 85 [.int .i64 x, .int .i64 y] ∧ Below w.heap.size w W := by
    rw [hW]
    exact ⟨(r1.set 0 _).set 1 _, ((bel.trans (b2.mono (by omega))).setCell (p := ⟨w.heap.size, 0, none⟩) (Nat.le_refl _) _).setCell (p := ⟨w.heap.size, 1, none⟩) (Nat.le_refl _) _⟩
  have FIN := hid fin
  clear fin r1
  go_wp2_with fail
  refine (FM.out _).mono ?_
  rintro e w' ⟨rfl, rfl⟩
  go_wp2_with fail
  refine (FD.out _).mono ?_
  rintro e w' ⟨rfl, rfl⟩
  go_wp2_with fail
  rw [← hW]
  clear hW g0 k0 g1 k1
  obtain ⟨fR, fb⟩ := FIN.out
  have g0 := fR.cell 0; have g1 := fR.cell 1
  simp only [List.getElem?_cons_zero, List.getElem?_cons_succ] at g0 g1
  exact bodyPost_ret (v := .agg #[.int .i64 x, .int .i64 y]) (by simp [results, Try.results62, go_sem, g0, g1]) rfl ⟨rfl, fb⟩
set_option maxHeartbeats 1000000 in
theorem turnBy1_no (B p q : Nat) (b n cap g m cap' : Nat) (zs : List Int) (js : List (Int × Int)) (turn by_ : Int) (w : World) (hM : MoAt w B b n cap g m cap' zs js) (hp : p < w.heap.size) (hq : q < w.heap.size) (cp : w.cell? ⟨p, 0, none⟩ = some (.int .i64 turn)) (cq : w.cell? ⟨q, 0, none⟩ = some (.int .i64 by_)) (hn : n = zs.length) (hv : okL zs = true) (ht : turnOk zs turn = false) :
    Calls Try.prog 62 #[.pointer (some ⟨B, 0, none⟩), .pointer (some ⟨p, 0, none⟩), .pointer (some ⟨q, 0, none⟩)] w fun e w' => e = .panicked [{ v := .iface 124 (.int .i64 turn), recovered := false }] ∧ Below w.heap.size w w' := by
  have bel : Below w.heap.size w (w.alloc (.cells #[.int .i64 0, .int .i64 0] 85)) := (Below.refl _ w).alloc (Nat.le_refl _) _
  have M0 := hid (hM.keep bel)
  obtain ⟨c0, c1⟩ := (hM.keep bel).cells
  have cp0 := (bel.cell (p := ⟨p, 0, none⟩) hp).trans cp
  have cq0 := (bel.cell (p := ⟨q, 0, none⟩) hq).trans cq
  have HT := hid (fun w1 (h : Stk w1 b zs) => moTurn_no b n cap g m cap' zs js turn w1 h hn hv ht)
  clear hM cp cq hn hv ht
  go_enter Try.func62, Try.ntmps62
  go_wp2_with fail
  refine wp_region_held (S := fun W' => W'.cell? ⟨B, 0, none⟩ = some (.slice (some ⟨b, 0, none⟩) n cap) ∧ W'.cell? ⟨B, 1, none⟩ = some (.slice (some ⟨g, 0, none⟩) m cap') ∧ W'.cell? ⟨p, 0, none⟩ = some (.int .i64 turn) ∧ W'.cell? ⟨q, 0, none⟩ = some (.int .i64 by_)) (by kernel_rfl) ?_
  change wpAnyH _ _ _ _ _ _ _ _ (World.drew _)
  have hS : (fun W' : World => W'.cell? ⟨B, 0, none⟩ = some (.slice (some ⟨b, 0, none⟩) n cap) ∧ W'.cell? ⟨B, 1, none⟩ = some (.slice (some ⟨g, 0, none⟩) m cap') ∧ W'.cell? ⟨p, 0, none⟩ = some (.int .i64 turn) ∧ W'.cell? ⟨q, 0, none⟩ = some (.int .i64 by_)) (w.alloc (.cells #[.int .i64 0, .int .i64 0] 85)).drew := ⟨c0, c1, cp0, cq0⟩
  refine wpAnyH_take (i := 0) (v := .agg #[.slice (some ⟨b, 0, none⟩) n cap, .slice (some ⟨g, 0, none⟩) m cap']) rfl (by kernel_rfl) (by kernel_rfl) (by kernel_rfl) (fun _ _ _ h => h) (.inl ⟨by rfl, ?_⟩) hS ?_
  · intro w' hw'; obtain ⟨hw1, hw2, hw3, hw4⟩ := hw'; go_simp; try with_reducible rfl
  simp only [Act.put, List.setIfInBounds_toArray, List.set_cons_zero, List.set_cons_succ]
  refine wpAnyH_take (i := 1) (v := .int .i64 turn) rfl (by kernel_rfl) (by kernel_rfl) (by kernel_rfl) (fun _ _ _ h => h) (.inl ⟨by rfl, ?_⟩) hS ?_
  · intro w' hw'; obtain ⟨hw1, hw2, hw3, hw4⟩ := hw'; go_simp; try with_reducible rfl
  simp only [Act.put, List.setIfInBounds_toArray, List.set_cons_zero, List.set_cons_succ]
  refine wpAnyH_take (i := 3) (v := .int .i64 by_) rfl (by kernel_rfl) (by kernel_rfl) (by kernel_rfl) (fun _ _ _ h => h) (.inl ⟨by rfl, ?_⟩) hS ?_
  · intro w' hw'; obtain ⟨hw1, hw2, hw3, hw4⟩ := hw'; go_simp; try with_reducible rfl
  simp only [Act.put, List.setIfInBounds_toArray, List.set_cons_zero, List.set_cons_succ]
  refine wpAnyH_take (i := 5) (v := .agg #[.slice (some ⟨b, 0, none⟩) n cap, .slice (some ⟨g, 0, none⟩) m cap']) rfl (by kernel_rfl) (by kernel_rfl) (by kernel_rfl) (fun _ _ _ h => h) (.inl ⟨by rfl, ?_⟩) hS ?_
  · intro w' hw'; obtain ⟨hw1, hw2, hw3, hw4⟩ := hw'; go_simp; try with_reducible rfl
  simp only [Act.put, List.setIfInBounds_toArray, List.set_cons_zero, List.set_cons_succ]
  refine wpAnyH_all (rs := [2]) (by kernel_rfl) (by simp) ?_
  intro i hi; simp only [List.mem_singleton] at hi; subst hi
  refine wpOp_step rfl (fun K hK => ?_)
  go_simp
  refine (HT.out (w.alloc (.cells #[.int .i64 0, .int .i64 0] 85)).drew M0.out.2.1).mono ?_
  rintro e w' ⟨rfl, hB⟩
  exact ⟨rfl, rfl, (bel.drew).trans (hB.mono (by simp))⟩

theorem turnByR_no {zs : List Int} {js : List (Int × Int)} {turn y : Int} (h : okM zs js = false) : turnByR zs js turn y = (0, 0, 1) := by simp [turnByR, h]
theorem turnByR_by {zs : List Int} {js : List (Int × Int)} {turn y : Int} (h : okM zs js = true) (k : byOk y = false) : turnByR zs js turn y = (0, 0, 2) := by simp [turnByR, h, k]
theorem turnByR_turn {zs : List Int} {js : List (Int × Int)} {turn y : Int} (h : okM zs js = true) (k : turnOk zs turn = false) : turnByR zs js turn y = (0, 0, 2) := by simp [turnByR, h, k]
theorem turnByR_yes {zs : List Int} {js : List (Int × Int)} {turn y : Int} (h : okM zs js = true) (k : turnOk zs turn = true) (l : byOk y = true) : turnByR zs js turn y = ((turn + y) % spanL zs, (turn + y) / spanL zs, 0) := by simp [turnByR, h, k, l]
set_option maxRecDepth 100000 in
set_option maxHeartbeats 2000000 in
theorem implTurnBy_any (b n cap g m cap' : Nat) (zs : List Int) (js : List (Int × Int)) (turn by_ : Int) (w : World) (hS : Stk w b zs) (hJ : Jst w g js) (hn : n = zs.length) (hm : m = js.length) :
    Calls Try.prog 26 #[.agg #[.slice (some ⟨b, 0, none⟩) n cap, .slice (some ⟨g, 0, none⟩) m cap'], .int .i64 turn, .int .i64 by_] w fun e w' => e = .returned (.tuple #[.int .i64 (turnByR zs js turn by_).1, .int .i64 (turnByR zs js turn by_).2.1, .int .i64 (turnByR zs js turn by_).2.2]) ∧ Below w.heap.size w w' := by
  have bel1 : Below w.heap.size w (w.alloc (.cells #[.slice (some ⟨b, 0, none⟩) n cap, .slice (some ⟨g, 0, none⟩) m cap'] 31)) := (Below.refl _ w).alloc (Nat.le_refl _) _
  have bel2 : Below (w.alloc (.cells #[.slice (some ⟨b, 0, none⟩) n cap, .slice (some ⟨g, 0, none⟩) m cap'] 31)).heap.size (w.alloc (.cells #[.slice (some ⟨b, 0, none⟩) n cap, .slice (some ⟨g, 0, none⟩) m cap'] 31)) (((w.alloc (.cells #[.slice (some ⟨b, 0, none⟩) n cap, .slice (some ⟨g, 0, none⟩) m cap'] 31)).alloc (.cells #[.int .i64 turn] 2)).alloc (.cells #[.int .i64 by_] 2)) := ((Below.refl _ _).alloc (Nat.le_refl _) _).alloc (by simp) _
  have bel : Below w.heap.size w (((w.alloc (.cells #[.slice (some ⟨b, 0, none⟩) n cap, .slice (some ⟨g, 0, none⟩) m cap'] 31)).alloc (.cells #[.int .i64 turn] 2)).alloc (.cells #[.int .i64 by_] 2)) := (bel1.alloc (by simp) _).alloc (by simp; omega) _
  have M0 := hid ((MoAt.new w b n cap g m cap' zs js hS hJ).keep bel2)
  have rT' := (Row.new (w.alloc (.cells #[.slice (some ⟨b, 0, none⟩) n cap, .slice (some ⟨g, 0, none⟩) m cap'] 31)) 2 [.int .i64 turn]).alloc (.cells #[.int .i64 by_] 2)
  have rY' := Row.new ((w.alloc (.cells #[.slice (some ⟨b, 0, none⟩) n cap, .slice (some ⟨g, 0, none⟩) m cap'] 31)).alloc (.cells #[.int .i64 turn] 2)) 2 [.int .i64 by_]
  simp only [World.size_alloc] at rT' rY'
  have rT := hid rT'
  have rY := hid rY'
  have HV := hid (implValidMotion_any b n cap g m cap' zs js _ M0.out.2.1 M0.out.2.2 hn hm)
  have hmf : ∀ (fn : Fn) (first cap : Array Value) (w : World), (Instr.makeFunc fn first cap).run Try.prog w = .ok (.func fn first cap) w := fun _ _ _ _ => rfl
  clear rT' rY' bel1 bel2
  cases hv : okM zs js with
  | false =>
    rw [turnByR_no hv]
    rw [hv] at HV
    clear hS hJ hn hm hv
    go_enter Try.func26, Try.ntmps26
    go_wp2_with fail
    refine HV.out.mono ?_
    rintro e w1 ⟨rfl, hB⟩
    go_wp2_with fail
    go_ret3
    exact ⟨rfl, bel.trans (hB.mono (by simp; omega))⟩
  | true =>
    rw [hv] at HV
    have hv1 := (okM_out hv).1
    have hBl : w.heap.size < w.heap.size + 1 + 1 + 1 := by omega
    cases hy : byOk by_ with
    | false =>
      rw [turnByR_by hv hy]
      have yb := byOk_no hy
      by_cases y1 : by_ < -1000000000000000
      · clear hS hJ hn hm hv hv1 hy yb
        go_enter Try.func26, Try.ntmps26
        go_wp2_with fail
        refine HV.out.mono ?_
        rintro e w1 ⟨rfl, hB⟩
        have y0 := (rY.out.below hB (by simp)).cell 0
        simp only [List.getElem?_cons_zero] at y0
        go_wp2_with fail
        go_ret3
        exact ⟨rfl, bel.trans (hB.mono (by simp; omega))⟩
      · have y2 : 1000000000000000 < by_ := by omega
        have y3 : -1000000000000000 ≤ by_ := by omega
        clear hS hJ hn hm hv hv1 hy yb y1
        go_enter Try.func26, Try.ntmps26
        go_wp2_with fail
        refine HV.out.mono ?_
        rintro e w1 ⟨rfl, hB⟩
        have y0 := (rY.out.below hB (by simp)).cell 0
        simp only [List.getElem?_cons_zero] at y0
        go_wp2_with fail
        go_ret3
        exact ⟨rfl, bel.trans (hB.mono (by simp; omega))⟩
    | true =>
      have yb := byOk_yes hy
      have y1 := yb.1
      have y2 := yb.2
      cases ht : turnOk zs turn with
      | false =>
        rw [turnByR_turn hv ht]
        have HS := hid (fun w1 (hB : Below (w.heap.size + 1 + 1 + 1) (((w.alloc (.cells #[.slice (some ⟨b, 0, none⟩) n cap, .slice (some ⟨g, 0, none⟩) m cap'] 31)).alloc (.cells #[.int .i64 turn] 2)).alloc (.cells #[.int .i64 by_] 2)) w1) => settle_pan_two 62 #[.pointer (some ⟨w.heap.size, 0, none⟩), .pointer (some ⟨w.heap.size + 1, 0, none⟩), .pointer (some ⟨w.heap.size + 1 + 1, 0, none⟩)] turn w1 (fun _ => rfl)
          (fun w2 h2 hz2 => turnBy1_no w.heap.size (w.heap.size + 1) (w.heap.size + 1 + 1) b n cap g m cap' zs js turn by_ w2 ((M0.out.keep (by simpa only [World.size_alloc] using hB)).keep h2) (by have := hB.size; simp at this; omega) (by have := hB.size; simp at this; omega)
            (((rT.out.below hB (by omega)).below h2 (by have := hB.size; simp at this; omega)).cell 0) (((rY.out.below hB (by omega)).below h2 (by have := hB.size; simp at this; omega)).cell 0) hn hv1 ht))
        clear hS hJ hn hm hv hv1 hy ht yb
        go_enter Try.func26, Try.ntmps26
        go_wp2_with fail
        refine HV.out.mono ?_
        rintro e w1 ⟨rfl, hB⟩
        have hz := hB.size
        simp only [World.size_alloc] at hB hz
        have y0 := (rY.out.below hB (by omega)).cell 0
        simp only [List.getElem?_cons_zero] at y0
        go_wp2_with fail
        refine (HS.out w1 hB).mono ?_
        rintro e w2 ⟨rfl, hB2⟩
        have hz2 := hB2.size
        go_wp2_with fail
        go_quiet (fail)
        go_wp2_with fail
        go_ret3
        exact ⟨rfl, bel.trans ((hB.mono (by omega)).trans (below_drewN ((hB2.mono (by omega)).alloc (by omega) _) _))⟩
      | true =>
        rw [turnByR_yes hv ht hy]
        have HS := hid (fun w1 (hB : Below (w.heap.size + 1 + 1 + 1) (((w.alloc (.cells #[.slice (some ⟨b, 0, none⟩) n cap, .slice (some ⟨g, 0, none⟩) m cap'] 31)).alloc (.cells #[.int .i64 turn] 2)).alloc (.cells #[.int .i64 by_] 2)) w1) => settle_ok_two 62 #[.pointer (some ⟨w.heap.size, 0, none⟩), .pointer (some ⟨w.heap.size + 1, 0, none⟩), .pointer (some ⟨w.heap.size + 1 + 1, 0, none⟩)] ((turn + by_) % spanL zs) ((turn + by_) / spanL zs) w1 (fun _ => rfl)
          (fun w2 h2 hz2 => turnBy1_ok w.heap.size (w.heap.size + 1) (w.heap.size + 1 + 1) b n cap g m cap' zs js turn by_ w2 ((M0.out.keep (by simpa only [World.size_alloc] using hB)).keep h2) (by have := hB.size; simp at this; omega) (by have := hB.size; simp at this; omega)
            (((rT.out.below hB (by omega)).below h2 (by have := hB.size; simp at this; omega)).cell 0) (((rY.out.below hB (by omega)).below h2 (by have := hB.size; simp at this; omega)).cell 0) hn hv1 ht hy))
        obtain ⟨x, hx⟩ : ∃ x, x = (turn + by_) % spanL zs := ⟨_, rfl⟩
        obtain ⟨y, hy'⟩ : ∃ y, y = (turn + by_) / spanL zs := ⟨_, rfl⟩
        rw [← hx, ← hy'] at HS
        rw [← hx, ← hy']
        clear hS hJ hn hm hv hv1 hy ht yb hx hy'
        go_enter Try.func26, Try.ntmps26
        go_wp2_with fail
        refine HV.out.mono ?_
        rintro e w1 ⟨rfl, hB⟩
        have hz := hB.size
        simp only [World.size_alloc] at hB hz
        have y0 := (rY.out.below hB (by omega)).cell 0
        simp only [List.getElem?_cons_zero] at y0
        go_wp2_with fail
        refine (HS.out w1 hB).mono ?_
        rintro e w2 ⟨rfl, hB2⟩
        have hz2 := hB2.size
        go_wp2_with fail
        go_quiet (fail)
        go_wp2_with fail
        go_ret3
        exact ⟨rfl, bel.trans ((hB.mono (by omega)).trans (below_drewN ((hB2.mono (by omega)).alloc (by omega) _) _))⟩
end Go.Proofs.Ytjpiobcilpjfeaa
