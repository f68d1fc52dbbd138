/- NearerRatio: the program's, the model's and the law's walk (what is returned). -/
import Derived.Test.YtgomeeheleiapaaNear
import Derived.Test.YtgomeeheleiapaaTeeth
namespace Go.Proofs.Ytgomeeheleiapaa
open Go.RowKit
def nearR (p q a b c d : Int) : Int × Int := if okR p q && okR a b && okR c d then (if max (max a b) (max c d) ≤ 1000 then (nearI p q a b c d, 0) else (0, 2)) else (0, 1)
theorem nearR_1 {p q a b c d : Int} (h : okR p q = false) : nearR p q a b c d = (0, 1) := by simp [nearR, h]
theorem nearR_2 {p q a b c d : Int} (h : okR a b = false) : nearR p q a b c d = (0, 1) := by simp [nearR, h]
theorem nearR_3 {p q a b c d : Int} (h : okR c d = false) : nearR p q a b c d = (0, 1) := by simp [nearR, h]
theorem nearR_4 {p q a b c d : Int} (h1 : okR p q = true) (h2 : okR a b = true) (h3 : okR c d = true) (h : 1000 < max (max a b) (max c d)) : nearR p q a b c d = (0, 2) := by
  rw [nearR, h1, h2, h3, if_pos (by rfl), if_neg (by omega)]
theorem nearR_5 {p q a b c d : Int} (h1 : okR p q = true) (h2 : okR a b = true) (h3 : okR c d = true) (h : max (max a b) (max c d) ≤ 1000) : nearR p q a b c d = (nearI p q a b c d, 0) := by
  rw [nearR, h1, h2, h3, if_pos (by rfl), if_pos h]
theorem max2_int (k : IntKind) (x y : Int) : Builtin.max2 (.int k x) (.int k y) = pure (.int k (max x y)) := by
  have : (if y > x then y else x) = max x y := by split <;> omega
  rw [← this]
  rfl
theorem max4_int {P : Program} (ats : Array TypeId) (t : TypeId) (a b c d : Int) (w : World) :
    Sem.run P (Builtin.max_ ats t #[.int .i64 a, .int .i64 b, .int .i64 c, .int .i64 d]) w = .ok (.int .i64 (max (max (max a b) c) d)) w := by
  simp only [Builtin.max_, List.foldlM_cons, List.foldlM_nil, max2_int, pure_bind, bind_pure]
  rfl
set_option maxHeartbeats 2000000 in
theorem specNearer_any (p q a b c d : Int) (hp : I64 p) (hq : I64 q) (ha : I64 a) (hb : I64 b) (hc : I64 c) (hd : I64 d) (w : World) :
    Calls Try.prog 44 #[.agg #[.int .i64 p, .int .i64 q], .agg #[.int .i64 a, .int .i64 b], .agg #[.int .i64 c, .int .i64 d]] w (GivesB w (.tuple #[.int .i64 (nearR p q a b c d).1, .int .i64 (nearR p q a b c d).2])) := by
  have H1 := hid (fun w => l03Ok_any p q hp hq w)
  have H2 := hid (fun w => l03Ok_any a b ha hb w)
  have H3 := hid (fun w => l03Ok_any c d hc hd w)
  obtain ⟨q0, q1, q2, bW, sW⟩ := three_ratios w 25 (.int .i64 p) (.int .i64 q) (.int .i64 a) (.int .i64 b) (.int .i64 c) (.int .i64 d) _ rfl
  have bE := hid bW
  have Q0 := hid q0
  have Q1 := hid q1
  have Q2 := hid q2
  clear bW sW q0 q1 q2 hp hq ha hb hc hd
  cases h1 : okR p q with
  | false =>
    rw [nearR_1 h1]
    rw [h1] at H1
    clear h1
    go_enter Try.func44, Try.ntmps44
    go_wp2_with fail
    refine (H1.out _).mono ?_
    rintro e w1 ⟨rfl, hB1⟩
    have hz1 := hB1.size
    simp only [World.size_alloc] at hB1 hz1
    have r0 := Q0.out.below hB1 (by omega)
    have r1 := Q1.out.below hB1 (by omega)
    have r2 := Q2.out.below hB1 (by omega)
    have c0 := r0.cell 0
    have c1 := r0.cell 1
    have c2 := r1.cell 0
    have c3 := r1.cell 1
    have c4 := r2.cell 0
    have c5 := r2.cell 1
    simp only [List.getElem?_cons_zero, List.getElem?_cons_succ] at c0 c1 c2 c3 c4 c5
    go_wp2_with fail
    go_ret2
    exact ⟨rfl, (bE.out.trans (hB1.mono (by omega)))⟩
  | true =>
    rw [h1] at H1
    cases h2 : okR a b with
    | false =>
      rw [nearR_2 h2]
      rw [h2] at H2
      clear h1 h2
      go_enter Try.func44, Try.ntmps44
      go_wp2_with fail
      refine (H1.out _).mono ?_
      rintro e w1 ⟨rfl, hB1⟩
      have hz1 := hB1.size
      simp only [World.size_alloc] at hB1 hz1
      have r0 := Q0.out.below hB1 (by omega)
      have r1 := Q1.out.below hB1 (by omega)
      have r2 := Q2.out.below hB1 (by omega)
      have c0 := r0.cell 0
      have c1 := r0.cell 1
      have c2 := r1.cell 0
      have c3 := r1.cell 1
      have c4 := r2.cell 0
      have c5 := r2.cell 1
      simp only [List.getElem?_cons_zero, List.getElem?_cons_succ] at c0 c1 c2 c3 c4 c5
      go_wp2_with fail
      refine (H2.out _).mono ?_
      rintro e w2 ⟨rfl, hB2⟩
      have hz2 := hB2.size
      have r0 := r0.below hB2 (by omega)
      have r1 := r1.below hB2 (by omega)
      have r2 := r2.below hB2 (by omega)
      clear c0 c1 c2 c3 c4 c5
      have c0 := r0.cell 0
      have c1 := r0.cell 1
      have c2 := r1.cell 0
      have c3 := r1.cell 1
      have c4 := r2.cell 0
      have c5 := r2.cell 1
      simp only [List.getElem?_cons_zero, List.getElem?_cons_succ] at c0 c1 c2 c3 c4 c5
      go_wp2_with fail
      go_ret2
      exact ⟨rfl, (bE.out.trans ((hB1.mono (by omega)).trans (hB2.mono (by omega))))⟩
    | true =>
      rw [h2] at H2
      cases h3 : okR c d with
      | false =>
        rw [nearR_3 h3]
        rw [h3] at H3
        clear h1 h2 h3
        go_enter Try.func44, Try.ntmps44
        go_wp2_with fail
        refine (H1.out _).mono ?_
        rintro e w1 ⟨rfl, hB1⟩
        have hz1 := hB1.size
        simp only [World.size_alloc] at hB1 hz1
        have r0 := Q0.out.below hB1 (by omega)
        have r1 := Q1.out.below hB1 (by omega)
        have r2 := Q2.out.below hB1 (by omega)
        have c0 := r0.cell 0
        have c1 := r0.cell 1
        have c2 := r1.cell 0
        have c3 := r1.cell 1
        have c4 := r2.cell 0
        have c5 := r2.cell 1
        simp only [List.getElem?_cons_zero, List.getElem?_cons_succ] at c0 c1 c2 c3 c4 c5
        go_wp2_with fail
        refine (H2.out _).mono ?_
        rintro e w2 ⟨rfl, hB2⟩
        have hz2 := hB2.size
        have r0 := r0.below hB2 (by omega)
        have r1 := r1.below hB2 (by omega)
        have r2 := r2.below hB2 (by omega)
        clear c0 c1 c2 c3 c4 c5
        have c0 := r0.cell 0
        have c1 := r0.cell 1
        have c2 := r1.cell 0
        have c3 := r1.cell 1
        have c4 := r2.cell 0
        have c5 := r2.cell 1
        simp only [List.getElem?_cons_zero, List.getElem?_cons_succ] at c0 c1 c2 c3 c4 c5
        go_wp2_with fail
        refine (H3.out _).mono ?_
        rintro e w3 ⟨rfl, hB3⟩
        have hz3 := hB3.size
        have r0 := r0.below hB3 (by omega)
        have r1 := r1.below hB3 (by omega)
        have r2 := r2.below hB3 (by omega)
        clear c0 c1 c2 c3 c4 c5
        have c0 := r0.cell 0
        have c1 := r0.cell 1
        have c2 := r1.cell 0
        have c3 := r1.cell 1
        have c4 := r2.cell 0
        have c5 := r2.cell 1
        simp only [List.getElem?_cons_zero, List.getElem?_cons_succ] at c0 c1 c2 c3 c4 c5
        go_wp2_with fail
        go_ret2
        exact ⟨rfl, (bE.out.trans ((hB1.mono (by omega)).trans ((hB2.mono (by omega)).trans (hB3.mono (by omega)))))⟩
      | true =>
        rw [h3] at H3
        obtain ⟨m1, hm1⟩ : ∃ m, max a b = m := ⟨_, rfl⟩
        obtain ⟨m2, hm2⟩ : ∃ m, max c d = m := ⟨_, rfl⟩
        have M1 := hid (fun w => max_any a b w)
        have M2 := hid (fun w => max_any c d w)
        rw [hm1] at M1
        rw [hm2] at M2
        have M3 := hid (fun w => max_any m1 m2 w)
        obtain ⟨m3, hm3⟩ : ∃ m, max m1 m2 = m := ⟨_, rfl⟩
        rw [hm3] at M3
        by_cases hs : m3 ≤ 1000
        · rw [nearR_5 h1 h2 h3 (by omega)]
          have HN := hid (fun w => l03Nearer_any p q a b c d h1 h2 h3 (by omega) (by omega) (by omega) (by omega) w)
          clear h1 h2 h3 hm1 hm2 hm3
          go_enter Try.func44, Try.ntmps44
          go_wp2_with fail
          refine (H1.out _).mono ?_
          rintro e w1 ⟨rfl, hB1⟩
          have hz1 := hB1.size
          simp only [World.size_alloc] at hB1 hz1
          have r0 := Q0.out.below hB1 (by omega)
          have r1 := Q1.out.below hB1 (by omega)
          have r2 := Q2.out.below hB1 (by omega)
          have c0 := r0.cell 0
          have c1 := r0.cell 1
          have c2 := r1.cell 0
          have c3 := r1.cell 1
          have c4 := r2.cell 0
          have c5 := r2.cell 1
          simp only [List.getElem?_cons_zero, List.getElem?_cons_succ] at c0 c1 c2 c3 c4 c5
          go_wp2_with fail
          refine (H2.out _).mono ?_
          rintro e w2 ⟨rfl, hB2⟩
          have hz2 := hB2.size
          have r0 := r0.below hB2 (by omega)
          have r1 := r1.below hB2 (by omega)
          have r2 := r2.below hB2 (by omega)
          clear c0 c1 c2 c3 c4 c5
          have c0 := r0.cell 0
          have c1 := r0.cell 1
          have c2 := r1.cell 0
          have c3 := r1.cell 1
          have c4 := r2.cell 0
          have c5 := r2.cell 1
          simp only [List.getElem?_cons_zero, List.getElem?_cons_succ] at c0 c1 c2 c3 c4 c5
          go_wp2_with fail
          refine (H3.out _).mono ?_
          rintro e w3 ⟨rfl, hB3⟩
          have hz3 := hB3.size
          have r0 := r0.below hB3 (by omega)
          have r1 := r1.below hB3 (by omega)
          have r2 := r2.below hB3 (by omega)
          clear c0 c1 c2 c3 c4 c5
          have c0 := r0.cell 0
          have c1 := r0.cell 1
          have c2 := r1.cell 0
          have c3 := r1.cell 1
          have c4 := r2.cell 0
          have c5 := r2.cell 1
          simp only [List.getElem?_cons_zero, List.getElem?_cons_succ] at c0 c1 c2 c3 c4 c5
          go_wp2_with fail
          go_quiet ((first | (go_at_call 65; with_reducible exact quiet_same (M3.out _)) | (go_at_call 65; with_reducible exact quiet_same (M1.out _)) | (go_at_call 65; with_reducible exact quiet_same (M2.out _))))
          go_wp2_with fail
          refine (HN.out _).mono ?_
          rintro e w4 ⟨rfl, hB4⟩
          clear c0 c1 c2 c3 c4 c5
          go_wp2_with fail
          go_ret2
          exact ⟨rfl, (bE.out.trans ((hB1.mono (by omega)).trans ((hB2.mono (by omega)).trans (hB3.mono (by omega))))).trans ((below_drewN (Below.refl _ _) _).trans (hB4.mono (by simp; omega)))⟩
        · rw [nearR_4 h1 h2 h3 (by omega)]
          have hs2 : 1000 < m3 := by omega
          clear h1 h2 h3 hm1 hm2 hm3 hs
          go_enter Try.func44, Try.ntmps44
          go_wp2_with fail
          refine (H1.out _).mono ?_
          rintro e w1 ⟨rfl, hB1⟩
          have hz1 := hB1.size
          simp only [World.size_alloc] at hB1 hz1
          have r0 := Q0.out.below hB1 (by omega)
          have r1 := Q1.out.below hB1 (by omega)
          have r2 := Q2.out.below hB1 (by omega)
          have c0 := r0.cell 0
          have c1 := r0.cell 1
          have c2 := r1.cell 0
          have c3 := r1.cell 1
          have c4 := r2.cell 0
          have c5 := r2.cell 1
          simp only [List.getElem?_cons_zero, List.getElem?_cons_succ] at c0 c1 c2 c3 c4 c5
          go_wp2_with fail
          refine (H2.out _).mono ?_
          rintro e w2 ⟨rfl, hB2⟩
          have hz2 := hB2.size
          have r0 := r0.below hB2 (by omega)
          have r1 := r1.below hB2 (by omega)
          have r2 := r2.below hB2 (by omega)
          clear c0 c1 c2 c3 c4 c5
          have c0 := r0.cell 0
          have c1 := r0.cell 1
          have c2 := r1.cell 0
          have c3 := r1.cell 1
          have c4 := r2.cell 0
          have c5 := r2.cell 1
          simp only [List.getElem?_cons_zero, List.getElem?_cons_succ] at c0 c1 c2 c3 c4 c5
          go_wp2_with fail
          refine (H3.out _).mono ?_
          rintro e w3 ⟨rfl, hB3⟩
          have hz3 := hB3.size
          have r0 := r0.below hB3 (by omega)
          have r1 := r1.below hB3 (by omega)
          have r2 := r2.below hB3 (by omega)
          clear c0 c1 c2 c3 c4 c5
          have c0 := r0.cell 0
          have c1 := r0.cell 1
          have c2 := r1.cell 0
          have c3 := r1.cell 1
          have c4 := r2.cell 0
          have c5 := r2.cell 1
          simp only [List.getElem?_cons_zero, List.getElem?_cons_succ] at c0 c1 c2 c3 c4 c5
          go_wp2_with fail
          go_quiet ((first | (go_at_call 65; with_reducible exact quiet_same (M3.out _)) | (go_at_call 65; with_reducible exact quiet_same (M1.out _)) | (go_at_call 65; with_reducible exact quiet_same (M2.out _))))
          go_wp2_with fail
          go_ret2
          exact ⟨rfl, below_drewN ((bE.out.trans ((hB1.mono (by omega)).trans ((hB2.mono (by omega)).trans (hB3.mono (by omega)))))) _⟩
set_option maxHeartbeats 2000000 in
theorem implNearer_any (p q a b c d : Int) (hp : I64 p) (hq : I64 q) (ha : I64 a) (hb : I64 b) (hc : I64 c) (hd : I64 d) (w : World) :
    Calls Try.prog 45 #[.agg #[.int .i64 p, .int .i64 q], .agg #[.int .i64 a, .int .i64 b], .agg #[.int .i64 c, .int .i64 d]] w (GivesB w (.tuple #[.int .i64 (nearR p q a b c d).1, .int .i64 (nearR p q a b c d).2])) := by
  have H1 := hid (fun w => implValidRatio_any p q hp hq w)
  have H2 := hid (fun w => implValidRatio_any a b ha hb w)
  have H3 := hid (fun w => implValidRatio_any c d hc hd w)
  obtain ⟨q0, q1, q2, bW, sW⟩ := three_ratios w 25 (.int .i64 p) (.int .i64 q) (.int .i64 a) (.int .i64 b) (.int .i64 c) (.int .i64 d) _ rfl
  have bE := hid bW
  have Q0 := hid q0
  have Q1 := hid q1
  have Q2 := hid q2
  clear bW sW q0 q1 q2 hp hq ha hb hc hd
  cases h1 : okR p q with
  | false =>
    rw [nearR_1 h1]
    rw [h1] at H1
    clear h1
    go_enter Try.func45, Try.ntmps45
    go_wp2_with fail
    refine (H1.out _).mono ?_
    rintro e w1 ⟨rfl, hB1⟩
    have hz1 := hB1.size
    simp only [World.size_alloc] at hB1 hz1
    have r0 := Q0.out.below hB1 (by omega)
    have r1 := Q1.out.below hB1 (by omega)
    have r2 := Q2.out.below hB1 (by omega)
    have c0 := r0.cell 0
    have c1 := r0.cell 1
    have c2 := r1.cell 0
    have c3 := r1.cell 1
    have c4 := r2.cell 0
    have c5 := r2.cell 1
    simp only [List.getElem?_cons_zero, List.getElem?_cons_succ] at c0 c1 c2 c3 c4 c5
    go_wp2_with fail
    go_ret2
    exact ⟨rfl, (bE.out.trans (hB1.mono (by omega)))⟩
  | true =>
    rw [h1] at H1
    cases h2 : okR a b with
    | false =>
      rw [nearR_2 h2]
      rw [h2] at H2
      clear h1 h2
      go_enter Try.func45, Try.ntmps45
      go_wp2_with fail
      refine (H1.out _).mono ?_
      rintro e w1 ⟨rfl, hB1⟩
      have hz1 := hB1.size
      simp only [World.size_alloc] at hB1 hz1
      have r0 := Q0.out.below hB1 (by omega)
      have r1 := Q1.out.below hB1 (by omega)
      have r2 := Q2.out.below hB1 (by omega)
      have c0 := r0.cell 0
      have c1 := r0.cell 1
      have c2 := r1.cell 0
      have c3 := r1.cell 1
      have c4 := r2.cell 0
      have c5 := r2.cell 1
      simp only [List.getElem?_cons_zero, List.getElem?_cons_succ] at c0 c1 c2 c3 c4 c5
      go_wp2_with fail
      refine (H2.out _).mono ?_
      rintro e w2 ⟨rfl, hB2⟩
      have hz2 := hB2.size
      have r0 := r0.below hB2 (by omega)
      have r1 := r1.below hB2 (by omega)
      have r2 := r2.below hB2 (by omega)
      clear c0 c1 c2 c3 c4 c5
      have c0 := r0.cell 0
      have c1 := r0.cell 1
      have c2 := r1.cell 0
      have c3 := r1.cell 1
      have c4 := r2.cell 0
      have c5 := r2.cell 1
      simp only [List.getElem?_cons_zero, List.getElem?_cons_succ] at c0 c1 c2 c3 c4 c5
      go_wp2_with fail
      go_ret2
      exact ⟨rfl, (bE.out.trans ((hB1.mono (by omega)).trans (hB2.mono (by omega))))⟩
    | true =>
      rw [h2] at H2
      cases h3 : okR c d with
      | false =>
        rw [nearR_3 h3]
        rw [h3] at H3
        clear h1 h2 h3
        go_enter Try.func45, Try.ntmps45
        go_wp2_with fail
        refine (H1.out _).mono ?_
        rintro e w1 ⟨rfl, hB1⟩
        have hz1 := hB1.size
        simp only [World.size_alloc] at hB1 hz1
        have r0 := Q0.out.below hB1 (by omega)
        have r1 := Q1.out.below hB1 (by omega)
        have r2 := Q2.out.below hB1 (by omega)
        have c0 := r0.cell 0
        have c1 := r0.cell 1
        have c2 := r1.cell 0
        have c3 := r1.cell 1
        have c4 := r2.cell 0
        have c5 := r2.cell 1
        simp only [List.getElem?_cons_zero, List.getElem?_cons_succ] at c0 c1 c2 c3 c4 c5
        go_wp2_with fail
        refine (H2.out _).mono ?_
        rintro e w2 ⟨rfl, hB2⟩
        have hz2 := hB2.size
        have r0 := r0.below hB2 (by omega)
        have r1 := r1.below hB2 (by omega)
        have r2 := r2.below hB2 (by omega)
        clear c0 c1 c2 c3 c4 c5
        have c0 := r0.cell 0
        have c1 := r0.cell 1
        have c2 := r1.cell 0
        have c3 := r1.cell 1
        have c4 := r2.cell 0
        have c5 := r2.cell 1
        simp only [List.getElem?_cons_zero, List.getElem?_cons_succ] at c0 c1 c2 c3 c4 c5
        go_wp2_with fail
        refine (H3.out _).mono ?_
        rintro e w3 ⟨rfl, hB3⟩
        have hz3 := hB3.size
        have r0 := r0.below hB3 (by omega)
        have r1 := r1.below hB3 (by omega)
        have r2 := r2.below hB3 (by omega)
        clear c0 c1 c2 c3 c4 c5
        have c0 := r0.cell 0
        have c1 := r0.cell 1
        have c2 := r1.cell 0
        have c3 := r1.cell 1
        have c4 := r2.cell 0
        have c5 := r2.cell 1
        simp only [List.getElem?_cons_zero, List.getElem?_cons_succ] at c0 c1 c2 c3 c4 c5
        go_wp2_with fail
        go_ret2
        exact ⟨rfl, (bE.out.trans ((hB1.mono (by omega)).trans ((hB2.mono (by omega)).trans (hB3.mono (by omega)))))⟩
      | true =>
        rw [h3] at H3
        obtain ⟨m, hm⟩ : ∃ m, max (max (max a b) c) d = m := ⟨_, rfl⟩
        have MX : ∀ w, Sem.run Try.prog (Builtin.max_ #[2, 2, 2, 2] 2 #[.int .i64 a, .int .i64 b, .int .i64 c, .int .i64 d]) w = .ok (.int .i64 m) w := fun w => by rw [max4_int, hm]
        by_cases hs : m ≤ 1000
        · rw [nearR_5 h1 h2 h3 (by omega)]
          have sa : a ≤ 1000 := by omega
          have sb : b ≤ 1000 := by omega
          have sc : c ≤ 1000 := by omega
          have sd : d ≤ 1000 := by omega
          have HN := hid (fun w => nearer_any p q a b c d h1 h2 h3 sa sb sc sd w)
          clear h1 h2 h3 hm sa sb sc sd
          go_enter Try.func45, Try.ntmps45
          go_wp2_with fail
          refine (H1.out _).mono ?_
          rintro e w1 ⟨rfl, hB1⟩
          have hz1 := hB1.size
          simp only [World.size_alloc] at hB1 hz1
          have r0 := Q0.out.below hB1 (by omega)
          have r1 := Q1.out.below hB1 (by omega)
          have r2 := Q2.out.below hB1 (by omega)
          have c0 := r0.cell 0
          have c1 := r0.cell 1
          have c2 := r1.cell 0
          have c3 := r1.cell 1
          have c4 := r2.cell 0
          have c5 := r2.cell 1
          simp only [List.getElem?_cons_zero, List.getElem?_cons_succ] at c0 c1 c2 c3 c4 c5
          go_wp2_with fail
          refine (H2.out _).mono ?_
          rintro e w2 ⟨rfl, hB2⟩
          have hz2 := hB2.size
          have r0 := r0.below hB2 (by omega)
          have r1 := r1.below hB2 (by omega)
          have r2 := r2.below hB2 (by omega)
          clear c0 c1 c2 c3 c4 c5
          have c0 := r0.cell 0
          have c1 := r0.cell 1
          have c2 := r1.cell 0
          have c3 := r1.cell 1
          have c4 := r2.cell 0
          have c5 := r2.cell 1
          simp only [List.getElem?_cons_zero, List.getElem?_cons_succ] at c0 c1 c2 c3 c4 c5
          go_wp2_with fail
          refine (H3.out _).mono ?_
          rintro e w3 ⟨rfl, hB3⟩
          have hz3 := hB3.size
          have r0 := r0.below hB3 (by omega)
          have r1 := r1.below hB3 (by omega)
          have r2 := r2.below hB3 (by omega)
          clear c0 c1 c2 c3 c4 c5
          have c0 := r0.cell 0
          have c1 := r0.cell 1
          have c2 := r1.cell 0
          have c3 := r1.cell 1
          have c4 := r2.cell 0
          have c5 := r2.cell 1
          simp only [List.getElem?_cons_zero, List.getElem?_cons_succ] at c0 c1 c2 c3 c4 c5
          go_wp2_with fail
          refine (HN.out _).mono ?_
          rintro e w4 ⟨rfl, hB4⟩
          clear c0 c1 c2 c3 c4 c5
          go_wp2_with fail
          go_ret2
          exact ⟨rfl, (bE.out.trans ((hB1.mono (by omega)).trans ((hB2.mono (by omega)).trans (hB3.mono (by omega))))).trans (hB4.mono (by omega))⟩
        · rw [nearR_4 h1 h2 h3 (by omega)]
          have hs2 : 1000 < m := by omega
          clear h1 h2 h3 hs hm
          go_enter Try.func45, Try.ntmps45
          go_wp2_with fail
          refine (H1.out _).mono ?_
          rintro e w1 ⟨rfl, hB1⟩
          have hz1 := hB1.size
          simp only [World.size_alloc] at hB1 hz1
          have r0 := Q0.out.below hB1 (by omega)
          have r1 := Q1.out.below hB1 (by omega)
          have r2 := Q2.out.below hB1 (by omega)
          have c0 := r0.cell 0
          have c1 := r0.cell 1
          have c2 := r1.cell 0
          have c3 := r1.cell 1
          have c4 := r2.cell 0
          have c5 := r2.cell 1
          simp only [List.getElem?_cons_zero, List.getElem?_cons_succ] at c0 c1 c2 c3 c4 c5
          go_wp2_with fail
          refine (H2.out _).mono ?_
          rintro e w2 ⟨rfl, hB2⟩
          have hz2 := hB2.size
          have r0 := r0.below hB2 (by omega)
          have r1 := r1.below hB2 (by omega)
          have r2 := r2.below hB2 (by omega)
          clear c0 c1 c2 c3 c4 c5
          have c0 := r0.cell 0
          have c1 := r0.cell 1
          have c2 := r1.cell 0
          have c3 := r1.cell 1
          have c4 := r2.cell 0
          have c5 := r2.cell 1
          simp only [List.getElem?_cons_zero, List.getElem?_cons_succ] at c0 c1 c2 c3 c4 c5
          go_wp2_with fail
          refine (H3.out _).mono ?_
          rintro e w3 ⟨rfl, hB3⟩
          have hz3 := hB3.size
          have r0 := r0.below hB3 (by omega)
          have r1 := r1.below hB3 (by omega)
          have r2 := r2.below hB3 (by omega)
          clear c0 c1 c2 c3 c4 c5
          have c0 := r0.cell 0
          have c1 := r0.cell 1
          have c2 := r1.cell 0
          have c3 := r1.cell 1
          have c4 := r2.cell 0
          have c5 := r2.cell 1
          simp only [List.getElem?_cons_zero, List.getElem?_cons_succ] at c0 c1 c2 c3 c4 c5
          go_wp2_with fail
          go_ret2
          exact ⟨rfl, (bE.out.trans ((hB1.mono (by omega)).trans ((hB2.mono (by omega)).trans (hB3.mono (by omega)))))⟩
end Go.Proofs.Ytgomeeheleiapaa
