/- PairFor: the program's and the model's, and the law's walk. -/
import Derived.Test.YtkpoaknjngankaaOwnP
import Derived.Test.YtkpoaknjngankaaOpenR
import Derived.Test.YtkpoaknjngankaaMade
import Derived.Deep.DeepCutAuto
namespace Go.Proofs.Ytkpoaknjngankaa
open Go.RowKit
def pairK (p q : Int) : Int := (7 + min p q) / min p q
theorem pairK_facts {p q : Int} (hp : 1 ≤ p) (hq : 1 ≤ q) : 1 ≤ pairK p q ∧ pairK p q ≤ 8 ∧ 8 ≤ pairK p q * p ∧ 8 ≤ pairK p q * q ∧ ∀ j, 0 ≤ j → j < pairK p q → j * p < 8 ∨ j * q < 8 := by
  obtain ⟨m, hm⟩ : ∃ m, min p q = m := ⟨_, rfl⟩
  have m1 : 1 ≤ m := by omega
  have mp : m ≤ p := by omega
  have mq : m ≤ q := by omega
  have e : m = p ∨ m = q := by omega
  unfold pairK
  rw [hm]
  have d1 := Int.mul_ediv_add_emod (7 + m) m
  have d2 := Int.emod_nonneg (7 + m) (show m ≠ 0 by omega)
  have d3 := Int.emod_lt_of_pos (7 + m) (show 0 < m by omega)
  obtain ⟨K, hK⟩ : ∃ K, (7 + m) / m = K := ⟨_, rfl⟩
  rw [hK] at d1 ⊢
  have k1 : 8 ≤ m * K := by omega
  have k0 : 1 ≤ K := by
    by_cases h : K ≤ 0
    · have := Int.mul_le_mul_of_nonneg_left h (show 0 ≤ m by omega)
      omega
    · omega
  have k8 : K ≤ 8 := by
    by_cases h : 9 ≤ K
    · have := Int.mul_le_mul_of_nonneg_left h (show 0 ≤ m by omega)
      omega
    · omega
  have a1 := Int.mul_le_mul_of_nonneg_right mp (show 0 ≤ K by omega)
  have a2 := Int.mul_le_mul_of_nonneg_right mq (show 0 ≤ K by omega)
  refine ⟨k0, k8, by rw [Int.mul_comm K p]; omega, by rw [Int.mul_comm K q]; omega, fun j j0 jk => ?_⟩
  have b := Int.mul_le_mul_of_nonneg_left (show j ≤ K - 1 by omega) (show 0 ≤ m by omega)
  have c : m * (K - 1) = m * K - m := by rw [Int.mul_sub, Int.mul_one]
  have : j * m < 8 := by rw [Int.mul_comm j m]; omega
  rcases e with e | e
  · rw [← e]; exact .inl this
  · rw [← e]; exact .inr this
theorem mul_small {k p : Int} (h1 : 0 ≤ k) (h2 : k ≤ 8) (h3 : 1 ≤ p) (h4 : p ≤ 1000000000) : 0 ≤ k * p ∧ k * p ≤ 8000000000 := by
  have a := Int.mul_nonneg h1 (show 0 ≤ p by omega)
  have b := Int.mul_le_mul h2 h4 (by omega) (by omega)
  omega
def prR (p q : Int) : List (Int × Int) × Int := if okR p q then (if pairK p q * p ≤ 120 ∧ pairK p q * q ≤ 120 then ([(pairK p q * p, pairK p q * q)], 0) else ([], 6)) else ([], 1)
theorem prR_no {p q : Int} (h : okR p q = false) : prR p q = ([], 1) := by simp [prR, h]
theorem prR_yes {p q : Int} (h : okR p q = true) (k : pairK p q * p ≤ 120 ∧ pairK p q * q ≤ 120) : prR p q = ([(pairK p q * p, pairK p q * q)], 0) := by rw [prR, if_pos h, if_pos k]
theorem prR_none {p q : Int} (h : okR p q = true) (k : ¬ (pairK p q * p ≤ 120 ∧ pairK p q * q ≤ 120)) : prR p q = ([], 6) := by rw [prR, if_pos h, if_neg k]
/-- what is returned: a train of the call's own, and a code -/
def OwnPR (w : World) (r : List (Int × Int) × Int) (e : Ending) (w' : World) : Prop := ∃ v, e = .returned (.tuple #[v, .int .i64 r.2]) ∧ OwnP w' w.heap.size v r.1 ∧ Below w.heap.size w w'
theorem pvals_one (x y : Int) : pvals [(x, y)] = [.int .i16 x, .int .i16 y] := by simp [pvals, nums, List.range_succ, num, pd, pn]
theorem OwnP.one {w : World} {g base cap : Nat} {x y : Int} (h : Row w g 73 [.int .i16 x, .int .i16 y]) (hb : base ≤ g) : OwnP w base (.slice (some ⟨g, 0, none⟩) 1 cap) [(x, y)] :=
  ⟨_, cap, rfl, by simp, .inr ⟨g, [], rfl, hb, by rw [pvals_one]; simpa using h⟩⟩
theorem two_boxes2 (w : World) (T U : TypeId) (a b x y : Value) : ∀ W, W = ((w.alloc (.cells #[a, b] T)).alloc (.cells #[x, y] U)) →
    Row W w.heap.size T [a, b] ∧ Row W (w.heap.size + 1) U [x, y] ∧ Below w.heap.size w W ∧ W.heap.size = w.heap.size + 1 + 1 := by
  rintro W rfl
  have h := Row.new (w.alloc (.cells #[a, b] T)) U [x, y]
  simp only [World.size_alloc] at h
  exact ⟨(Row.new w T [a, b]).alloc _, h, (box2_bel w T a b).alloc (by simp) _, by simp⟩
set_option maxHeartbeats 1000000 in
theorem pairOf_any (x y : Int) (hx : -32768 ≤ x ∧ x ≤ 32767) (hy : -32768 ≤ y ∧ y ≤ 32767) (w : World) : Calls Try.prog 61 #[.int .i64 x, .int .i64 y] w (GivesB w (.agg #[.int .i16 x, .int .i16 y])) := by
  have t1 : IntKind.i16.wrap x = x := IntWalk.i16_in _ hx
  have t2 : IntKind.i16.wrap y = y := IntWalk.i16_in _ hy
  obtain ⟨a1, a2⟩ := hx
  obtain ⟨a3, a4⟩ := hy
  go_enter Try.func61, Try.ntmps61
  go_wp2_with fail
  exact bodyPost_ret (v := .agg #[.int .i16 x, .int .i16 y]) (by simp [results, Try.results61, go_sem]) rfl ⟨rfl, (Below.refl _ _).alloc (Nat.le_refl _) _⟩
set_option maxHeartbeats 4000000 in
theorem implPairFor_any (p q : Int) (hp : I64 p) (hq : I64 q) (w : World) : Calls Try.prog 33 #[.agg #[.int .i64 p, .int .i64 q]] w (OwnPR w (prR p q)) := by
  have bE := hid (box2_bel w 27 (.int .i64 p) (.int .i64 q))
  have Q0 := hid (Row.new w 27 [.int .i64 p, .int .i64 q])
  have HV := hid (fun w => implValidRatio_any p q hp hq w)
  cases hk : okR p q with
  | false =>
    rw [prR_no hk]
    rw [hk] at HV
    clear hk hp hq
    go_enter Try.func33, Try.ntmps33
    go_wp2_with fail
    refine (HV.out _).mono ?_
    rintro e w1 ⟨rfl, hB1⟩
    simp only [World.size_alloc] at hB1
    have b1 := hid (bE.out.trans (hB1.mono (by omega)))
    clear hB1
    go_wp2_with fail
    go_ret2
    exact ⟨_, rfl, OwnP.nil _ _ _ _, b1.out⟩
  | true =>
    rw [hk] at HV
    obtain ⟨a1, a2, a3, a4, _⟩ := okR_out hk
    obtain ⟨k1, k2, k3, k4, _⟩ := pairK_facts a1 a3
    have e0 : (7 + min p q) / min p q = pairK p q := rfl
    obtain ⟨m, hm⟩ : ∃ m, min p q = m := ⟨_, rfl⟩
    obtain ⟨M, hM⟩ : ∃ m, max p q = m := ⟨_, rfl⟩
    have m1 : 1 ≤ m := by omega
    have m2 : m ≤ 1000000000 := by omega
    have M1 : 1 ≤ M := by omega
    have M2 : M ≤ 1000000000 := by omega
    have MN : ∀ w, Sem.run Try.prog (Builtin.min_ #[2, 2] 2 #[.int .i64 p, .int .i64 q]) w = .ok (.int .i64 m) w := fun w => by
      have : (if q < p then q else p) = min p q := by split <;> omega
      rw [← hm, ← this]; rfl
    have MX : ∀ w, Sem.run Try.prog (Builtin.max_ #[2, 2] 2 #[.int .i64 p, .int .i64 q]) w = .ok (.int .i64 M) w := fun w => by
      have : (if q > p then q else p) = max p q := by split <;> omega
      rw [← hM, ← this]; rfl
    rw [hm] at e0
    obtain ⟨K, hK⟩ : ∃ K, pairK p q = K := ⟨_, rfl⟩
    rw [hK] at e0 k1 k2 k3 k4
    have e1 : (7 + m).tdiv m = K := by rw [Int.tdiv_eq_ediv_of_nonneg (by omega), e0]
    have t0 : IntKind.i64.wrap (8 + m) = 8 + m := IntWalk.i64_in _ (by omega)
    have t1 : IntKind.i64.wrap (8 + m - 1) = 7 + m := by rw [IntWalk.i64_in _ (by omega)]; omega
    have t2 : IntKind.i64.wrap K = K := IntWalk.i64_in _ (by omega)
    have n1 : m ≠ 0 := by omega
    have b0 := mul_small (k := K) (by omega) k2 M1 M2
    have b1 := mul_small (k := K) (by omega) k2 a1 a2
    have b2 := mul_small (k := K) (by omega) k2 a3 a4
    have iff1 : Hid ((K * p ≤ 120 ∧ K * q ≤ 120) ↔ K * M ≤ 120) := hid (by
      have : M = p ∨ M = q := by omega
      have c1 := Int.mul_le_mul_of_nonneg_left (show p ≤ M by omega) (show 0 ≤ K by omega)
      have c2 := Int.mul_le_mul_of_nonneg_left (show q ≤ M by omega) (show 0 ≤ K by omega)
      rcases this with h | h
      · rw [h] at c1 c2 ⊢; omega
      · rw [h] at c1 c2 ⊢; omega)
    have PR := hid (fun (h : K * p ≤ 120 ∧ K * q ≤ 120) => (prR_yes hk (by rw [hK]; exact h)).trans (by rw [hK]))
    have PN := hid (fun (h : ¬ (K * p ≤ 120 ∧ K * q ≤ 120)) => prR_none hk (by rw [hK]; exact h))
    obtain ⟨X, hX⟩ : ∃ z, K * p = z := ⟨_, rfl⟩
    obtain ⟨Y, hY⟩ : ∃ z, K * q = z := ⟨_, rfl⟩
    obtain ⟨Z, hZ⟩ : ∃ z, K * M = z := ⟨_, rfl⟩
    rw [hX] at b1 k3 PR PN iff1
    rw [hY] at b2 k4 PR PN iff1
    rw [hZ] at b0 iff1
    have t3 : IntKind.i64.wrap X = X := IntWalk.i64_in _ (by omega)
    have t4 : IntKind.i64.wrap Y = Y := IntWalk.i64_in _ (by omega)
    have t5 : IntKind.i64.wrap Z = Z := IntWalk.i64_in _ (by omega)
    clear hk hp hq hm hM hK
    by_cases hz : Z ≤ 120
    · rw [PR.out (iff1.out.2 hz)]
      have hxy := iff1.out.2 hz
      obtain ⟨x1, y1⟩ := hxy
      have HP := hid (fun w => pairOf_any X Y (by omega) (by omega) w)
      go_enter Try.func33, Try.ntmps33
      go_wp2_with fail
      refine (HV.out _).mono ?_
      rintro e w1 ⟨rfl, hB1⟩
      simp only [World.size_alloc] at hB1
      have b1' := hid (bE.out.trans (hB1.mono (by omega)))
      have r1 := hid (Q0.out.below hB1 (by omega))
      have c0 := r1.out.cell 0
      have c1 := r1.out.cell 1
      simp only [List.getElem?_cons_zero, List.getElem?_cons_succ] at c0 c1
      clear hB1
      go_wp2_with fail
      go_quiet (fail)
      go_wp2_with fail
      refine (HP.out _).mono ?_
      rintro e w2 ⟨rfl, hB2⟩
      have b2' := hid ((b1'.out.trans (below_drewN (Below.refl _ _) _)).trans (hB2.mono (by simpa using b1'.out.size)))
      clear hB2 c0 c1
      go_wp2_with fail
      go_ret2
      exact ⟨_, rfl, OwnP.one (Row.new _ _ _) b2'.out.size, b2'.out.alloc b2'.out.size _⟩
    · rw [PN.out (fun h => hz (iff1.out.1 h))]
      have hz2 : 120 < Z := by omega
      clear hz
      go_enter Try.func33, Try.ntmps33
      go_wp2_with fail
      refine (HV.out _).mono ?_
      rintro e w1 ⟨rfl, hB1⟩
      simp only [World.size_alloc] at hB1
      have b1' := hid (bE.out.trans (hB1.mono (by omega)))
      have r1 := hid (Q0.out.below hB1 (by omega))
      have c0 := r1.out.cell 0
      have c1 := r1.out.cell 1
      simp only [List.getElem?_cons_zero, List.getElem?_cons_succ] at c0 c1
      clear hB1
      go_wp2_with fail
      go_quiet (fail)
      go_wp2_with fail
      go_ret2
      exact ⟨_, rfl, OwnP.nil _ _ _ _, below_drewN b1'.out _⟩
/-- what the model's search finds -/
def l03PairV (p q : Int) : Value := if pairK p q * p ≤ 120 ∧ pairK p q * q ≤ 120 then .tuple #[.agg #[.int .i16 (pairK p q * p), .int .i16 (pairK p q * q)], .bool true] else .tuple #[.agg #[.int .i16 0, .int .i16 0], .bool false]
set_option maxRecDepth 100000 in
set_option maxHeartbeats 4000000 in
theorem l03Pair_any (p q : Int) (hp : 1 ≤ p ∧ p ≤ 1000000000) (hq : 1 ≤ q ∧ q ≤ 1000000000) (w : World) : Calls Try.prog 60 #[.agg #[.int .i64 p, .int .i64 q]] w (GivesB w (l03PairV p q)) := by
  obtain ⟨a1, a2⟩ := hp
  obtain ⟨a3, a4⟩ := hq
  obtain ⟨k1, k2, k3, k4, k5⟩ := pairK_facts a1 a3
  obtain ⟨K, hK⟩ : ∃ K, pairK p q = K := ⟨_, rfl⟩
  have HV : Hid (l03PairV p q = if K * p ≤ 120 ∧ K * q ≤ 120 then .tuple #[.agg #[.int .i16 (K * p), .int .i16 (K * q)], .bool true] else .tuple #[.agg #[.int .i16 0, .int .i16 0], .bool false]) := hid (by rw [← hK]; rfl)
  rw [hK] at k1 k2 k3 k4 k5
  have HK5 := hid k5
  obtain ⟨W, hW⟩ : ∃ W, W = ((w.alloc (.cells #[.int .i64 p, .int .i64 q] 27)).alloc (.cells #[.int .i16 0, .int .i16 0] 73)) := ⟨_, rfl⟩
  obtain ⟨q0, q1, bW, sW⟩ := two_boxes2 w 27 73 (.int .i64 p) (.int .i64 q) (.int .i16 0) (.int .i16 0) W hW
  have Q0 := hid q0
  have Q1 := hid q1
  have bE := hid bW
  have hW2 := hid hW
  clear q0 q1 bW sW hW k5 hK
  go_enter Try.func60, Try.ntmps60
  go_wp2_with fail
  rw [← hW2.out]
  go_loop [4] (fun i => ∃ k : Int, i = .int .i64 k ∧ 1 ≤ k ∧ k ≤ K) (fun i => (K + 1 - intOf i).toNat)
  case atStart => exact ⟨1, rfl, by omega, k1⟩
  case round =>
    obtain ⟨k, rfl, hk1, hk2⟩ := hrel
    have c0 := Q0.out.cell 0
    have c1 := Q0.out.cell 1
    simp only [List.getElem?_cons_zero, List.getElem?_cons_succ] at c0 c1
    have b1 := mul_small (k := k) (by omega) (by omega) a1 a2
    have b2 := mul_small (k := k) (by omega) (by omega) a3 a4
    have HLT := hid (fun (h : k < K) => HK5.out k (by omega) h)
    have HMP := hid (fun (h : ¬ (k * p ≤ 120 ∧ k * q ≤ 120)) => show ¬ (K * p ≤ 120 ∧ K * q ≤ 120) from fun h2 => h (by
      have x1 := Int.mul_le_mul_of_nonneg_right hk2 (show 0 ≤ p by omega)
      have x2 := Int.mul_le_mul_of_nonneg_right hk2 (show 0 ≤ q by omega)
      omega))
    have HEQ := hid (fun (h : k = K) => show 8 ≤ k * p ∧ 8 ≤ k * q by subst h; exact ⟨k3, k4⟩)
    have HVV := hid (fun (h : k = K) => show l03PairV p q = if k * p ≤ 120 ∧ k * q ≤ 120 then .tuple #[.agg #[.int .i16 (k * p), .int .i16 (k * q)], .bool true] else .tuple #[.agg #[.int .i16 0, .int .i16 0], .bool false] by rw [h]; exact HV.out)
    obtain ⟨X, hX⟩ : ∃ z, k * p = z := ⟨_, rfl⟩
    obtain ⟨Y, hY⟩ : ∃ z, k * q = z := ⟨_, rfl⟩
    rw [hX, hY] at HLT HMP HEQ HVV
    rw [hX] at b1
    rw [hY] at b2
    obtain ⟨b3, b4⟩ := b1
    obtain ⟨b5, b6⟩ := b2
    have t3 : IntKind.i64.wrap X = X := IntWalk.i64_in _ (by omega)
    have t4 : IntKind.i64.wrap Y = Y := IntWalk.i64_in _ (by omega)
    have d0 := Q1.out.cell 0
    have d1 := Q1.out.cell 1
    have f0 := Q1.out.frozen 0
    have f1 := Q1.out.frozen 1
    simp only [List.getElem?_cons_zero, List.getElem?_cons_succ] at d0 d1
    clear k3 k4
    by_cases h1 : X ≤ 120
    · by_cases h2 : Y ≤ 120
      · have t5 : IntKind.i16.wrap X = X := IntWalk.i16_in _ (by omega)
        have t6 : IntKind.i16.wrap Y = Y := IntWalk.i16_in _ (by omega)
        by_cases hKk : k = K
        · have e := HEQ.out hKk
          obtain ⟨e1, e2⟩ := e
          have HR := hid (HVV.out hKk)
          have PP := hid (pair_again (.int .i16 X) (.int .i16 Y) Q1.out)
          clear hKk
          go_wp2_with fail
          obtain ⟨V, hV⟩ : ∃ V, V = (W.setCell ⟨w.heap.size + 1, 0, none⟩ (.int .i16 X)).setCell ⟨w.heap.size + 1, 1, none⟩ (.int .i16 Y) := ⟨_, rfl⟩
          obtain ⟨rV, bV, _⟩ := PP.out V hV
          rw [← hV]
          clear hV d0 d1 f0 f1
          have g0 := rV.cell 0
          have g1 := rV.cell 1
          simp only [List.getElem?_cons_zero, List.getElem?_cons_succ] at g0 g1
          exact bodyPost_ret (v := .tuple #[.agg #[.int .i16 X, .int .i16 Y], .bool true]) (by simp [results, Try.results60, go_sem, g0, g1]) rfl ⟨by rw [HR.out, if_pos ⟨h1, h2⟩], bE.out.trans (bV _ (by omega))⟩
        · have hlt : k < K := by omega
          rcases HLT.out hlt with h8 | h8
          · clear hKk
            go_wp2_with fail
            go_round
            case rel => exact ⟨k + 1, rfl, by omega, by omega⟩
            case measure => simp [intOf]; omega
          · clear hKk
            by_cases h9 : X < 8
            all_goals
              go_wp2_with fail
              go_round
            case rel => exact ⟨k + 1, rfl, by omega, by omega⟩
            case measure => simp [intOf]; omega
            case rel => exact ⟨k + 1, rfl, by omega, by omega⟩
            case measure => simp [intOf]; omega
      · have h3 : 120 < Y := by omega
        have HN := hid (HMP.out (fun h => h2 h.2))
        clear h2
        have PP := hid (pair_again (.int .i16 0) (.int .i16 0) Q1.out)
        go_wp2_with fail
        obtain ⟨V, hV⟩ : ∃ V, V = (W.setCell ⟨w.heap.size + 1, 0, none⟩ (.int .i16 0)).setCell ⟨w.heap.size + 1, 1, none⟩ (.int .i16 0) := ⟨_, rfl⟩
        obtain ⟨rV, bV, _⟩ := PP.out V hV
        rw [← hV]
        clear hV d0 d1 f0 f1
        have g0 := rV.cell 0
        have g1 := rV.cell 1
        simp only [List.getElem?_cons_zero, List.getElem?_cons_succ] at g0 g1
        exact bodyPost_ret (v := .tuple #[.agg #[.int .i16 0, .int .i16 0], .bool false]) (by simp [results, Try.results60, go_sem, g0, g1]) rfl ⟨by rw [HV.out, if_neg HN.out], bE.out.trans (bV _ (by omega))⟩
    · have h3 : 120 < X := by omega
      have HN := hid (HMP.out (fun h => h1 h.1))
      clear h1
      have PP := hid (pair_again (.int .i16 0) (.int .i16 0) Q1.out)
      go_wp2_with fail
      obtain ⟨V, hV⟩ : ∃ V, V = (W.setCell ⟨w.heap.size + 1, 0, none⟩ (.int .i16 0)).setCell ⟨w.heap.size + 1, 1, none⟩ (.int .i16 0) := ⟨_, rfl⟩
      obtain ⟨rV, bV, _⟩ := PP.out V hV
      rw [← hV]
      clear hV d0 d1 f0 f1
      have g0 := rV.cell 0
      have g1 := rV.cell 1
      simp only [List.getElem?_cons_zero, List.getElem?_cons_succ] at g0 g1
      exact bodyPost_ret (v := .tuple #[.agg #[.int .i16 0, .int .i16 0], .bool false]) (by simp [results, Try.results60, go_sem, g0, g1]) rfl ⟨by rw [HV.out, if_neg HN.out], bE.out.trans (bV _ (by omega))⟩
set_option maxHeartbeats 2000000 in
theorem specPairFor_any (p q : Int) (hp : I64 p) (hq : I64 q) (w : World) : Calls Try.prog 32 #[.agg #[.int .i64 p, .int .i64 q]] w (OwnPR w (prR p q)) := by
  have bE := hid (box2_bel w 27 (.int .i64 p) (.int .i64 q))
  have Q0 := hid (Row.new w 27 [.int .i64 p, .int .i64 q])
  have HV := hid (fun w => l03Ok_any p q hp hq w)
  cases hk : okR p q with
  | false =>
    rw [prR_no hk]
    rw [hk] at HV
    clear hk hp hq
    go_enter Try.func32, Try.ntmps32
    go_wp2_with fail
    refine (HV.out _).mono ?_
    rintro e w1 ⟨rfl, hB1⟩
    simp only [World.size_alloc] at hB1
    have b1 := hid (bE.out.trans (hB1.mono (by omega)))
    clear hB1
    go_wp2_with fail
    go_ret2
    exact ⟨_, rfl, OwnP.nil _ _ _ _, b1.out.alloc b1.out.size _⟩
  | true =>
    rw [hk] at HV
    obtain ⟨a1, a2, a3, a4, _⟩ := okR_out hk
    have HT := hid (fun w => l03Pair_any p q ⟨a1, a2⟩ ⟨a3, a4⟩ w)
    unfold l03PairV at HT
    by_cases hr : pairK p q * p ≤ 120 ∧ pairK p q * q ≤ 120
    · rw [prR_yes hk hr]
      rw [if_pos hr] at HT
      obtain ⟨X, hX⟩ : ∃ z, pairK p q * p = z := ⟨_, rfl⟩
      obtain ⟨Y, hY⟩ : ∃ z, pairK p q * q = z := ⟨_, rfl⟩
      rw [hX, hY] at HT ⊢
      clear hk hp hq hr hX hY
      go_enter Try.func32, Try.ntmps32
      go_wp2_with fail
      refine (HV.out _).mono ?_
      rintro e w1 ⟨rfl, hB1⟩
      simp only [World.size_alloc] at hB1
      have b1 := hid (bE.out.trans (hB1.mono (by omega)))
      have r1 := hid (Q0.out.below hB1 (by omega))
      have c0 := r1.out.cell 0
      have c1 := r1.out.cell 1
      simp only [List.getElem?_cons_zero, List.getElem?_cons_succ] at c0 c1
      clear hB1
      go_wp2_with fail
      refine (HT.out _).mono ?_
      rintro e w2 ⟨rfl, hB2⟩
      have b2 := hid (b1.out.trans (hB2.mono b1.out.size))
      have q2 := Row.new w2 73 [.int .i16 X, .int .i16 Y]
      have b3 := hid (b2.out.alloc b2.out.size (.cells #[.int .i16 X, .int .i16 Y] 73))
      have d0 := q2.cell 0
      have d1 := q2.cell 1
      simp only [List.getElem?_cons_zero, List.getElem?_cons_succ] at d0 d1
      clear q2 hB2 c0 c1
      go_wp2_with fail
      go_ret2
      exact ⟨_, rfl, OwnP.one (g := w2.heap.size + 1) (by have h := Row.new (w2.alloc (.cells #[.int .i16 X, .int .i16 Y] 73)) 73 [.int .i16 X, .int .i16 Y]; simp only [World.size_alloc] at h; exact h) (by have := b2.out.size; omega), b3.out.alloc b3.out.size _⟩
    · rw [prR_none hk hr]
      rw [if_neg hr] at HT
      clear hk hp hq hr
      go_enter Try.func32, Try.ntmps32
      go_wp2_with fail
      refine (HV.out _).mono ?_
      rintro e w1 ⟨rfl, hB1⟩
      simp only [World.size_alloc] at hB1
      have b1 := hid (bE.out.trans (hB1.mono (by omega)))
      have r1 := hid (Q0.out.below hB1 (by omega))
      have c0 := r1.out.cell 0
      have c1 := r1.out.cell 1
      simp only [List.getElem?_cons_zero, List.getElem?_cons_succ] at c0 c1
      clear hB1
      go_wp2_with fail
      refine (HT.out _).mono ?_
      rintro e w2 ⟨rfl, hB2⟩
      have b2 := hid (b1.out.trans (hB2.mono b1.out.size))
      have b3 := hid (b2.out.alloc b2.out.size (.cells #[.int .i16 0, .int .i16 0] 73))
      clear hB2 c0 c1
      go_wp2_with fail
      go_ret2
      exact ⟨_, rfl, OwnP.nil _ _ _ _, b3.out.alloc b3.out.size _⟩
set_option maxHeartbeats 4000000 in
theorem law_FnExactPairFor (p q : Int) (w : World) (hp : I64 p) (hq : I64 q) :
    Calls Try.prog 7 #[.agg #[.int .i64 p, .int .i64 q]] w fun e w' => e = .returned (.bool true) ∧ Below w.heap.size w w' := by
  have HS := hid (fun w => specPairFor_any p q hp hq w)
  have HM := hid (fun w => implPairFor_any p q hp hq w)
  obtain ⟨⟨zs, c⟩, hm⟩ : ∃ m, prR p q = m := ⟨_, rfl⟩
  rw [hm] at HS HM
  have d1 : (c != c) = false := by simp
  have d2 : ((1 + 2 * (zs.length : Int)) != (1 + 2 * (zs.length : Int))) = false := by simp
  have d3 : (0 : Int) ≤ 1 + 2 * (zs.length : Int) := by omega
  obtain ⟨W, hW⟩ : ∃ W, W = w.alloc (.cells #[.int .i64 p, .int .i64 q] 23) := ⟨_, rfl⟩
  have Q0 : Row W w.heap.size 23 [.int .i64 p, .int .i64 q] := by rw [hW]; exact Row.new w _ _
  have bE2 : Below w.heap.size w W := by rw [hW]; exact box2_bel w _ _ _
  have QQ := hid Q0
  have bb := hid bE2
  have hW2 := hid hW
  clear hm hp hq hW Q0 bE2
  go_enter Try.func7, Try.ntmps7
  go_upto_region 1 with fail
  rw [← hW2.out]
  have cells := QQ.out
  have c0 := cells.cell 0
  have c1 := cells.cell 1
  simp only [List.getElem?_cons_zero, List.getElem?_cons_succ] at c0 c1
  clear cells
  go_wp2_with fail
  refine (toRatio_any p q _).mono ?_
  rintro e w1 ⟨rfl, hB1⟩
  have b1 := hid (bb.out.trans (hB1.mono bb.out.size))
  have R1 := hid (QQ.out.below hB1 QQ.out.lt)
  clear c0 c1 hB1
  go_wp2_with fail
  refine (HS.out _).mono ?_
  rintro e w2 ⟨v0, rfl, hO0, hB2⟩
  have O0 := hid hO0
  have b2 := hid (b1.out.trans (hB2.mono b1.out.size))
  have R2 := hid (R1.out.below hB2 R1.out.lt)
  have c0 := R2.out.cell 0
  have c1 := R2.out.cell 1
  simp only [List.getElem?_cons_zero, List.getElem?_cons_succ] at c0 c1
  clear hO0 hB2
  go_wp2_with fail
  refine (toRatio_any p q _).mono ?_
  rintro e w3 ⟨rfl, hB3⟩
  have O3 := hid (O0.out.keep hB3)
  have b3 := hid (b2.out.trans (hB3.mono b2.out.size))
  have R3 := hid (R2.out.below hB3 R2.out.lt)
  clear c0 c1 hB3
  go_wp2_with fail
  refine (HM.out _).mono ?_
  rintro e w4 ⟨v1, rfl, hO1, hB4⟩
  have O4 := hid (O3.out.keep hB4)
  have G4 := hid hO1
  have b4 := hid (b3.out.trans (hB4.mono b3.out.size))
  have R4 := hid (R3.out.below hB4 R3.out.lt)
  have hz4 := hB4.size
  have HB4 := hid hB4
  have l3 := R3.out.lt
  clear hO1 hB4
  go_wp2_with fail
  refine (eqP_own _ _ v1 v0 zs _ G4.out O4.out).mono ?_
  rintro e w4' ⟨rfl, HD⟩
  go_wp2_with fail
  refine (markP_own w3.heap.size v1 zs _ (G4.out.keep HD)).mono ?_
  rintro e w5 ⟨rfl, hM5, hB5, hs5⟩
  have M5 := hid hM5
  have O5 := hid (O3.out.low HB4.out (by omega) ((HD.mono (by omega)).trans hB5))
  have R5 := hid ((R4.out.below HD R4.out.lt).below hB5 l3)
  have b5 := hid (b4.out.trans ((HD.mono b4.out.size).trans (hB5.mono b3.out.size)))
  clear hM5 hB5 hs5
  go_wp2_with fail
  refine (heldP_own w3.heap.size v1 zs.length _ M5.out).mono ?_
  rintro e w' ⟨rfl, d2', rfl⟩
  have M6 := hid (M5.out.keep (below_drewN (Below.refl _ _) d2'))
  have O6 := hid (O5.out.keep (below_drewN (Below.refl _ _) d2'))
  have R6 := hid (R5.out.below (below_drewN (Below.refl w5.heap.size w5) d2') R5.out.lt)
  have b6 := hid (b5.out.trans (below_drewN (Below.refl w.heap.size w5) d2'))
  obtain ⟨w6, hw6⟩ : ∃ z, z = w5.drewN d2' := ⟨_, rfl⟩
  rw [← hw6] at M6 O6 R6 b6 ⊢
  clear hw6
  have c0 := R6.out.cell 0
  have c1 := R6.out.cell 1
  simp only [List.getElem?_cons_zero, List.getElem?_cons_succ] at c0 c1
  go_wp2_with fail
  refine (toRatio_any p q _).mono ?_
  rintro e w7 ⟨rfl, hB7⟩
  have O7 := hid (O6.out.keep hB7)
  have M7 := hid (M6.out.keep hB7)
  have b7 := hid (b6.out.trans (hB7.mono b6.out.size))
  clear c0 c1 hB7
  go_wp2_with fail
  refine (HM.out _).mono ?_
  rintro e w8 ⟨v2, rfl, hO2, hB8⟩
  have H8 := hid hO2
  have O8 := hid (O7.out.keep hB8)
  have M8 := hid (M7.out.keep hB8)
  have b8 := hid (b7.out.trans (hB8.mono b7.out.size))
  clear hO2 hB8
  go_wp2_with fail
  refine (eqP_own _ _ v2 v0 zs _ H8.out O8.out).mono ?_
  rintro e w9 ⟨rfl, HD9⟩
  go_wp2_with fail
  refine (heldP_own w3.heap.size v1 zs.length _ (M8.out.keep HD9)).mono ?_
  rintro e w' ⟨rfl, d4', rfl⟩
  go_wp2_with fail
  go_ret
  exact ⟨rfl, (b8.out.trans (HD9.mono b8.out.size)).trans (below_drewN (Below.refl _ _) _)⟩
end Go.Proofs.Ytkpoaknjngankaa
