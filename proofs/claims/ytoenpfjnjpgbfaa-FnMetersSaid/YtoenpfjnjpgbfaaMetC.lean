/- Meters: what has been counted; the program's and the model's answers. -/
import Derived.Test.YtoenpfjnjpgbfaaMetV
namespace Go.Proofs.Ytoenpfjnjpgbfaa
open Go.RowKit
/-- the code of a meter and a flow -/
def askI (zs : List Int) (x y s f : Int) : Int := if okMe zs x y s then (if 0 ≤ f ∧ f ≤ 1000000000000 then 0 else 2) else 1
theorem askI_no {zs : List Int} {x y s f : Int} (h : okMe zs x y s = false) : askI zs x y s f = 1 := by simp [askI, h]
theorem askI_range {zs : List Int} {x y s f : Int} (h : okMe zs x y s = true) (k : ¬ (0 ≤ f ∧ f ≤ 1000000000000)) : askI zs x y s f = 2 := by rw [askI, h, if_pos rfl, if_neg k]
theorem askI_yes {zs : List Int} {x y s f : Int} (h : okMe zs x y s = true) (k : 0 ≤ f ∧ f ≤ 1000000000000) : askI zs x y s f = 0 := by rw [askI, h, if_pos rfl, if_pos k]
theorem l06Asked_any (g B n cap : Nat) (zs : List Int) (x y s f : Int) (w : World) (hS : Stk w B zs) (hn : n = zs.length) (hR : Row w g 26 [.slice (some ⟨B, 0, none⟩) n cap, .int .i64 x, .int .i64 y, .int .i64 s]) :
    Calls Try.prog 23 #[.pointer (some ⟨g, 0, none⟩), .int .i64 f] w fun e w' => e = .returned (.int .i64 (askI zs x y s f)) ∧ ∃ d, w' = w.drewN d := by
  have HO := hid (l06Ok_any g B n cap zs x y s w hS hn hR)
  have HP := hid (fun w => positive_any f w)
  clear hS hn hR
  cases hv : okMe zs x y s with
  | false =>
    rw [askI_no hv]
    rw [hv] at HO
    clear hv
    go_enter Try.func23, Try.ntmps23
    go_wp2_with fail
    refine HO.out.mono ?_
    rintro e w1 ⟨rfl, d, rfl⟩
    go_wp2_with fail
    go_ret
    exact ⟨rfl, d, rfl⟩
  | true =>
    rw [hv] at HO
    by_cases hf : 0 ≤ f ∧ f ≤ 1000000000000
    · rw [askI_yes hv hf]
      have e1 := in_yes hf
      rw [e1] at HP
      clear hv e1 hf
      go_enter Try.func23, Try.ntmps23
      go_wp2_with fail
      refine HO.out.mono ?_
      rintro e w1 ⟨rfl, d, rfl⟩
      go_wp2_with fail
      refine (HP.out _).mono ?_
      rintro e w2 ⟨rfl, rfl⟩
      go_wp2_with fail
      go_ret
      exact ⟨rfl, d, rfl⟩
    · rw [askI_range hv hf]
      have e1 := in_no hf
      rw [e1] at HP
      clear hv e1 hf
      go_enter Try.func23, Try.ntmps23
      go_wp2_with fail
      refine HO.out.mono ?_
      rintro e w1 ⟨rfl, d, rfl⟩
      go_wp2_with fail
      refine (HP.out _).mono ?_
      rintro e w2 ⟨rfl, rfl⟩
      go_wp2_with fail
      go_ret
      exact ⟨rfl, d, rfl⟩
/-- what has been counted, with a code -/
def cntA (zs : List Int) (x y s f : Int) : Int × Int := if askI zs x y s f = 0 then (f * x / y, 0) else (0, askI zs x y s f)
theorem cntA_no {zs : List Int} {x y s f : Int} (h : okMe zs x y s = false) : cntA zs x y s f = (0, 1) := by rw [cntA, askI_no h]; rfl
theorem cntA_range {zs : List Int} {x y s f : Int} (h : okMe zs x y s = true) (k : ¬ (0 ≤ f ∧ f ≤ 1000000000000)) : cntA zs x y s f = (0, 2) := by rw [cntA, askI_range h k]; rfl
theorem cntA_yes {zs : List Int} {x y s f : Int} (h : okMe zs x y s = true) (k : 0 ≤ f ∧ f ≤ 1000000000000) : cntA zs x y s f = (f * x / y, 0) := by rw [cntA, askI_yes h k]; rfl
theorem mul_upto {f x : Int} (h1 : 0 ≤ f) (h2 : f ≤ 1000000000000) (h3 : 1 ≤ x) (h4 : x ≤ 1000) : 0 ≤ f * x ∧ f * x ≤ 1000000000000000 := by
  have a := Int.mul_nonneg h1 (show 0 ≤ x by omega)
  have b := Int.mul_le_mul_of_nonneg_left h4 h1
  omega
theorem quo_bd {X y : Int} (h : 0 ≤ X) (hy : 1 ≤ y) : X.tdiv y = X / y ∧ 0 ≤ X / y ∧ X / y ≤ X := by
  refine ⟨Int.tdiv_eq_ediv_of_nonneg h, Int.ediv_nonneg h (by omega), Int.ediv_le_self _ h⟩
theorem of_any (P Q n : Int) (h0 : 0 ≤ n * P) (h1 : n * P ≤ 9000000000000000000) (hQ : 1 ≤ Q) (w : World) :
    Calls Try.prog 20 #[.agg #[.int .i64 P, .int .i64 Q], .int .i64 n] w (GivesB w (.int .i64 (n * P / Q))) := by
  have bel := hid (box2_bel w 43 (.int .i64 P) (.int .i64 Q))
  obtain ⟨X, hX⟩ : ∃ X, n * P = X := ⟨_, rfl⟩
  rw [hX] at h0 h1 ⊢
  obtain ⟨e1, e2, e3⟩ := quo_bd h0 hQ
  obtain ⟨r, hr⟩ : ∃ r, X / Q = r := ⟨_, rfl⟩
  rw [hr] at e1 e2 e3 ⊢
  have tX : IntKind.i64.wrap X = X := IntWalk.i64_in _ (by omega)
  have tr : IntKind.i64.wrap r = r := IntWalk.i64_in _ (by omega)
  have nQ : Q ≠ 0 := by omega
  clear e2 e3 h0 h1 hQ
  go_enter Try.func20, Try.ntmps20
  go_wp2_with fail
  go_ret
  exact ⟨rfl, bel.out⟩
theorem gauge_any (B n cap : Nat) (x y s : Int) (w : World) :
    Calls Try.prog 19 #[.agg #[.slice (some ⟨B, 0, none⟩) n cap, .int .i64 x, .int .i64 y, .int .i64 s]] w (GivesB w (.agg #[.slice (some ⟨B, 0, none⟩) n cap, .int .i64 x, .int .i64 y, .int .i64 s])) := by
  go_enter Try.func19, Try.ntmps19
  go_wp2_with fail
  exact bodyPost_ret (v := .agg #[.slice (some ⟨B, 0, none⟩) n cap, .int .i64 x, .int .i64 y, .int .i64 s]) (by simp [results, Try.results19, go_sem]) rfl ⟨rfl, ((Below.refl _ _).alloc (Nat.le_refl _) _).alloc (by simp) _⟩
set_option maxRecDepth 100000 in
set_option maxHeartbeats 1000000 in
theorem implCountAfter_any (B n cap : Nat) (zs : List Int) (x y s f : Int) (w : World) (hS : Stk w B zs) (hn : n = zs.length) :
    Calls Try.prog 8 #[.agg #[.slice (some ⟨B, 0, none⟩) n cap, .int .i64 x, .int .i64 y, .int .i64 s], .int .i64 f] w (GivesB w (.tuple #[.int .i64 (cntA zs x y s f).1, .int .i64 (cntA zs x y s f).2])) := by
  obtain ⟨W, hW⟩ : ∃ W, W = w.alloc (.cells #[.slice (some ⟨B, 0, none⟩) n cap, .int .i64 x, .int .i64 y, .int .i64 s] 26) := ⟨_, rfl⟩
  have bel : Below w.heap.size w W := by rw [hW]; exact box4_belM _ _ _ _ _ _
  have r0 : Row W w.heap.size 26 [.slice (some ⟨B, 0, none⟩) n cap, .int .i64 x, .int .i64 y, .int .i64 s] := by rw [hW]; exact Row.new _ _ _
  have H := hid (implValidMeter_any B n cap zs x y s W (hS.below bel hS.1) hn)
  have HC := hid (fun w => isCount_any f w)
  have c0 := r0.cell 0; have c1 := r0.cell 1; have c2 := r0.cell 2; have c3 := r0.cell 3
  simp only [List.getElem?_cons_zero, List.getElem?_cons_succ] at c0 c1 c2 c3
  have R := hid r0
  have BE := hid bel
  have HW := hid hW
  have lt := r0.lt
  clear hS hn r0 bel hW
  cases hv : okMe zs x y s with
  | false =>
    rw [cntA_no hv]
    rw [hv] at H
    clear hv
    go_enter Try.func8, Try.ntmps8
    go_wp2_with fail
    rw [← HW.out]
    refine H.out.mono ?_
    rintro e w1 ⟨rfl, hB⟩
    clear c0 c1 c2 c3
    go_wp2_with fail
    go_ret2
    exact ⟨rfl, BE.out.trans (hB.mono BE.out.size)⟩
  | true =>
    rw [hv] at H
    by_cases hf : 0 ≤ f ∧ f ≤ 1000000000000
    · rw [cntA_yes hv hf]
      rw [in_yes hf] at HC
      obtain ⟨_, x1, x2, y1, y2, _⟩ := okMe_out hv
      obtain ⟨h0, h1⟩ := mul_upto hf.1 hf.2 x1 x2
      have HO := hid (fun w => of_any x y f h0 (by omega) y1 w)
      have hF : ∀ w, Sem.run Try.prog (Instr.field 45 (.agg #[.slice (some ⟨B, 0, none⟩) n cap, .int .i64 x, .int .i64 y, .int .i64 s]) 1) w = .ok (.agg #[.int .i64 x, .int .i64 y]) w := fun _ => by kernel_rfl
      clear h0 h1 y1 y2 x1 x2 hv hf
      go_enter Try.func8, Try.ntmps8
      go_wp2_with fail
      rw [← HW.out]
      refine H.out.mono ?_
      rintro e w1 ⟨rfl, hB⟩
      have r1 := R.out.below hB lt
      have b1 := hid (BE.out.trans (hB.mono BE.out.size))
      clear c0 c1 c2 c3 hB
      have c0 := r1.cell 0; have c1 := r1.cell 1; have c2 := r1.cell 2; have c3 := r1.cell 3
      simp only [List.getElem?_cons_zero, List.getElem?_cons_succ] at c0 c1 c2 c3
      clear r1
      go_wp2_with fail
      refine (HC.out _).mono ?_
      rintro e w2 ⟨rfl, rfl⟩
      go_wp2_with fail
      refine (gauge_any B n cap x y s _).mono ?_
      rintro e w2 ⟨rfl, hB⟩
      have b2 := hid (b1.out.trans (hB.mono b1.out.size))
      clear c0 c1 c2 c3 hB
      go_wp2_with fail
      refine (HO.out _).mono ?_
      rintro e w3 ⟨rfl, hB⟩
      go_wp2_with fail
      go_ret2
      exact ⟨rfl, b2.out.trans (hB.mono b2.out.size)⟩
    · rw [cntA_range hv hf]
      rw [in_no hf] at HC
      clear hv hf
      go_enter Try.func8, Try.ntmps8
      go_wp2_with fail
      rw [← HW.out]
      refine H.out.mono ?_
      rintro e w1 ⟨rfl, hB⟩
      clear c0 c1 c2 c3
      go_wp2_with fail
      refine (HC.out _).mono ?_
      rintro e w2 ⟨rfl, rfl⟩
      go_wp2_with fail
      go_ret2
      exact ⟨rfl, BE.out.trans (hB.mono BE.out.size)⟩
end Go.Proofs.Ytoenpfjnjpgbfaa
