/- Meters: what is shown; the program's and the model's answers. -/
import Derived.Test.YtoenpfjnjpgbfaaMetC
import Derived.OwnWalk
namespace Go.Proofs.Ytoenpfjnjpgbfaa
open Go.RowKit
theorem held4 {W : World} {g : Nat} {T : TypeId} {v0 v1 v2 v3 : Value} (h : Row W g T [v0, v1, v2, v3]) {w' : World} (hb : Below W.heap.size W w') :
    Below W.heap.size W w' ∧ w'.cell? ⟨g, 0, none⟩ = some v0 ∧ w'.cell? ⟨g, 1, none⟩ = some v1 ∧ w'.cell? ⟨g, 2, none⟩ = some v2 ∧ w'.cell? ⟨g, 3, none⟩ = some v3 := by
  have r := h.below hb h.lt
  exact ⟨hb, r.cell 0, r.cell 1, r.cell 2, r.cell 3⟩
set_option maxRecDepth 100000 in
set_option maxHeartbeats 1000000 in
theorem after_any (B n cap : Nat) (x y s f : Int) (h0 : 0 ≤ f * x) (h1 : f * x ≤ 1000000000000000) (hy : 1 ≤ y) (hs : 0 ≤ s ∧ s ≤ 1000000000000) (w : World) :
    Calls Try.prog 21 #[.agg #[.slice (some ⟨B, 0, none⟩) n cap, .int .i64 x, .int .i64 y, .int .i64 s], .int .i64 f] w (GivesB w (.int .i64 (s + f * x / y))) := by
  obtain ⟨W, hW⟩ : ∃ W, W = w.alloc (.cells #[.slice (some ⟨B, 0, none⟩) n cap, .int .i64 x, .int .i64 y, .int .i64 s] 45) := ⟨_, rfl⟩
  have bel : Below w.heap.size w W := by rw [hW]; exact box4_belM _ _ _ _ _ _
  have r0 : Row W w.heap.size 45 [.slice (some ⟨B, 0, none⟩) n cap, .int .i64 x, .int .i64 y, .int .i64 s] := by rw [hW]; exact Row.new _ _ _
  have HS0 := hid (held4 r0 (Below.refl _ _).drew)
  have HO := hid (fun (w' : World) (h : (fun w' : World => Below W.heap.size W w' ∧ w'.cell? ⟨w.heap.size, 0, none⟩ = some (.slice (some ⟨B, 0, none⟩) n cap) ∧ w'.cell? ⟨w.heap.size, 1, none⟩ = some (.int .i64 x) ∧ w'.cell? ⟨w.heap.size, 2, none⟩ = some (.int .i64 y) ∧ w'.cell? ⟨w.heap.size, 3, none⟩ = some (.int .i64 s)) w') => (of_any x y f h0 (by omega) hy w').mono fun e w'' ⟨he, hB⟩ => And.intro he (held4 r0 (h.1.trans (hB.mono h.1.size))))
  obtain ⟨e1, e2, e3⟩ := quo_bd h0 hy
  obtain ⟨q, hq⟩ : ∃ q, f * x / y = q := ⟨_, rfl⟩
  rw [hq] at HO e2 e3 ⊢
  have tq : IntKind.i64.wrap (s + q) = s + q := IntWalk.i64_in _ (by omega)
  have BE := hid bel
  have HW := hid hW
  clear e1 e2 e3 h0 h1 hy hs hq r0 bel hW
  go_enter Try.func21, Try.ntmps21
  go_wp2_with fail
  rw [← HW.out]
  go_region_held3 (fun w' : World => Below W.heap.size W w' ∧ w'.cell? ⟨w.heap.size, 0, none⟩ = some (.slice (some ⟨B, 0, none⟩) n cap) ∧ w'.cell? ⟨w.heap.size, 1, none⟩ = some (.int .i64 x) ∧ w'.cell? ⟨w.heap.size, 2, none⟩ = some (.int .i64 y) ∧ w'.cell? ⟨w.heap.size, 3, none⟩ = some (.int .i64 s)) (first | assumption | exact HS0.out)
    ((go_at_call 20; refine (HO.out _ (by assumption)).mono ?_; rintro e v ⟨rfl, hv⟩))
  go_wp2_with fail
  go_ret
  exact ⟨rfl, BE.out.trans (hv.1.mono BE.out.size)⟩
/-- what is shown, how many rounds, and a code -/
def shwA (zs : List Int) (x y s f : Int) : Int × Int × Int := if askI zs x y s f = 0 then ((s + f * x / y) % szL zs, (s + f * x / y) / szL zs, 0) else (0, 0, askI zs x y s f)
theorem shwA_no {zs : List Int} {x y s f : Int} (h : okMe zs x y s = false) : shwA zs x y s f = (0, 0, 1) := by rw [shwA, askI_no h]; rfl
theorem shwA_range {zs : List Int} {x y s f : Int} (h : okMe zs x y s = true) (k : ¬ (0 ≤ f ∧ f ≤ 1000000000000)) : shwA zs x y s f = (0, 0, 2) := by rw [shwA, askI_range h k]; rfl
theorem shwA_yes {zs : List Int} {x y s f : Int} (h : okMe zs x y s = true) (k : 0 ≤ f ∧ f ≤ 1000000000000) : shwA zs x y s f = ((s + f * x / y) % szL zs, (s + f * x / y) / szL zs, 0) := by rw [shwA, askI_yes h k]; rfl
theorem rem_bd {X z : Int} (h : 0 ≤ X) (hz : 1 ≤ z) : X.tmod z = X % z ∧ 0 ≤ X % z ∧ X % z < z := by
  refine ⟨Int.tmod_eq_emod_of_nonneg h, Int.emod_nonneg X (by omega), Int.emod_lt_of_pos X (by omega)⟩
set_option maxRecDepth 100000 in
set_option maxHeartbeats 2000000 in
theorem specShowsAfter_any (B n cap : Nat) (zs : List Int) (x y s f : Int) (w : World) (hS : Stk w B zs) (hn : n = zs.length) :
    Calls Try.prog 10 #[.agg #[.slice (some ⟨B, 0, none⟩) n cap, .int .i64 x, .int .i64 y, .int .i64 s], .int .i64 f] w (GivesB w (.tuple #[.int .i64 (shwA zs x y s f).1, .int .i64 (shwA zs x y s f).2.1, .int .i64 (shwA zs x y s f).2.2])) := by
  have bel := hid (box4_belM w 26 (.slice (some ⟨B, 0, none⟩) n cap) (.int .i64 x) (.int .i64 y) (.int .i64 s))
  have r0 := Row.new w 26 [.slice (some ⟨B, 0, none⟩) n cap, .int .i64 x, .int .i64 y, .int .i64 s]
  have H := hid (l06Asked_any w.heap.size B n cap zs x y s f _ (hS.below bel.out hS.1) hn r0)
  have c0 := r0.cell 0; have c1 := r0.cell 1; have c2 := r0.cell 2; have c3 := r0.cell 3
  simp only [List.getElem?_cons_zero, List.getElem?_cons_succ] at c0 c1 c2 c3
  have HZ := hid (fun hv d => l01Size_me B n cap zs hn hv _ ((hS.below bel.out hS.1).below (below_drewN (Below.refl _ _) d) (hS.below bel.out hS.1).1))
  clear hS hn r0
  cases hv : okMe zs x y s with
  | false =>
    rw [shwA_no hv]
    rw [askI_no hv] at H
    clear hv c0 c1 c2 c3
    go_enter Try.func10, Try.ntmps10
    go_wp2_with fail
    refine H.out.mono ?_
    rintro e w1 ⟨rfl, d, rfl⟩
    go_wp2_with fail
    go_ret3
    exact ⟨rfl, below_drewN bel.out d⟩
  | true =>
    by_cases hf : 0 ≤ f ∧ f ≤ 1000000000000
    · rw [shwA_yes hv hf]
      rw [askI_yes hv hf] at H
      obtain ⟨hok, x1, x2, y1, y2, s1, s2⟩ := okMe_out hv
      have HZ2 := hid (HZ.out hok)
      obtain ⟨_, _, _, z1, z2⟩ := okL_out hok
      obtain ⟨h0, h1⟩ := mul_upto hf.1 hf.2 x1 x2
      obtain ⟨z, hz⟩ : ∃ z, szL zs = z := ⟨_, rfl⟩
      rw [hz] at HZ2 z1 z2 s2 ⊢
      obtain ⟨X, hX⟩ : ∃ X, f * x = X := ⟨_, rfl⟩
      rw [hX] at h0 h1 ⊢
      obtain ⟨e1, e2, e3⟩ := quo_bd h0 y1
      obtain ⟨q, hq⟩ : ∃ q, X / y = q := ⟨_, rfl⟩
      rw [hq] at e1 e2 e3 ⊢
      obtain ⟨t, ht⟩ : ∃ t, s + q = t := ⟨_, rfl⟩
      obtain ⟨d1, d2, d3⟩ := quo_bd (X := t) (y := z) (by omega) z1
      obtain ⟨m1, m2, m3⟩ := rem_bd (X := t) (z := z) (by omega) z1
      rw [ht]
      obtain ⟨u, hu⟩ : ∃ u, t / z = u := ⟨_, rfl⟩
      obtain ⟨v, hv2⟩ : ∃ v, t % z = v := ⟨_, rfl⟩
      rw [hu] at d1 d2 d3 ⊢
      rw [hv2] at m1 m2 m3 ⊢
      have tX : IntKind.i64.wrap X = X := IntWalk.i64_in _ (by omega)
      have tq : IntKind.i64.wrap q = q := IntWalk.i64_in _ (by omega)
      have tt : IntKind.i64.wrap t = t := IntWalk.i64_in _ (by omega)
      have tu : IntKind.i64.wrap u = u := IntWalk.i64_in _ (by omega)
      have tv : IntKind.i64.wrap v = v := IntWalk.i64_in _ (by omega)
      have ny : y ≠ 0 := by omega
      have nz : z ≠ 0 := by omega
      have HQ := hid hq
      have HT := hid ht
      have hXX := hid hX
      clear e2 e3 d2 d3 m2 m3 h0 h1 y1 y2 x1 x2 s1 s2 z1 z2 hv hf hok hz HZ hq hu hv2
      go_enter Try.func10, Try.ntmps10
      go_wp2_with fail
      refine H.out.mono ?_
      rintro e w1 ⟨rfl, d, rfl⟩
      go_wp2_with fail
      refine (HZ2.out d).mono ?_
      rintro e w2 ⟨rfl, rfl⟩
      go_wp2_with fail
      go_quiet (fail)
      go_wp2_with fail
      go_quiet (fail)
      go_wp2_with fail
      go_ret3
      exact ⟨rfl, below_drewN (below_drewN (below_drewN bel.out d) _) _⟩
    · rw [shwA_range hv hf]
      rw [askI_range hv hf] at H
      clear hv c0 c1 c2 c3 hf
      go_enter Try.func10, Try.ntmps10
      go_wp2_with fail
      refine H.out.mono ?_
      rintro e w1 ⟨rfl, d, rfl⟩
      go_wp2_with fail
      go_ret3
      exact ⟨rfl, below_drewN bel.out d⟩
set_option maxRecDepth 100000 in
set_option maxHeartbeats 4000000 in
theorem implShowsAfter_any (B n cap : Nat) (zs : List Int) (x y s f : Int) (w : World) (hS : Stk w B zs) (hn : n = zs.length) :
    Calls Try.prog 9 #[.agg #[.slice (some ⟨B, 0, none⟩) n cap, .int .i64 x, .int .i64 y, .int .i64 s], .int .i64 f] w (GivesB w (.tuple #[.int .i64 (shwA zs x y s f).1, .int .i64 (shwA zs x y s f).2.1, .int .i64 (shwA zs x y s f).2.2])) := by
  obtain ⟨W, hW⟩ : ∃ W, W = w.alloc (.cells #[.slice (some ⟨B, 0, none⟩) n cap, .int .i64 x, .int .i64 y, .int .i64 s] 26) := ⟨_, rfl⟩
  have bel : Below w.heap.size w W := by rw [hW]; exact box4_belM _ _ _ _ _ _
  have r0 : Row W w.heap.size 26 [.slice (some ⟨B, 0, none⟩) n cap, .int .i64 x, .int .i64 y, .int .i64 s] := by rw [hW]; exact Row.new _ _ _
  have hK := hS.below bel hS.1
  have HK := hid hK
  have H := hid (implValidMeter_any B n cap zs x y s W hK hn)
  have HC := hid (fun w => isCount_any f w)
  have HN := hid hn
  have c0 := r0.cell 0; have c1 := r0.cell 1; have c2 := r0.cell 2; have c3 := r0.cell 3
  simp only [List.getElem?_cons_zero, List.getElem?_cons_succ] at c0 c1 c2 c3
  have R := hid r0
  have BE := hid bel
  have HW := hid hW
  have lt := r0.lt
  clear hS hn r0 bel hW hK
  cases hv : okMe zs x y s with
  | false =>
    rw [shwA_no hv]
    rw [hv] at H
    clear hv
    go_enter Try.func9, Try.ntmps9
    go_wp2_with fail
    rw [← HW.out]
    refine H.out.mono ?_
    rintro e w1 ⟨rfl, hB⟩
    clear c0 c1 c2 c3
    go_wp2_with fail
    go_ret3
    exact ⟨rfl, BE.out.trans (hB.mono BE.out.size)⟩
  | true =>
    rw [hv] at H
    by_cases hf : 0 ≤ f ∧ f ≤ 1000000000000
    · rw [shwA_yes hv hf]
      rw [in_yes hf] at HC
      obtain ⟨hok, x1, x2, y1, y2, s1, s2⟩ := okMe_out hv
      obtain ⟨_, _, _, z1, z2⟩ := okL_out hok
      obtain ⟨h0, h1⟩ := mul_upto hf.1 hf.2 x1 x2
      have HA := hid (fun w => after_any B n cap x y s f h0 h1 y1 (by omega) w)
      have HZ := hid (fun w h => size_any B n cap zs HN.out hok w h)
      obtain ⟨z, hz⟩ : ∃ z, szL zs = z := ⟨_, rfl⟩
      rw [hz] at HZ z1 z2 s2 ⊢
      obtain ⟨e1, e2, e3⟩ := quo_bd h0 y1
      obtain ⟨q, hq⟩ : ∃ q, f * x / y = q := ⟨_, rfl⟩
      rw [hq] at e1 e2 e3 HA ⊢
      obtain ⟨t, ht⟩ : ∃ t, s + q = t := ⟨_, rfl⟩
      obtain ⟨d1, d2, d3⟩ := quo_bd (X := t) (y := z) (by omega) z1
      obtain ⟨m1, m2, m3⟩ := rem_bd (X := t) (z := z) (by omega) z1
      rw [ht] at HA ⊢
      obtain ⟨u, hu⟩ : ∃ u, t / z = u := ⟨_, rfl⟩
      obtain ⟨v, hv2⟩ : ∃ v, t % z = v := ⟨_, rfl⟩
      rw [hu] at d1 d2 d3 ⊢
      rw [hv2] at m1 m2 m3 ⊢
      have tu : IntKind.i64.wrap u = u := IntWalk.i64_in _ (by omega)
      have tv : IntKind.i64.wrap v = v := IntWalk.i64_in _ (by omega)
      have nz : z ≠ 0 := by omega
      clear e1 e2 e3 d2 d3 m2 m3 h0 h1 y1 y2 x1 x2 s1 s2 z1 z2 hv hf hok hz hq hu hv2 ht
      go_enter Try.func9, Try.ntmps9
      go_wp2_with fail
      rw [← HW.out]
      refine H.out.mono ?_
      rintro e w1 ⟨rfl, hB⟩
      have r1 := R.out.below hB lt
      have b1 := hid (BE.out.trans (hB.mono BE.out.size))
      have K1 := hid (HK.out.below hB HK.out.1)
      clear c0 c1 c2 c3 hB
      have c0 := r1.cell 0; have c1 := r1.cell 1; have c2 := r1.cell 2; have c3 := r1.cell 3
      simp only [List.getElem?_cons_zero, List.getElem?_cons_succ] at c0 c1 c2 c3
      clear r1
      go_wp2_with fail
      refine (HC.out _).mono ?_
      rintro e w2 ⟨rfl, rfl⟩
      go_wp2_with fail
      refine (gauge_any B n cap x y s _).mono ?_
      rintro e w2 ⟨rfl, hB⟩
      have b2 := hid (b1.out.trans (hB.mono b1.out.size))
      have K2 := hid (K1.out.below hB K1.out.1)
      clear c0 c1 c2 c3 hB
      obtain ⟨V, hV⟩ : ∃ V, V = w2.alloc (.cells #[.slice (some ⟨B, 0, none⟩) n cap, .int .i64 x, .int .i64 y, .int .i64 s] 45) := ⟨_, rfl⟩
      have bV : Below w2.heap.size w2 V := by rw [hV]; exact box4_belM _ _ _ _ _ _
      have rV : Row V w2.heap.size 45 [.slice (some ⟨B, 0, none⟩) n cap, .int .i64 x, .int .i64 y, .int .i64 s] := by rw [hV]; exact Row.new _ _ _
      have b3 := hid (b2.out.trans (bV.mono b2.out.size))
      have K3 := hid (K2.out.below bV K2.out.1)
      have HS0 := hid (held4 rV (Below.refl _ _).drew)
      have HA2 := hid (fun (w' : World) (h : (fun w' : World => Below V.heap.size V w' ∧ w'.cell? ⟨w2.heap.size, 0, none⟩ = some (.slice (some ⟨B, 0, none⟩) n cap) ∧ w'.cell? ⟨w2.heap.size, 1, none⟩ = some (.int .i64 x) ∧ w'.cell? ⟨w2.heap.size, 2, none⟩ = some (.int .i64 y) ∧ w'.cell? ⟨w2.heap.size, 3, none⟩ = some (.int .i64 s)) w') => (HA.out w').mono fun e w'' ⟨he, hB⟩ => And.intro he (held4 rV (h.1.trans (hB.mono h.1.size))))
      have HZ2 := hid (fun (w' : World) (h : (fun w' : World => Below V.heap.size V w' ∧ w'.cell? ⟨w2.heap.size, 0, none⟩ = some (.slice (some ⟨B, 0, none⟩) n cap) ∧ w'.cell? ⟨w2.heap.size, 1, none⟩ = some (.int .i64 x) ∧ w'.cell? ⟨w2.heap.size, 2, none⟩ = some (.int .i64 y) ∧ w'.cell? ⟨w2.heap.size, 3, none⟩ = some (.int .i64 s)) w') => (HZ.out w' (K3.out.below h.1 K3.out.1)).mono fun e w'' ⟨he, hB⟩ => And.intro he (held4 rV (h.1.trans (hB.mono h.1.size))))
      have HVV := hid hV
      clear rV bV hV
      go_wp2_with fail
      rw [← HVV.out]
      go_region_held3 (fun w' : World => Below V.heap.size V w' ∧ w'.cell? ⟨w2.heap.size, 0, none⟩ = some (.slice (some ⟨B, 0, none⟩) n cap) ∧ w'.cell? ⟨w2.heap.size, 1, none⟩ = some (.int .i64 x) ∧ w'.cell? ⟨w2.heap.size, 2, none⟩ = some (.int .i64 y) ∧ w'.cell? ⟨w2.heap.size, 3, none⟩ = some (.int .i64 s)) (first | assumption | exact HS0.out)
        ((first | (go_at_call 21; refine (HA2.out _ (by assumption)).mono ?_; rintro e v ⟨rfl, hv⟩) | (go_at_call 22; refine (HZ2.out _ (by assumption)).mono ?_; rintro e v ⟨rfl, hv⟩)))
      go_wp2_with fail
      go_ret3
      exact ⟨rfl, b3.out.trans (hv.1.mono b3.out.size)⟩
    · rw [shwA_range hv hf]
      rw [in_no hf] at HC
      clear hv hf
      go_enter Try.func9, Try.ntmps9
      go_wp2_with fail
      rw [← HW.out]
      refine H.out.mono ?_
      rintro e w1 ⟨rfl, hB⟩
      clear c0 c1 c2 c3
      go_wp2_with fail
      refine (HC.out _).mono ?_
      rintro e w2 ⟨rfl, rfl⟩
      go_wp2_with fail
      go_ret3
      exact ⟨rfl, BE.out.trans (hB.mono BE.out.size)⟩
end Go.Proofs.Ytoenpfjnjpgbfaa
