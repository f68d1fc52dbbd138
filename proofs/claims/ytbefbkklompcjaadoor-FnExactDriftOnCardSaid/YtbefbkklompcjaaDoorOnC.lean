/- How much has been counted up to a day; the program's. -/
import Derived.Test.YtbefbkklompcjaaDoorOnB
namespace Go.Proofs.YtbefbkklompcjaaDoor
open Go.RowKit
set_option linter.unusedVariables false
theorem Row.set2o {w : World} {g : Nat} {T : TypeId} {a b : Value} (h : Row w g T [a, b]) (x y : Value) : Row ((w.setCell ⟨g, 0, none⟩ x).setCell ⟨g, 1, none⟩ y) g T [x, y] := (h.set 0 x).set 1 y
theorem Row.new1 (w : World) (o : Obj) (e : TypeId) (xs : List Value) : Row ((w.alloc o).alloc (.cells xs.toArray e)) (w.heap.size + 1) e xs := by
  have h := Row.new (w.alloc o) e xs
  simpa using h
theorem held22 {W : World} {g h : Nat} {T U : TypeId} {a b c d : Value} (h1 : Row W g T [a, b]) (h2 : Row W h U [c, d]) {w' : World} (hb : Below W.heap.size W w') :
    Below W.heap.size W w' ∧ w'.cell? ⟨g, 0, none⟩ = some a ∧ w'.cell? ⟨g, 1, none⟩ = some b ∧ w'.cell? ⟨h, 0, none⟩ = some c ∧ w'.cell? ⟨h, 1, none⟩ = some d := by
  have r := h1.below hb h1.lt
  have s := h2.below hb h2.lt
  exact ⟨hb, r.cell 0, r.cell 1, s.cell 0, s.cell 1⟩
set_option maxRecDepth 100000 in
set_option maxHeartbeats 8000000 in
theorem on_any (b n cap : Nat) (js : List (Int × Int)) (hn : n = js.length) (hv : okTs js = true) (day : Int) (has : hasOn js day) (w : World) (hR : Rst w b js) :
    Calls Tryd.prog 47 #[.slice (some ⟨b, 0, none⟩) n cap, .int .i64 day] w (GivesB w (.int .i64 (onI js day))) := by
  obtain ⟨hl, ht, hu⟩ := okTs_out hv
  have HSR := hid (search_any b n cap js hn (by omega) hu day has w hR)
  have hC := hid hR.2.1
  have hbl := hR.1
  have HN := hid hn
  have HU := hid hu
  have HT := hid ht
  have HAS := hid has
  have h60 : (n : Int) ≤ 60 := by omega
  obtain ⟨x, hx⟩ : ∃ x, onI js day = x := ⟨_, rfl⟩
  have HX := hid hx
  rw [hx]
  clear hn hv hR hu ht has hl hx
  go_enter Tryd.func47, Tryd.ntmps47
  go_wp2_with fail
  refine HSR.out.mono ?_
  rintro e w1 ⟨i, rfl, hi, hlo, hdi, hB⟩
  have B1 := hid hB
  have hz1 := hB.size
  have hin : i < n := by have := HN.out; omega
  have hin' : (i : Int) < (n : Int) := by omega
  have hi0 : (0 : Int) ≤ (i : Int) := by omega
  have ci := hC.out i hi
  have x1 := (hB.cell (p := ⟨b, i * 2, none⟩) hbl).trans ci.1
  have x2 := (hB.cell (p := ⟨b, i * 2 + 1, none⟩) hbl).trans ci.2
  have HI := hid hi
  have HLO := hid hlo
  clear ci hi hlo
  by_cases heq : rd js i = day
  · have HAT := hid (show atI js day i from ⟨HI.out, by omega, fun h => by have := mono_lt HU.out (show i < i + 1 by omega) h; omega⟩)
    have HQ := hid (show x = rv js i by rw [← HX.out, onI_at HU.out HAT.out, onV, if_pos heq])
    have hb : decide (rd js i = day) = true := decide_eq_true heq
    rw [hb]
    obtain ⟨Q, hQ⟩ : ∃ D, rv js i = D := ⟨_, rfl⟩
    rw [hQ] at x2 HQ
    rw [heq] at x1
    clear heq hQ hb hB hdi
    go_wp2_with fail
    go_ret
    exact ⟨by rw [HQ.out]; rfl, B1.out⟩
  · have hlt : day < rd js i := by omega
    have hb : decide (rd js i = day) = false := decide_eq_false heq
    rw [hb]
    have hi1 : 1 ≤ i := by
      by_cases e : i = 0
      · rw [e] at hlt
        have := HAS.out.2.1
        omega
      · omega
    obtain ⟨j, hj⟩ : ∃ j, i = j + 1 := ⟨i - 1, by omega⟩
    have hjd := HLO.out j (by omega)
    have HAT := hid (show atI js day j from ⟨by have := HI.out; omega, by omega, fun _ => by rw [← hj]; exact hlt⟩)
    have HXV := hid (show x = rv js j + (rv js i - rv js j) * (day - rd js j) / (rd js i - rd js j) by rw [← HX.out, onI_at HU.out HAT.out, onV, if_neg (by omega), ← hj])
    have kl := okTd_out (HT.out j (by have := HI.out; omega))
    have ml := okTd_out (HT.out i HI.out)
    have mo : rv js j ≤ rv js i := by rw [hj]; exact (HU.out j (by have := HI.out; omega)).2
    have cj := hC.out j (by have := HI.out; omega)
    have y1 := (hB.cell (p := ⟨b, j * 2, none⟩) hbl).trans cj.1
    have y2 := (hB.cell (p := ⟨b, j * 2 + 1, none⟩) hbl).trans cj.2
    have ej : (i : Int) - 1 = (j : Int) := by omega
    have tj : IntKind.i64.wrap (j : Int) = (j : Int) := IntWalk.i64_in _ (by omega)
    have hj0 : (0 : Int) ≤ (j : Int) := by omega
    have hjn : (j : Int) < (n : Int) := by omega
    have hjn' : j < n := by omega
    obtain ⟨D, hD⟩ : ∃ D, rd js i = D := ⟨_, rfl⟩
    obtain ⟨E, hE⟩ : ∃ D, rv js i = D := ⟨_, rfl⟩
    obtain ⟨P, hP⟩ : ∃ D, rd js j = D := ⟨_, rfl⟩
    obtain ⟨Q, hQ⟩ : ∃ D, rv js j = D := ⟨_, rfl⟩
    rw [hD] at x1 heq hlt HXV ml hdi
    rw [hE] at x2 HXV ml mo
    rw [hP] at y1 hjd HXV kl
    rw [hQ] at y2 HXV kl mo
    have fb := frac_bd (d := E - Q) (k := day - P) (n := D - P) (by omega) (by omega) (by omega) (by omega)
    obtain ⟨f1, f2, f3, f4⟩ := fb
    have fd : (E - Q) * (D - P) ≤ 1000000000000 * 100000 := Int.mul_le_mul (by omega) (by omega) (by omega) (by omega)
    rw [Int.mul_comm (E - Q) (day - P)] at f1 f2 f3 f4 HXV
    have HO := hid (fun w => of_any (E - Q) (D - P) (day - P) f1 (by omega) (by omega) w)
    obtain ⟨u, hu⟩ : ∃ u, E - Q = u := ⟨_, rfl⟩
    obtain ⟨g, hg⟩ : ∃ u, day - P = u := ⟨_, rfl⟩
    obtain ⟨r, hr⟩ : ∃ u, D - P = u := ⟨_, rfl⟩
    rw [hu, hg, hr] at HO HXV f3 f4
    obtain ⟨q, hq⟩ : ∃ z, g * u / r = z := ⟨_, rfl⟩
    rw [hq] at HO HXV f3 f4
    have tu : IntKind.i64.wrap u = u := IntWalk.i64_in _ (by omega)
    have tg : IntKind.i64.wrap g = g := IntWalk.i64_in _ (by omega)
    have tr : IntKind.i64.wrap r = r := IntWalk.i64_in _ (by omega)
    have tz : IntKind.i64.wrap (Q + q) = Q + q := IntWalk.i64_in _ (by omega)
    have bl1 : b < w1.heap.size := Nat.lt_of_lt_of_le hbl hz1
    have SOF := hid (fun (v : World) (h : Below w1.heap.size w1 v) => And.intro ((h.cell (p := ⟨b, j * 2, none⟩) bl1).trans y1) (And.intro ((h.cell (p := ⟨b, j * 2 + 1, none⟩) bl1).trans y2) (And.intro ((h.cell (p := ⟨b, i * 2, none⟩) bl1).trans x1) ((h.cell (p := ⟨b, i * 2 + 1, none⟩) bl1).trans x2))))
    clear hD hE hP hQ heq hlt kl ml mo f1 f2 f3 f4 fd hq hB cj hjd hdi hb hj hi1
    go_upto_region 4 with fail
    go_cut [7, 8] (fun s7 s8 wx => ∃ (g7 g8 : Nat) (X : World), X = wx ∧ s7 = .pointer (some ⟨g7, 0, none⟩) ∧ s8 = .pointer (some ⟨g8, 0, none⟩) ∧ Row X g7 62 [.int .i64 P, .int .i64 Q] ∧ Row X g8 62 [.int .i64 D, .int .i64 E] ∧ Below w1.heap.size w1 X)
    case first =>
      have hb0 := Below.refl w1.heap.size w1
      go_region_held3 (fun w' : World => w'.cell? ⟨b, j * 2, none⟩ = some (.int .i64 P) ∧ w'.cell? ⟨b, j * 2 + 1, none⟩ = some (.int .i64 Q) ∧ w'.cell? ⟨b, i * 2, none⟩ = some (.int .i64 D) ∧ w'.cell? ⟨b, i * 2 + 1, none⟩ = some (.int .i64 E)) (exact SOF.out _ (by (repeat (first | assumption | refine Below.drew ?_ | refine Below.setCell ?_ (by first | omega | (simp; done) | (simp; omega)) _ | refine Below.alloc ?_ (by first | omega | (simp; done) | (simp; omega)) _)))) (fail)
      all_goals (go_wp2_with fail)
      all_goals go_meet
      all_goals exact ⟨_, _, _, rfl, rfl, rfl, by (repeat (first | exact Row.new _ _ _ | exact Row.new1 _ _ _ _ | apply Row.set2o | refine Row.alloc ?_ _ | refine Row.other ?_ (by first | omega | (simp; done) | (simp; omega)) _ | exact (Row.drewN (Row.new _ _ _) 1))), by (repeat (first | exact Row.new _ _ _ | exact Row.new1 _ _ _ _ | apply Row.set2o | refine Row.alloc ?_ _ | refine Row.other ?_ (by first | omega | (simp; done) | (simp; omega)) _ | exact (Row.drewN (Row.new _ _ _) 1))), by (repeat (first | assumption | refine Below.drew ?_ | refine Below.setCell ?_ (by first | omega | (simp; done) | (simp; omega)) _ | refine Below.alloc ?_ (by first | omega | (simp; done) | (simp; omega)) _))⟩
    case rest =>
      obtain ⟨g7, g8, X, rfl, rfl, rfl, r7, r8, hBX⟩ := hcut
      have b2 := hid (B1.out.trans (hBX.mono hz1))
      obtain ⟨X2, hX2⟩ : ∃ X2, X2 = X.alloc (.cells #[.int .i64 u, .int .i64 r] 25) := ⟨_, rfl⟩
      have bX2 : Below X.heap.size X X2 := by rw [hX2]; exact box2_bel _ _ _ _
      have r9 : Row X2 X.heap.size 25 [.int .i64 u, .int .i64 r] := by rw [hX2]; exact Row.new _ _ _
      have r72 := r7.below bX2 r7.lt
      have b3 := hid (b2.out.trans (bX2.mono b2.out.size))
      have HS0 := hid (held22 r72 r9 (Below.refl _ _).drew)
      have HO2 := hid (fun (w' : World) (h : (fun w' : World => Below X2.heap.size X2 w' ∧ w'.cell? ⟨g7, 0, none⟩ = some (.int .i64 P) ∧ w'.cell? ⟨g7, 1, none⟩ = some (.int .i64 Q) ∧ w'.cell? ⟨X.heap.size, 0, none⟩ = some (.int .i64 u) ∧ w'.cell? ⟨X.heap.size, 1, none⟩ = some (.int .i64 r)) w') => (HO.out w').mono fun e w'' ⟨he, hB⟩ => And.intro he (held22 r72 r9 (h.1.trans (hB.mono h.1.size))))
      have HX2 := hid hX2
      have k0 := r7.cell 0; have k1 := r7.cell 1; have k2 := r8.cell 0; have k3 := r8.cell 1
      simp only [List.getElem?_cons_zero, List.getElem?_cons_succ] at k0 k1 k2 k3
      clear r7 r8 r9 r72 bX2 hX2 hBX
      go_upto_region 6 with fail
      rw [← HX2.out]
      clear k0 k1 k2 k3
      go_region_held3 (fun w' : World => Below X2.heap.size X2 w' ∧ w'.cell? ⟨g7, 0, none⟩ = some (.int .i64 P) ∧ w'.cell? ⟨g7, 1, none⟩ = some (.int .i64 Q) ∧ w'.cell? ⟨X.heap.size, 0, none⟩ = some (.int .i64 u) ∧ w'.cell? ⟨X.heap.size, 1, none⟩ = some (.int .i64 r)) (first | assumption | exact HS0.out)
        ((go_at_call 58; refine (HO2.out _ (by assumption)).mono ?_; rintro e v ⟨rfl, hv⟩))
      go_wp2_with fail
      go_ret
      exact ⟨by rw [HXV.out]; rfl, b3.out.trans (hv.1.mono b3.out.size)⟩
end Go.Proofs.YtbefbkklompcjaaDoor
