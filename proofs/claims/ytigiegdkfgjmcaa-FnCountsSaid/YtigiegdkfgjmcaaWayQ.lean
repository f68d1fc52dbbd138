/- The way between digits, and their order: the model's. -/
import Derived.Test.YtigiegdkfgjmcaaCmpP
namespace Go.Proofs.Ytigiegdkfgjmcaa
open Go.RowKit
set_option linter.unusedVariables false
theorem val_same {zs ds es : List Int} (h : sameD ds es = true) : ∀ k, k ≤ 8 → valL zs ds k = valL zs es k
  | 0, _ => rfl
  | k + 1, hk => by simp only [valL]; rw [val_same h k (by omega), sameD_get h k (by omega)]
theorem same_iff {zs : List Int} {d0 d1 d2 d3 d4 d5 d6 d7 e0 e1 e2 e3 e4 e5 e6 e7 : Int} (hd : Oct d0 d1 d2 d3 d4 d5 d6 d7) (he : Oct e0 e1 e2 e3 e4 e5 e6 e7) (h1 : okV zs [d0, d1, d2, d3, d4, d5, d6, d7] = true) (h2 : okV zs [e0, e1, e2, e3, e4, e5, e6, e7] = true) (n : Nat) (hn : n = zs.length) : sameD [d0, d1, d2, d3, d4, d5, d6, d7] [e0, e1, e2, e3, e4, e5, e6, e7] = decide (valL zs [d0, d1, d2, d3, d4, d5, d6, d7] n = valL zs [e0, e1, e2, e3, e4, e5, e6, e7] n) := by
  subst hn
  obtain ⟨_, h8, _, _, _⟩ := okL_out (okV_out h1).1
  cases hs : sameD [d0, d1, d2, d3, d4, d5, d6, d7] [e0, e1, e2, e3, e4, e5, e6, e7] with
  | true => simp [val_same hs zs.length h8]
  | false => simp [val_ne h1 h2 (fun j hj => (oct_bd hd j hj).1) (fun j hj => (oct_bd he j hj).1) hs]
theorem way_more {zs ds es : List Int} {n : Nat} {x y S : Int} (h1 : okV zs ds = true) (h2 : okV zs es = true) (hs : sameD ds es = decide (valL zs ds n = valL zs es n)) (hx : valL zs ds n = x) (hy : valL zs es n = y) (hS : szL zs = S) (h : x < y) (h0 : 0 ≤ x) (h3 : y < S) : wayR zs ds es n = ((y - x, y - x - S), 0) := by
  have e : sameD ds es = false := by rw [hs, hx, hy]; simp; omega
  simp only [wayR, h1, h2, e, hx, hy, hS, Bool.and_self, if_true, Bool.false_eq_true, if_false]
  rw [Int.emod_eq_of_lt (by omega) (by omega)]
theorem way_less {zs ds es : List Int} {n : Nat} {x y S : Int} (h1 : okV zs ds = true) (h2 : okV zs es = true) (hs : sameD ds es = decide (valL zs ds n = valL zs es n)) (hx : valL zs ds n = x) (hy : valL zs es n = y) (hS : szL zs = S) (h : y < x) (h0 : 0 ≤ y) (h3 : x < S) : wayR zs ds es n = ((y - x + S, y - x), 0) := by
  have e : sameD ds es = false := by rw [hs, hx, hy]; simp; omega
  have e2 : (y - x) % S = y - x + S := by rw [← Int.add_emod_right, Int.emod_eq_of_lt (by omega) (by omega)]
  simp only [wayR, h1, h2, e, hx, hy, hS, Bool.and_self, if_true, Bool.false_eq_true, if_false]
  rw [e2, show y - x + S - S = y - x by omega]
theorem way_none {zs ds es : List Int} {n : Nat} {x y : Int} (h1 : okV zs ds = true) (h2 : okV zs es = true) (hs : sameD ds es = decide (valL zs ds n = valL zs es n)) (hx : valL zs ds n = x) (hy : valL zs es n = y) (h : x = y) : wayR zs ds es n = ((0, 0), 0) := by
  have e : sameD ds es = true := by rw [hs, hx, hy, h]; simp
  simp only [wayR, h1, h2, e, Bool.and_self, if_true]
theorem cmp_three {zs ds es : List Int} {n : Nat} {x y : Int} (h1 : okV zs ds = true) (h2 : okV zs es = true) (hs : sameD ds es = decide (valL zs ds n = valL zs es n)) (hx : valL zs ds n = x) (hy : valL zs es n = y) : cmpD zs ds es n = if x < y then (-1, 0) else if y < x then (1, 0) else (0, 0) := by
  simp only [cmpD, h1, h2, hs, hx, hy, Bool.and_self, if_true, decide_eq_true_eq]
  by_cases h : x < y
  · rw [if_neg (by omega), if_pos h, if_pos h]
  · by_cases h' : y < x
    · rw [if_neg (by omega), if_neg h, if_neg h, if_pos h']
    · rw [if_pos (by omega), if_neg h, if_neg h']
theorem not_both {a b : Bool} (h : a = false ∨ b = false) : (a && b) = false := by rcases h with rfl | rfl <;> simp
theorem val_lt {zs : List Int} {d0 d1 d2 d3 d4 d5 d6 d7 : Int} (hd : Oct d0 d1 d2 d3 d4 d5 d6 d7) (hv : okV zs [d0, d1, d2, d3, d4, d5, d6, d7] = true) (n : Nat) (hn : n = zs.length) : valL zs [d0, d1, d2, d3, d4, d5, d6, d7] n < szL zs := by
  subst hn
  obtain ⟨_, h8, hin, hs1, hs2⟩ := okL_out (okV_out hv).1
  have bV := valL_bd zs [d0, d1, d2, d3, d4, d5, d6, d7] zs.length (Nat.le_refl _) hin (okD_lt (okV_out hv).2 h8 (fun j hj => (oct_bd hd j hj).1))
  rw [List.take_length] at bV
  exact bV.2
theorem sq_keep {w2 w' : World} {a b : Nat} {d0 d1 d2 d3 d4 d5 d6 d7 e0 e1 e2 e3 e4 e5 e6 e7 : Int} (rd : Row w2 a 28 [.int .u8 d0, .int .u8 d1, .int .u8 d2, .int .u8 d3, .int .u8 d4, .int .u8 d5, .int .u8 d6, .int .u8 d7]) (re : Row w2 b 28 [.int .u8 e0, .int .u8 e1, .int .u8 e2, .int .u8 e3, .int .u8 e4, .int .u8 e5, .int .u8 e6, .int .u8 e7]) (h : Below w2.heap.size w2 w') : Below w2.heap.size w2 w' ∧ w'.cell? ⟨a, 0, none⟩ = some (.int .u8 d0) ∧ w'.cell? ⟨a, 1, none⟩ = some (.int .u8 d1) ∧ w'.cell? ⟨a, 2, none⟩ = some (.int .u8 d2) ∧ w'.cell? ⟨a, 3, none⟩ = some (.int .u8 d3) ∧ w'.cell? ⟨a, 4, none⟩ = some (.int .u8 d4) ∧ w'.cell? ⟨a, 5, none⟩ = some (.int .u8 d5) ∧ w'.cell? ⟨a, 6, none⟩ = some (.int .u8 d6) ∧ w'.cell? ⟨a, 7, none⟩ = some (.int .u8 d7) ∧ w'.cell? ⟨b, 0, none⟩ = some (.int .u8 e0) ∧ w'.cell? ⟨b, 1, none⟩ = some (.int .u8 e1) ∧ w'.cell? ⟨b, 2, none⟩ = some (.int .u8 e2) ∧ w'.cell? ⟨b, 3, none⟩ = some (.int .u8 e3) ∧ w'.cell? ⟨b, 4, none⟩ = some (.int .u8 e4) ∧ w'.cell? ⟨b, 5, none⟩ = some (.int .u8 e5) ∧ w'.cell? ⟨b, 6, none⟩ = some (.int .u8 e6) ∧ w'.cell? ⟨b, 7, none⟩ = some (.int .u8 e7) := by
  have rd' := rd.below h rd.lt
  have re' := re.below h re.lt
  exact ⟨h, rd'.cell 0, rd'.cell 1, rd'.cell 2, rd'.cell 3, rd'.cell 4, rd'.cell 5, rd'.cell 6, rd'.cell 7, re'.cell 0, re'.cell 1, re'.cell 2, re'.cell 3, re'.cell 4, re'.cell 5, re'.cell 6, re'.cell 7⟩
set_option maxRecDepth 100000 in
set_option maxHeartbeats 2000000 in
theorem specWayTo_any (b n cap : Nat) (zs : List Int) (d0 d1 d2 d3 d4 d5 d6 d7 e0 e1 e2 e3 e4 e5 e6 e7 : Int) (w : World) (h : Stk w b zs) (hn : n = zs.length) (_ : n ≤ cap) (hd : Oct d0 d1 d2 d3 d4 d5 d6 d7) (he : Oct e0 e1 e2 e3 e4 e5 e6 e7) :
    Calls Try.prog 15 #[.slice (some ⟨b, 0, none⟩) n cap, .agg #[.int .u8 d0, .int .u8 d1, .int .u8 d2, .int .u8 d3, .int .u8 d4, .int .u8 d5, .int .u8 d6, .int .u8 d7], .agg #[.int .u8 e0, .int .u8 e1, .int .u8 e2, .int .u8 e3, .int .u8 e4, .int .u8 e5, .int .u8 e6, .int .u8 e7]] w fun e w' => e = .returned (.tuple #[.int .i64 (wayR zs [d0, d1, d2, d3, d4, d5, d6, d7] [e0, e1, e2, e3, e4, e5, e6, e7] n).1.1, .int .i64 (wayR zs [d0, d1, d2, d3, d4, d5, d6, d7] [e0, e1, e2, e3, e4, e5, e6, e7] n).1.2, .int .i64 (wayR zs [d0, d1, d2, d3, d4, d5, d6, d7] [e0, e1, e2, e3, e4, e5, e6, e7] n).2]) ∧ Below w.heap.size w w' := by
  obtain ⟨W, hW⟩ : ∃ W, W = (w.alloc (.cells #[.int .u8 d0, .int .u8 d1, .int .u8 d2, .int .u8 d3, .int .u8 d4, .int .u8 d5, .int .u8 d6, .int .u8 d7] 28)).alloc (.cells #[.int .u8 e0, .int .u8 e1, .int .u8 e2, .int .u8 e3, .int .u8 e4, .int .u8 e5, .int .u8 e6, .int .u8 e7] 28) := ⟨_, rfl⟩
  have B2 : Below w.heap.size w W := by rw [hW]; exact ((Below.refl _ _).alloc (Nat.le_refl _) _).alloc (by simp) _
  have rD : Row W w.heap.size 28 [.int .u8 d0, .int .u8 d1, .int .u8 d2, .int .u8 d3, .int .u8 d4, .int .u8 d5, .int .u8 d6, .int .u8 d7] := by rw [hW]; exact (Row.new w 28 [.int .u8 d0, .int .u8 d1, .int .u8 d2, .int .u8 d3, .int .u8 d4, .int .u8 d5, .int .u8 d6, .int .u8 d7]).alloc (.cells #[.int .u8 e0, .int .u8 e1, .int .u8 e2, .int .u8 e3, .int .u8 e4, .int .u8 e5, .int .u8 e6, .int .u8 e7] 28)
  have rE : Row W (w.heap.size + 1) 28 [.int .u8 e0, .int .u8 e1, .int .u8 e2, .int .u8 e3, .int .u8 e4, .int .u8 e5, .int .u8 e6, .int .u8 e7] := by
    have h := Row.new (w.alloc (.cells #[.int .u8 d0, .int .u8 d1, .int .u8 d2, .int .u8 d3, .int .u8 d4, .int .u8 d5, .int .u8 d6, .int .u8 d7] 28)) 28 [.int .u8 e0, .int .u8 e1, .int .u8 e2, .int .u8 e3, .int .u8 e4, .int .u8 e5, .int .u8 e6, .int .u8 e7]
    simp only [World.size_alloc] at h
    rw [hW]; exact h
  have HB := hid B2
  have RD := hid rD
  have RE := hid rE
  have hbs := h.1
  have HW := hid hW
  have HSt := hid h
  have H1 := hid (fun (w : World) (hS : Stk w b zs) => specValidDigits_any b n cap zs d0 d1 d2 d3 d4 d5 d6 d7 w hS hn hd)
  have H2 := hid (fun (w : World) (hS : Stk w b zs) => specValidDigits_any b n cap zs e0 e1 e2 e3 e4 e5 e6 e7 w hS hn he)
  have a0 := RD.out.cell 0
  have a1 := RD.out.cell 1
  have a2 := RD.out.cell 2
  have a3 := RD.out.cell 3
  have a4 := RD.out.cell 4
  have a5 := RD.out.cell 5
  have a6 := RD.out.cell 6
  have a7 := RD.out.cell 7
  simp only [List.getElem?_cons_zero, List.getElem?_cons_succ] at a0 a1 a2 a3 a4 a5 a6 a7
  have g0 := RE.out.cell 0
  have g1 := RE.out.cell 1
  have g2 := RE.out.cell 2
  have g3 := RE.out.cell 3
  have g4 := RE.out.cell 4
  have g5 := RE.out.cell 5
  have g6 := RE.out.cell 6
  have g7 := RE.out.cell 7
  simp only [List.getElem?_cons_zero, List.getElem?_cons_succ] at g0 g1 g2 g3 g4 g5 g6 g7
  clear B2 rD rE hW
  cases hv : okV zs [d0, d1, d2, d3, d4, d5, d6, d7] with
  | false =>
    have hR : wayR zs [d0, d1, d2, d3, d4, d5, d6, d7] [e0, e1, e2, e3, e4, e5, e6, e7] n = ((0, 0), 1) := by simp only [wayR]; rw [not_both (.inl hv)]; rfl
    rw [hR]
    rw [hv] at H1
    clear hR hv h hn hd he
    go_enter Try.func15, Try.ntmps15
    go_wp2_with fail
    rw [← HW.out]
    refine (H1.out _ (HSt.out.below HB.out hbs)).mono ?_
    rintro e w1 ⟨rfl, hB1⟩
    have b1 := hid (HB.out.trans (hB1.mono HB.out.size))
    clear hB1
    go_wp2_with fail
    go_ret3
    exact ⟨rfl, b1.out⟩
  | true =>
    cases hv2 : okV zs [e0, e1, e2, e3, e4, e5, e6, e7] with
    | false =>
      have hR : wayR zs [d0, d1, d2, d3, d4, d5, d6, d7] [e0, e1, e2, e3, e4, e5, e6, e7] n = ((0, 0), 1) := by simp only [wayR]; rw [not_both (.inr hv2)]; rfl
      rw [hR]
      rw [hv] at H1
      rw [hv2] at H2
      clear hR hv hv2 h hn hd he
      go_enter Try.func15, Try.ntmps15
      go_wp2_with fail
      rw [← HW.out]
      refine (H1.out _ (HSt.out.below HB.out hbs)).mono ?_
      rintro e w1 ⟨rfl, hB1⟩
      have re1 := RE.out.below hB1 RE.out.lt
      have b1 := hid (HB.out.trans (hB1.mono HB.out.size))
      have q0 := re1.cell 0
      have q1 := re1.cell 1
      have q2 := re1.cell 2
      have q3 := re1.cell 3
      have q4 := re1.cell 4
      have q5 := re1.cell 5
      have q6 := re1.cell 6
      have q7 := re1.cell 7
      simp only [List.getElem?_cons_zero, List.getElem?_cons_succ] at q0 q1 q2 q3 q4 q5 q6 q7
      clear hB1 re1
      go_wp2_with fail
      refine (H2.out _ (HSt.out.below b1.out hbs)).mono ?_
      rintro e w2 ⟨rfl, hB2⟩
      have b2 := hid (b1.out.trans (hB2.mono b1.out.size))
      clear hB2
      go_wp2_with fail
      go_ret3
      exact ⟨rfl, b2.out⟩
    | true =>
      have hsm := same_iff hd he hv hv2 n hn
      obtain ⟨c1, c2⟩ := valuesOf_bd zs d0 d1 d2 d3 d4 d5 d6 d7 hd hv n hn
      obtain ⟨c3, c4⟩ := valuesOf_bd zs e0 e1 e2 e3 e4 e5 e6 e7 he hv2 n hn
      have HVD := hid (fun (w : World) (hS : Stk w b zs) => l01Value_ok b n cap zs d0 d1 d2 d3 d4 d5 d6 d7 hd hv (by omega) w hS)
      have HVE := hid (fun (w : World) (hS : Stk w b zs) => l01Value_ok b n cap zs e0 e1 e2 e3 e4 e5 e6 e7 he hv2 (by omega) w hS)
      have c5 := val_lt hd hv n hn
      have c6 := val_lt he hv2 n hn
      have hvL := (okV_out hv).1
      obtain ⟨_, _, _, s1, s2⟩ := okL_out hvL
      have HSZ := hid (fun (w : World) (hS : Stk w b zs) => l01Size_ok b n cap zs w hS hn hvL)
      have HV1 := hid hv
      have HV2 := hid hv2
      have HSM := hid hsm
      obtain ⟨x, hx⟩ : ∃ x, valL zs [d0, d1, d2, d3, d4, d5, d6, d7] n = x := ⟨_, rfl⟩
      obtain ⟨y, hy⟩ : ∃ x, valL zs [e0, e1, e2, e3, e4, e5, e6, e7] n = x := ⟨_, rfl⟩
      obtain ⟨S, hS⟩ : ∃ x, szL zs = x := ⟨_, rfl⟩
      have HXx := hid hx
      have HYy := hid hy
      have HSs := hid hS
      rw [hx] at c1 c2 c5 HVD
      rw [hy] at c3 c4 c6 HVE
      rw [hS] at c5 c6 s1 s2 HSZ
      rw [hv] at H1
      rw [hv2] at H2
      have wn : IntKind.i64.wrap (y - x) = y - x := IntWalk.i64_in _ (by omega)
      have wn2 : IntKind.i64.wrap (y - x - S) = y - x - S := IntWalk.i64_in _ (by omega)
      have wn3 : IntKind.i64.wrap (y - x + S) = y - x + S := IntWalk.i64_in _ (by omega)
      clear hv hv2 h hn hd he hsm hvL hx hy hS
      go_enter Try.func15, Try.ntmps15
      go_wp2_with fail
      rw [← HW.out]
      refine (H1.out _ (HSt.out.below HB.out hbs)).mono ?_
      rintro e w1 ⟨rfl, hB1⟩
      have re1 := RE.out.below hB1 RE.out.lt
      have rd1 := RD.out.below hB1 RD.out.lt
      have RD1 := hid rd1
      have RE1 := hid re1
      have b1 := hid (HB.out.trans (hB1.mono HB.out.size))
      have q0 := re1.cell 0
      have q1 := re1.cell 1
      have q2 := re1.cell 2
      have q3 := re1.cell 3
      have q4 := re1.cell 4
      have q5 := re1.cell 5
      have q6 := re1.cell 6
      have q7 := re1.cell 7
      simp only [List.getElem?_cons_zero, List.getElem?_cons_succ] at q0 q1 q2 q3 q4 q5 q6 q7
      clear hB1 re1 rd1
      go_wp2_with fail
      refine (H2.out _ (HSt.out.below b1.out hbs)).mono ?_
      rintro e w2 ⟨rfl, hB2⟩
      have rd2 := RD1.out.below hB2 RD1.out.lt
      have re2 := RE1.out.below hB2 RE1.out.lt
      have RD2 := hid rd2
      have RE2 := hid re2
      have b2 := hid (b1.out.trans (hB2.mono b1.out.size))
      have z2 := b2.out.size
      clear hB2 q0 a0 g0 q1 a1 g1 q2 a2 g2 q3 a3 g3 q4 a4 g4 q5 a5 g5 q6 a6 g6 q7 a7 g7
      have S0 : (fun w' : World => Below w2.heap.size w2 w' ∧ w'.cell? ⟨w.heap.size, 0, none⟩ = some (.int .u8 d0) ∧ w'.cell? ⟨w.heap.size, 1, none⟩ = some (.int .u8 d1) ∧ w'.cell? ⟨w.heap.size, 2, none⟩ = some (.int .u8 d2) ∧ w'.cell? ⟨w.heap.size, 3, none⟩ = some (.int .u8 d3) ∧ w'.cell? ⟨w.heap.size, 4, none⟩ = some (.int .u8 d4) ∧ w'.cell? ⟨w.heap.size, 5, none⟩ = some (.int .u8 d5) ∧ w'.cell? ⟨w.heap.size, 6, none⟩ = some (.int .u8 d6) ∧ w'.cell? ⟨w.heap.size, 7, none⟩ = some (.int .u8 d7) ∧ w'.cell? ⟨w.heap.size + 1, 0, none⟩ = some (.int .u8 e0) ∧ w'.cell? ⟨w.heap.size + 1, 1, none⟩ = some (.int .u8 e1) ∧ w'.cell? ⟨w.heap.size + 1, 2, none⟩ = some (.int .u8 e2) ∧ w'.cell? ⟨w.heap.size + 1, 3, none⟩ = some (.int .u8 e3) ∧ w'.cell? ⟨w.heap.size + 1, 4, none⟩ = some (.int .u8 e4) ∧ w'.cell? ⟨w.heap.size + 1, 5, none⟩ = some (.int .u8 e5) ∧ w'.cell? ⟨w.heap.size + 1, 6, none⟩ = some (.int .u8 e6) ∧ w'.cell? ⟨w.heap.size + 1, 7, none⟩ = some (.int .u8 e7)) w2.drew := sq_keep RD2.out RE2.out (Below.refl w2.heap.size w2).drew
      have HS0 := hid S0
      have HA := hid (fun (w' : World) (h : (fun w' : World => Below w2.heap.size w2 w' ∧ w'.cell? ⟨w.heap.size, 0, none⟩ = some (.int .u8 d0) ∧ w'.cell? ⟨w.heap.size, 1, none⟩ = some (.int .u8 d1) ∧ w'.cell? ⟨w.heap.size, 2, none⟩ = some (.int .u8 d2) ∧ w'.cell? ⟨w.heap.size, 3, none⟩ = some (.int .u8 d3) ∧ w'.cell? ⟨w.heap.size, 4, none⟩ = some (.int .u8 d4) ∧ w'.cell? ⟨w.heap.size, 5, none⟩ = some (.int .u8 d5) ∧ w'.cell? ⟨w.heap.size, 6, none⟩ = some (.int .u8 d6) ∧ w'.cell? ⟨w.heap.size, 7, none⟩ = some (.int .u8 d7) ∧ w'.cell? ⟨w.heap.size + 1, 0, none⟩ = some (.int .u8 e0) ∧ w'.cell? ⟨w.heap.size + 1, 1, none⟩ = some (.int .u8 e1) ∧ w'.cell? ⟨w.heap.size + 1, 2, none⟩ = some (.int .u8 e2) ∧ w'.cell? ⟨w.heap.size + 1, 3, none⟩ = some (.int .u8 e3) ∧ w'.cell? ⟨w.heap.size + 1, 4, none⟩ = some (.int .u8 e4) ∧ w'.cell? ⟨w.heap.size + 1, 5, none⟩ = some (.int .u8 e5) ∧ w'.cell? ⟨w.heap.size + 1, 6, none⟩ = some (.int .u8 e6) ∧ w'.cell? ⟨w.heap.size + 1, 7, none⟩ = some (.int .u8 e7)) w') => (HVE.out w' (HSt.out.below (b2.out.trans (h.1.mono z2)) hbs)).mono fun e w'' ⟨he, hB⟩ => And.intro he (sq_keep RD2.out RE2.out (h.1.trans (hB.mono h.1.size))))
      have HC := hid (fun (w' : World) (h : (fun w' : World => Below w2.heap.size w2 w' ∧ w'.cell? ⟨w.heap.size, 0, none⟩ = some (.int .u8 d0) ∧ w'.cell? ⟨w.heap.size, 1, none⟩ = some (.int .u8 d1) ∧ w'.cell? ⟨w.heap.size, 2, none⟩ = some (.int .u8 d2) ∧ w'.cell? ⟨w.heap.size, 3, none⟩ = some (.int .u8 d3) ∧ w'.cell? ⟨w.heap.size, 4, none⟩ = some (.int .u8 d4) ∧ w'.cell? ⟨w.heap.size, 5, none⟩ = some (.int .u8 d5) ∧ w'.cell? ⟨w.heap.size, 6, none⟩ = some (.int .u8 d6) ∧ w'.cell? ⟨w.heap.size, 7, none⟩ = some (.int .u8 d7) ∧ w'.cell? ⟨w.heap.size + 1, 0, none⟩ = some (.int .u8 e0) ∧ w'.cell? ⟨w.heap.size + 1, 1, none⟩ = some (.int .u8 e1) ∧ w'.cell? ⟨w.heap.size + 1, 2, none⟩ = some (.int .u8 e2) ∧ w'.cell? ⟨w.heap.size + 1, 3, none⟩ = some (.int .u8 e3) ∧ w'.cell? ⟨w.heap.size + 1, 4, none⟩ = some (.int .u8 e4) ∧ w'.cell? ⟨w.heap.size + 1, 5, none⟩ = some (.int .u8 e5) ∧ w'.cell? ⟨w.heap.size + 1, 6, none⟩ = some (.int .u8 e6) ∧ w'.cell? ⟨w.heap.size + 1, 7, none⟩ = some (.int .u8 e7)) w') => (HVD.out w' (HSt.out.below (b2.out.trans (h.1.mono z2)) hbs)).mono fun e w'' ⟨he, hB⟩ => And.intro he (sq_keep RD2.out RE2.out (h.1.trans (hB.mono h.1.size))))
      clear S0 rd2 re2
      go_wp2_with fail
      go_region_held3 (fun w' : World => Below w2.heap.size w2 w' ∧ w'.cell? ⟨w.heap.size, 0, none⟩ = some (.int .u8 d0) ∧ w'.cell? ⟨w.heap.size, 1, none⟩ = some (.int .u8 d1) ∧ w'.cell? ⟨w.heap.size, 2, none⟩ = some (.int .u8 d2) ∧ w'.cell? ⟨w.heap.size, 3, none⟩ = some (.int .u8 d3) ∧ w'.cell? ⟨w.heap.size, 4, none⟩ = some (.int .u8 d4) ∧ w'.cell? ⟨w.heap.size, 5, none⟩ = some (.int .u8 d5) ∧ w'.cell? ⟨w.heap.size, 6, none⟩ = some (.int .u8 d6) ∧ w'.cell? ⟨w.heap.size, 7, none⟩ = some (.int .u8 d7) ∧ w'.cell? ⟨w.heap.size + 1, 0, none⟩ = some (.int .u8 e0) ∧ w'.cell? ⟨w.heap.size + 1, 1, none⟩ = some (.int .u8 e1) ∧ w'.cell? ⟨w.heap.size + 1, 2, none⟩ = some (.int .u8 e2) ∧ w'.cell? ⟨w.heap.size + 1, 3, none⟩ = some (.int .u8 e3) ∧ w'.cell? ⟨w.heap.size + 1, 4, none⟩ = some (.int .u8 e4) ∧ w'.cell? ⟨w.heap.size + 1, 5, none⟩ = some (.int .u8 e5) ∧ w'.cell? ⟨w.heap.size + 1, 6, none⟩ = some (.int .u8 e6) ∧ w'.cell? ⟨w.heap.size + 1, 7, none⟩ = some (.int .u8 e7)) (first | assumption | exact HS0.out)
        ((first | (go_at_call 40; with_reducible refine (HA.out _ (by assumption)).mono ?_; rintro e v ⟨rfl, hv⟩) | (go_at_call 40; with_reducible refine (HC.out _ (by assumption)).mono ?_; rintro e v ⟨rfl, hv⟩)))
      have b3 := hid (b2.out.trans (hv.1.mono z2))
      have HZ := hid (HSZ.out _ (HSt.out.below b3.out hbs))
      clear hv
      by_cases hxy : x < y
      · have HR := hid (way_more HV1.out HV2.out HSM.out HXx.out HYy.out HSs.out hxy c1 c6)
        have g1 : (0 : Int) < y - x := by omega
        clear hxy
        go_wp2_with fail
        refine HZ.out.mono ?_
        rintro e w' ⟨rfl, rfl⟩
        go_wp2_with fail
        exact bodyPost_ret (v := .tuple #[.int .i64 (y - x), .int .i64 (y - x - S), .int .i64 0]) (by simp [results, Try.results15, go_sem]) rfl ⟨by rw [HR.out], b3.out⟩
      · by_cases hyx : y < x
        · have HR := hid (way_less HV1.out HV2.out HSM.out HXx.out HYy.out HSs.out hyx c3 c5)
          have g1 : y - x < (0 : Int) := by omega
          have g2 : y - x ≤ (0 : Int) := by omega
          clear hxy hyx
          go_wp2_with fail
          refine HZ.out.mono ?_
          rintro e w' ⟨rfl, rfl⟩
          go_wp2_with fail
          exact bodyPost_ret (v := .tuple #[.int .i64 (y - x + S), .int .i64 (y - x), .int .i64 0]) (by simp [results, Try.results15, go_sem]) rfl ⟨by rw [HR.out], b3.out⟩
        · have HR := hid (way_none HV1.out HV2.out HSM.out HXx.out HYy.out (show x = y by omega))
          have g1 : y - x = (0 : Int) := by omega
          clear hxy hyx
          go_wp2_with fail
          exact bodyPost_ret (v := .tuple #[.int .i64 0, .int .i64 0, .int .i64 0]) (by simp [results, Try.results15, go_sem]) rfl ⟨by rw [HR.out], b3.out⟩
end Go.Proofs.Ytigiegdkfgjmcaa
