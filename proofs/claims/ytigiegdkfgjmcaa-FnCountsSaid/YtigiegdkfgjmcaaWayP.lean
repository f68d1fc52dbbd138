/- The way between digits, and their order: the program's. -/
import Derived.Test.YtigiegdkfgjmcaaWayV
import Derived.Test.YtigiegdkfgjmcaaFloor
import Derived.Test.YtigiegdkfgjmcaaSizes
import Derived.Test.YtigiegdkfgjmcaaLawsD
namespace Go.Proofs.Ytigiegdkfgjmcaa
open Go.RowKit Go.Maps
set_option linter.unusedVariables false
theorem zeroI (w : World) : (zeroValue 2).run Try.prog w = .ok (.int .i64 0) w := by kernel_rfl
theorem OM.look {w : World} {g n : Nat} {M : DataW Unit} (h : OM w g n M) {key : Value} {l : Lit} (hk : keyOf Try.prog 28 key = some l) {x : Int} (hat : ∀ z, M.atKey l z = .lit (.int .i64 x)) :
    (Instr.lookup 66 (.map (some g)) key false).run Try.prog w = .ok (.int .i64 x) w := by
  obtain ⟨c, hrun, h2, _⟩ := World.ownsMap.lookup_int h digKeyed Try.mapDig Try.underlying2 (zeroI w) hk
  rw [hat] at h2
  simp only [DataW.lit.injEq, Lit.int.injEq, true_and] at h2
  rw [hrun, h2]
theorem OM.drew {w : World} {g n : Nat} {M : DataW Unit} (h : OM w g n M) : OM w.drew g n M := World.ownsMap.drew h
theorem valuesOf_any (b n cap bl : Nat) (zs : List Int) (d0 d1 d2 d3 d4 d5 d6 d7 e0 e1 e2 e3 e4 e5 e6 e7 : Int) (w : World) (hS : Stk w b zs) (hn : n = zs.length) (hd : Oct d0 d1 d2 d3 d4 d5 d6 d7) (he : Oct e0 e1 e2 e3 e4 e5 e6 e7) (hr : Row w bl 28 [.int .u8 d0, .int .u8 d1, .int .u8 d2, .int .u8 d3, .int .u8 d4, .int .u8 d5, .int .u8 d6, .int .u8 d7, .int .u8 e0, .int .u8 e1, .int .u8 e2, .int .u8 e3, .int .u8 e4, .int .u8 e5, .int .u8 e6, .int .u8 e7]) (l1 l2 : Lit) (hk1 : keyOf Try.prog 28 (.agg #[.int .u8 d0, .int .u8 d1, .int .u8 d2, .int .u8 d3, .int .u8 d4, .int .u8 d5, .int .u8 d6, .int .u8 d7]) = some l1) (hk2 : keyOf Try.prog 28 (.agg #[.int .u8 e0, .int .u8 e1, .int .u8 e2, .int .u8 e3, .int .u8 e4, .int .u8 e5, .int .u8 e6, .int .u8 e7]) = some l2) :
    Calls Try.prog 43 #[.slice (some ⟨b, 0, none⟩) n cap, .slice (some ⟨bl, 0, none⟩) 2 2] w (VoR w (okV zs [d0, d1, d2, d3, d4, d5, d6, d7] && okV zs [e0, e1, e2, e3, e4, e5, e6, e7]) l1 l2 (valL zs [d0, d1, d2, d3, d4, d5, d6, d7] n) (valL zs [e0, e1, e2, e3, e4, e5, e6, e7] n)) := by
  cases hv : okV zs [d0, d1, d2, d3, d4, d5, d6, d7] with
  | false => exact (valuesOf_no1 b n cap bl zs d0 d1 d2 d3 d4 d5 d6 d7 e0 e1 e2 e3 e4 e5 e6 e7 w hS hn hd hr hv).mono fun e w' h => ⟨h.2, .inr ⟨rfl, h.1⟩⟩
  | true => exact valuesOf_go b n cap bl zs d0 d1 d2 d3 d4 d5 d6 d7 e0 e1 e2 e3 e4 e5 e6 e7 w hS hn hd he hr hv l1 l2 hk1 hk2
/-- two loads, and the map that is made of them -/
def twoW (w : World) (d0 d1 d2 d3 d4 d5 d6 d7 e0 e1 e2 e3 e4 e5 e6 e7 : Int) : World := ((w.alloc (.cells #[.int .u8 d0, .int .u8 d1, .int .u8 d2, .int .u8 d3, .int .u8 d4, .int .u8 d5, .int .u8 d6, .int .u8 d7] 28)).alloc (.cells #[.int .u8 e0, .int .u8 e1, .int .u8 e2, .int .u8 e3, .int .u8 e4, .int .u8 e5, .int .u8 e6, .int .u8 e7] 28)).alloc (.cells #[.int .u8 d0, .int .u8 d1, .int .u8 d2, .int .u8 d3, .int .u8 d4, .int .u8 d5, .int .u8 d6, .int .u8 d7, .int .u8 e0, .int .u8 e1, .int .u8 e2, .int .u8 e3, .int .u8 e4, .int .u8 e5, .int .u8 e6, .int .u8 e7] 28)
def wayR (zs ds es : List Int) (n : Nat) : (Int × Int) × Int := if okV zs ds && okV zs es then (if sameD ds es then ((0, 0), 0) else (((valL zs es n - valL zs ds n) % szL zs, (valL zs es n - valL zs ds n) % szL zs - szL zs), 0)) else ((0, 0), 1)
def cmpD (zs ds es : List Int) (n : Nat) : Int × Int := if okV zs ds && okV zs es then (if sameD ds es then (0, 0) else (if valL zs ds n < valL zs es n then (-1, 0) else (1, 0))) else (0, 1)
theorem oc_row {w : World} {g : Nat} {d0 d1 d2 d3 d4 d5 d6 d7 : Int} (h : Row w g 28 [.int .u8 d0, .int .u8 d1, .int .u8 d2, .int .u8 d3, .int .u8 d4, .int .u8 d5, .int .u8 d6, .int .u8 d7]) : Oc w g d0 d1 d2 d3 d4 d5 d6 d7 := by
  refine ⟨?_, ?_, ?_, ?_, ?_, ?_, ?_, ?_⟩
  · exact h.cell 0
  · exact h.cell 1
  · exact h.cell 2
  · exact h.cell 3
  · exact h.cell 4
  · exact h.cell 5
  · exact h.cell 6
  · exact h.cell 7
set_option maxRecDepth 100000 in
set_option maxHeartbeats 2000000 in
theorem implWayTo_any (b n cap : Nat) (zs : List Int) (d0 d1 d2 d3 d4 d5 d6 d7 e0 e1 e2 e3 e4 e5 e6 e7 : Int) (w : World) (h : Stk w b zs) (hn : n = zs.length) (_ : n ≤ cap) (hd : Oct d0 d1 d2 d3 d4 d5 d6 d7) (he : Oct e0 e1 e2 e3 e4 e5 e6 e7) :
    Calls Try.prog 14 #[.slice (some ⟨b, 0, none⟩) n cap, .agg #[.int .u8 d0, .int .u8 d1, .int .u8 d2, .int .u8 d3, .int .u8 d4, .int .u8 d5, .int .u8 d6, .int .u8 d7], .agg #[.int .u8 e0, .int .u8 e1, .int .u8 e2, .int .u8 e3, .int .u8 e4, .int .u8 e5, .int .u8 e6, .int .u8 e7]] w fun e w' => e = .returned (.tuple #[.int .i64 (wayR zs [d0, d1, d2, d3, d4, d5, d6, d7] [e0, e1, e2, e3, e4, e5, e6, e7] n).1.1, .int .i64 (wayR zs [d0, d1, d2, d3, d4, d5, d6, d7] [e0, e1, e2, e3, e4, e5, e6, e7] n).1.2, .int .i64 (wayR zs [d0, d1, d2, d3, d4, d5, d6, d7] [e0, e1, e2, e3, e4, e5, e6, e7] n).2]) ∧ Below w.heap.size w w' := by
  obtain ⟨l1, hk1⟩ := keyD hd
  obtain ⟨l2, hk2⟩ := keyD he
  have B2 : Below w.heap.size w ((w.alloc (.cells #[.int .u8 d0, .int .u8 d1, .int .u8 d2, .int .u8 d3, .int .u8 d4, .int .u8 d5, .int .u8 d6, .int .u8 d7] 28)).alloc (.cells #[.int .u8 e0, .int .u8 e1, .int .u8 e2, .int .u8 e3, .int .u8 e4, .int .u8 e5, .int .u8 e6, .int .u8 e7] 28)) := ((Below.refl _ _).alloc (Nat.le_refl _) _).alloc (by simp) _
  have B3 : Below w.heap.size w (((w.alloc (.cells #[.int .u8 d0, .int .u8 d1, .int .u8 d2, .int .u8 d3, .int .u8 d4, .int .u8 d5, .int .u8 d6, .int .u8 d7] 28)).alloc (.cells #[.int .u8 e0, .int .u8 e1, .int .u8 e2, .int .u8 e3, .int .u8 e4, .int .u8 e5, .int .u8 e6, .int .u8 e7] 28)).alloc (.cells #[.int .u8 d0, .int .u8 d1, .int .u8 d2, .int .u8 d3, .int .u8 d4, .int .u8 d5, .int .u8 d6, .int .u8 d7, .int .u8 e0, .int .u8 e1, .int .u8 e2, .int .u8 e3, .int .u8 e4, .int .u8 e5, .int .u8 e6, .int .u8 e7] 28)) := B2.alloc (by simp; omega) _
  have rD := ((Row.new w 28 [.int .u8 d0, .int .u8 d1, .int .u8 d2, .int .u8 d3, .int .u8 d4, .int .u8 d5, .int .u8 d6, .int .u8 d7]).alloc (.cells #[.int .u8 e0, .int .u8 e1, .int .u8 e2, .int .u8 e3, .int .u8 e4, .int .u8 e5, .int .u8 e6, .int .u8 e7] 28)).alloc (.cells #[.int .u8 d0, .int .u8 d1, .int .u8 d2, .int .u8 d3, .int .u8 d4, .int .u8 d5, .int .u8 d6, .int .u8 d7, .int .u8 e0, .int .u8 e1, .int .u8 e2, .int .u8 e3, .int .u8 e4, .int .u8 e5, .int .u8 e6, .int .u8 e7] 28)
  have rE := (Row.new (w.alloc (.cells #[.int .u8 d0, .int .u8 d1, .int .u8 d2, .int .u8 d3, .int .u8 d4, .int .u8 d5, .int .u8 d6, .int .u8 d7] 28)) 28 [.int .u8 e0, .int .u8 e1, .int .u8 e2, .int .u8 e3, .int .u8 e4, .int .u8 e5, .int .u8 e6, .int .u8 e7]).alloc (.cells #[.int .u8 d0, .int .u8 d1, .int .u8 d2, .int .u8 d3, .int .u8 d4, .int .u8 d5, .int .u8 d6, .int .u8 d7, .int .u8 e0, .int .u8 e1, .int .u8 e2, .int .u8 e3, .int .u8 e4, .int .u8 e5, .int .u8 e6, .int .u8 e7] 28)
  have rL := Row.new ((w.alloc (.cells #[.int .u8 d0, .int .u8 d1, .int .u8 d2, .int .u8 d3, .int .u8 d4, .int .u8 d5, .int .u8 d6, .int .u8 d7] 28)).alloc (.cells #[.int .u8 e0, .int .u8 e1, .int .u8 e2, .int .u8 e3, .int .u8 e4, .int .u8 e5, .int .u8 e6, .int .u8 e7] 28)) 28 [.int .u8 d0, .int .u8 d1, .int .u8 d2, .int .u8 d3, .int .u8 d4, .int .u8 d5, .int .u8 d6, .int .u8 d7, .int .u8 e0, .int .u8 e1, .int .u8 e2, .int .u8 e3, .int .u8 e4, .int .u8 e5, .int .u8 e6, .int .u8 e7]
  simp only [World.size_alloc] at rE rL
  have HB := hid B3
  have RD := hid rD
  have RE := hid rE
  have hbs := h.1
  have HSt := hid h
  have HX := hid (valuesOf_any b n cap _ zs d0 d1 d2 d3 d4 d5 d6 d7 e0 e1 e2 e3 e4 e5 e6 e7 _ (h.below B3 h.1) hn hd he rL l1 l2 hk1 hk2)
  clear B2 B3 rD rE rL
  cases hv : (okV zs [d0, d1, d2, d3, d4, d5, d6, d7] && okV zs [e0, e1, e2, e3, e4, e5, e6, e7]) with
  | false =>
    have hR : wayR zs [d0, d1, d2, d3, d4, d5, d6, d7] [e0, e1, e2, e3, e4, e5, e6, e7] n = ((0, 0), 1) := by simp only [wayR, hv]; rfl
    rw [hR]
    rw [hv] at HX
    clear hR hv h hn hd he hk1 hk2
    go_enter Try.func14, Try.ntmps14
    go_wp2_with fail
    refine HX.out.mono ?_
    rintro e w1 ⟨hB1, hc⟩
    rcases hc with ⟨hf, _⟩ | ⟨_, rfl⟩
    · cases hf
    simp only [World.size_alloc] at hB1
    have b1 := hid (HB.out.trans (hB1.mono (by omega)))
    clear hB1
    go_wp2_with fail
    exact bodyPost_ret (v := .tuple #[.int .i64 0, .int .i64 0, .int .i64 1]) (by simp [results, Try.results14, go_sem]) rfl ⟨rfl, b1.out⟩
  | true =>
    have hvd : okV zs [d0, d1, d2, d3, d4, d5, d6, d7] = true := by cases hh : okV zs [d0, d1, d2, d3, d4, d5, d6, d7] <;> simp_all
    have hve : okV zs [e0, e1, e2, e3, e4, e5, e6, e7] = true := by cases hh : okV zs [e0, e1, e2, e3, e4, e5, e6, e7] <;> simp_all
    have HEQ := hid (fun w => eqlIn_dig d0 d1 d2 d3 d4 d5 d6 d7 e0 e1 e2 e3 e4 e5 e6 e7 w)
    rw [hv] at HX
    cases hs : sameD [d0, d1, d2, d3, d4, d5, d6, d7] [e0, e1, e2, e3, e4, e5, e6, e7] with
    | true =>
      have hR : wayR zs [d0, d1, d2, d3, d4, d5, d6, d7] [e0, e1, e2, e3, e4, e5, e6, e7] n = ((0, 0), 0) := by simp only [wayR, hv, hs]; rfl
      rw [hR]
      rw [hs] at HEQ
      clear hR hv h hn hd he hk1 hk2 hvd hve hs
      go_enter Try.func14, Try.ntmps14
      go_wp2_with fail
      refine HX.out.mono ?_
      rintro e w1 ⟨hB1, hc⟩
      rcases hc with ⟨_, g, rfl, hg, hM⟩ | ⟨hf, _⟩
      rotate_left
      · cases hf
      have rd1 := RD.out.below hB1 (by simp; omega)
      have re1 := RE.out.below hB1 (by simp)
      simp only [World.size_alloc] at hB1
      have b1 := hid (HB.out.trans (hB1.mono (by omega)))
      have p0 := rd1.cell 0
      have p1 := rd1.cell 1
      have p2 := rd1.cell 2
      have p3 := rd1.cell 3
      have p4 := rd1.cell 4
      have p5 := rd1.cell 5
      have p6 := rd1.cell 6
      have p7 := rd1.cell 7
      simp only [List.getElem?_cons_zero, List.getElem?_cons_succ] at p0 p1 p2 p3 p4 p5 p6 p7
      have q0 := re1.cell 0
      have q1 := re1.cell 1
      have q2 := re1.cell 2
      have q3 := re1.cell 3
      have q4 := re1.cell 4
      have q5 := re1.cell 5
      have q6 := re1.cell 6
      have q7 := re1.cell 7
      simp only [List.getElem?_cons_zero, List.getElem?_cons_succ] at q0 q1 q2 q3 q4 q5 q6 q7
      have hq := HEQ.out w1
      clear hB1 rd1 re1 hg hM
      go_wp2_with fail
      exact bodyPost_ret (v := .tuple #[.int .i64 0, .int .i64 0, .int .i64 0]) (by simp [results, Try.results14, go_sem]) rfl ⟨rfl, b1.out⟩
    | false =>
      obtain ⟨c1, c2⟩ := valuesOf_bd zs d0 d1 d2 d3 d4 d5 d6 d7 hd hvd n hn
      obtain ⟨c3, c4⟩ := valuesOf_bd zs e0 e1 e2 e3 e4 e5 e6 e7 he hve n hn
      have hR : wayR zs [d0, d1, d2, d3, d4, d5, d6, d7] [e0, e1, e2, e3, e4, e5, e6, e7] n = (((valL zs [e0, e1, e2, e3, e4, e5, e6, e7] n - valL zs [d0, d1, d2, d3, d4, d5, d6, d7] n) % szL zs, (valL zs [e0, e1, e2, e3, e4, e5, e6, e7] n - valL zs [d0, d1, d2, d3, d4, d5, d6, d7] n) % szL zs - szL zs), 0) := by simp only [wayR, hv, hs]; rfl
      rw [hR]
      rw [hs] at HEQ
      have hl12 : l1 ≠ l2 := fun e => by
        subst e
        have hab := digLaw.inj hk1 hk2
        simp only [Value.agg.injEq, Array.mk.injEq, List.cons.injEq, Value.int.injEq, true_and, and_true] at hab
        obtain ⟨rfl, rfl, rfl, rfl, rfl, rfl, rfl, rfl⟩ := hab
        have : sameD [d0, d1, d2, d3, d4, d5, d6, d7] [d0, d1, d2, d3, d4, d5, d6, d7] = true := sameD_of fun j hj => rfl
        rw [this] at hs
        cases hs
      have HK1 := hid hk1
      have HK2 := hid hk2
      have HL := hid hl12
      have hvL := (okV_out hvd).1
      obtain ⟨_, _, _, s1, s2⟩ := okL_out hvL
      have HSZ := hid (fun (w : World) (hS : Stk w b zs) => size_any b n cap zs hn hvL w hS)
      obtain ⟨x, hx⟩ : ∃ x, x = valL zs [d0, d1, d2, d3, d4, d5, d6, d7] n := ⟨_, rfl⟩
      obtain ⟨y, hy⟩ : ∃ x, x = valL zs [e0, e1, e2, e3, e4, e5, e6, e7] n := ⟨_, rfl⟩
      obtain ⟨S, hS⟩ : ∃ x, x = szL zs := ⟨_, rfl⟩
      rw [← hx, ← hy] at HX
      rw [← hx] at c1 c2
      rw [← hy] at c3 c4
      rw [← hS] at s1 s2 HSZ
      rw [← hx, ← hy, ← hS]
      have HF := hid (fun w => floorMod_any (y - x) S (by omega) (by omega) w)
      have m0 := Int.emod_nonneg (y - x) (show S ≠ 0 by omega)
      have m1 := Int.emod_lt_of_pos (y - x) (show 0 < S by omega)
      obtain ⟨f, hf⟩ : ∃ f, f = (y - x) % S := ⟨_, rfl⟩
      rw [← hf] at HF m0 m1 ⊢
      have wx : IntKind.i64.wrap (y - x) = y - x := IntWalk.i64_in _ (by omega)
      have wf : IntKind.i64.wrap (f - S) = f - S := IntWalk.i64_in _ (by omega)
      clear hR hv h hn hd he hk1 hk2 hvd hve hs hl12 hvL hx hy hS hf
      go_enter Try.func14, Try.ntmps14
      go_wp2_with fail
      refine HX.out.mono ?_
      rintro e w1 ⟨hB1, hc⟩
      rcases hc with ⟨_, g, rfl, hg, hM⟩ | ⟨hff, _⟩
      rotate_left
      · cases hff
      have rd1 := RD.out.below hB1 (by simp; omega)
      have re1 := RE.out.below hB1 (by simp)
      simp only [World.size_alloc] at hB1
      have b1 := hid (HB.out.trans (hB1.mono (by omega)))
      have z1 := b1.out.size
      have RD1 := hid rd1
      have RE1 := hid re1
      have HM := hid hM
      have p0 := rd1.cell 0
      have p1 := rd1.cell 1
      have p2 := rd1.cell 2
      have p3 := rd1.cell 3
      have p4 := rd1.cell 4
      have p5 := rd1.cell 5
      have p6 := rd1.cell 6
      have p7 := rd1.cell 7
      simp only [List.getElem?_cons_zero, List.getElem?_cons_succ] at p0 p1 p2 p3 p4 p5 p6 p7
      have q0 := re1.cell 0
      have q1 := re1.cell 1
      have q2 := re1.cell 2
      have q3 := re1.cell 3
      have q4 := re1.cell 4
      have q5 := re1.cell 5
      have q6 := re1.cell 6
      have q7 := re1.cell 7
      simp only [List.getElem?_cons_zero, List.getElem?_cons_succ] at q0 q1 q2 q3 q4 q5 q6 q7
      have hq := HEQ.out w1
      clear hB1 rd1 re1 hg hM
      go_wp2_with fail
      refine (HSZ.out _ (HSt.out.below b1.out hbs)).mono ?_
      rintro e w2 ⟨rfl, hB2⟩
      have RD2 := hid (RD1.out.below hB2 RD1.out.lt)
      have RE2 := hid (RE1.out.below hB2 RE1.out.lt)
      have HM2 := hid (HM.out.below hB2)
      have b2 := hid (b1.out.trans (hB2.mono z1))
      clear hB2 p0 q0 p1 q1 p2 q2 p3 q3 p4 q4 p5 q5 p6 q6 p7 q7
      go_wp2_with fail
      have rd2 : Row w2.drew w.heap.size 28 [.int .u8 d0, .int .u8 d1, .int .u8 d2, .int .u8 d3, .int .u8 d4, .int .u8 d5, .int .u8 d6, .int .u8 d7] := RD2.out.below (Below.refl w2.heap.size w2).drew RD2.out.lt
      have re2 : Row w2.drew (w.heap.size + 1) 28 [.int .u8 e0, .int .u8 e1, .int .u8 e2, .int .u8 e3, .int .u8 e4, .int .u8 e5, .int .u8 e6, .int .u8 e7] := RE2.out.below (Below.refl w2.heap.size w2).drew RE2.out.lt
      have k1 := (HM2.out.drew).look HK1.out (fun z => twoM_first HK1.out HL.out x y z)
      have k2 := (HM2.out.drew).look HK2.out (fun z => twoM_second HK2.out x y z)
      have a0 := rd2.cell 0
      have a1 := rd2.cell 1
      have a2 := rd2.cell 2
      have a3 := rd2.cell 3
      have a4 := rd2.cell 4
      have a5 := rd2.cell 5
      have a6 := rd2.cell 6
      have a7 := rd2.cell 7
      simp only [List.getElem?_cons_zero, List.getElem?_cons_succ] at a0 a1 a2 a3 a4 a5 a6 a7
      have c0' := re2.cell 0
      have c1' := re2.cell 1
      have c2' := re2.cell 2
      have c3' := re2.cell 3
      have c4' := re2.cell 4
      have c5' := re2.cell 5
      have c6' := re2.cell 6
      have c7' := re2.cell 7
      simp only [List.getElem?_cons_zero, List.getElem?_cons_succ] at c0' c1' c2' c3' c4' c5' c6' c7'
      go_region_held3 (fun w' => w'.cell? ⟨w.heap.size, 0, none⟩ = some (.int .u8 d0) ∧ w'.cell? ⟨w.heap.size, 1, none⟩ = some (.int .u8 d1) ∧ w'.cell? ⟨w.heap.size, 2, none⟩ = some (.int .u8 d2) ∧ w'.cell? ⟨w.heap.size, 3, none⟩ = some (.int .u8 d3) ∧ w'.cell? ⟨w.heap.size, 4, none⟩ = some (.int .u8 d4) ∧ w'.cell? ⟨w.heap.size, 5, none⟩ = some (.int .u8 d5) ∧ w'.cell? ⟨w.heap.size, 6, none⟩ = some (.int .u8 d6) ∧ w'.cell? ⟨w.heap.size, 7, none⟩ = some (.int .u8 d7) ∧ w'.cell? ⟨w.heap.size + 1, 0, none⟩ = some (.int .u8 e0) ∧ w'.cell? ⟨w.heap.size + 1, 1, none⟩ = some (.int .u8 e1) ∧ w'.cell? ⟨w.heap.size + 1, 2, none⟩ = some (.int .u8 e2) ∧ w'.cell? ⟨w.heap.size + 1, 3, none⟩ = some (.int .u8 e3) ∧ w'.cell? ⟨w.heap.size + 1, 4, none⟩ = some (.int .u8 e4) ∧ w'.cell? ⟨w.heap.size + 1, 5, none⟩ = some (.int .u8 e5) ∧ w'.cell? ⟨w.heap.size + 1, 6, none⟩ = some (.int .u8 e6) ∧ w'.cell? ⟨w.heap.size + 1, 7, none⟩ = some (.int .u8 e7) ∧ (Instr.lookup 66 (.map (some g)) (.agg #[.int .u8 d0, .int .u8 d1, .int .u8 d2, .int .u8 d3, .int .u8 d4, .int .u8 d5, .int .u8 d6, .int .u8 d7]) false).run Try.prog w' = .ok (.int .i64 x) w' ∧ (Instr.lookup 66 (.map (some g)) (.agg #[.int .u8 e0, .int .u8 e1, .int .u8 e2, .int .u8 e3, .int .u8 e4, .int .u8 e5, .int .u8 e6, .int .u8 e7]) false).run Try.prog w' = .ok (.int .i64 y) w') (exact ⟨a0, a1, a2, a3, a4, a5, a6, a7, c0', c1', c2', c3', c4', c5', c6', c7', k1, k2⟩)
        ((go_at_call 34; refine (HF.out _).mono ?_; rintro e w' ⟨rfl, rfl⟩))
      all_goals (try (go_wp2_with fail))
      all_goals exact bodyPost_ret (v := .tuple #[.int .i64 f, .int .i64 (f - S), .int .i64 0]) (by simp [results, Try.results14, go_sem]) rfl ⟨rfl, b2.out.drew⟩
end Go.Proofs.Ytigiegdkfgjmcaa
