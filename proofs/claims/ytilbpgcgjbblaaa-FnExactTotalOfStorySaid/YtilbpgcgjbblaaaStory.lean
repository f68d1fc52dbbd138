/- Stories: two lists and a number, copied, held against each other. -/
import Derived.Test.YtilbpgcgjbblaaaSame
import Derived.Test.YtilbpgcgjbblaaaInts
import Derived.Test.YtilbpgcgjbblaaaRatio
import Derived.Test.YtilbpgcgjbblaaaOpenR
import Derived.Lib.SmallJoins
import Derived.Deep.RegionHeld3
namespace Go.Proofs.Ytilbpgcgjbblaaa
open Go.RowKit Go.ChangeShapes Go.WideShapes Go.ChangeAt
theorem cell_far2 {W : World} {a p : Addr} {u : Value} (h : p.block ≠ a.block) : (W.setCell a u).cell? p = W.cell? p := World.cell?_of_block (Below.heap_setCell W a u p.block h)
theorem box3_bel (w : World) (T : TypeId) (x y z : Value) : Below w.heap.size w (w.alloc (.cells #[x, y, z] T)) := (Below.refl _ w).alloc (Nat.le_refl _) _
/-- a copy of a story -/
def YoR (w : World) (zs ys : List Int) (len len' : Nat) (c : Int) (e : Ending) (w' : World) : Prop :=
  ∃ B G, e = .returned (.agg #[.slice (some ⟨B, 0, none⟩) len len, .slice (some ⟨G, 0, none⟩) len' len', .int .i64 c]) ∧ Below w.heap.size w w' ∧ Lst w' B zs ∧ Lst w' G ys
set_option maxHeartbeats 2000000 in
theorem toStory_any (a : Option Addr) (len cap : Nat) (zs : List Int) (a' : Option Addr) (len' cap' : Nat) (ys : List Int) (c : Int) (w : World) (h : InI w a len zs) (h' : InI w a' len' ys) (hl : len ≤ 1048576) (hl' : len' ≤ 1048576) :
    Calls Try.prog 16 #[.agg #[.slice a len cap, .slice a' len' cap', .int .i64 c]] w (YoR w zs ys len len' c) := by
  have bel : Below w.heap.size w (((w.alloc (.cells #[.slice a len cap, .slice a' len' cap', .int .i64 c] 38)).alloc (.cells #[.slice none 0 0, .slice none 0 0, .int .i64 0] 44)).alloc (.cells #[.slice none 0 0, .slice none 0 0, .int .i64 0] 44)) := (((Below.refl _ w).alloc (Nat.le_refl _) _).alloc (by simp) _).alloc (by simp; omega) _
  have rA := hid (((Row.new w 38 [.slice a len cap, .slice a' len' cap', .int .i64 c]).alloc (.cells #[.slice none 0 0, .slice none 0 0, .int .i64 0] 44)).alloc (.cells #[.slice none 0 0, .slice none 0 0, .int .i64 0] 44))
  have r1 := (Row.new (w.alloc (.cells #[.slice a len cap, .slice a' len' cap', .int .i64 c] 38)) 44 [.slice none 0 0, .slice none 0 0, .int .i64 0]).alloc (.cells #[.slice none 0 0, .slice none 0 0, .int .i64 0] 44)
  have r2 := Row.new ((w.alloc (.cells #[.slice a len cap, .slice a' len' cap', .int .i64 c] 38)).alloc (.cells #[.slice none 0 0, .slice none 0 0, .int .i64 0] 44)) 44 [.slice none 0 0, .slice none 0 0, .int .i64 0]
  simp only [World.size_alloc] at r1 r2
  have R1 := hid r1
  have R2 := hid r2
  have hI := hid (h.below bel (Nat.le_refl _))
  have hJ := hid h'
  have hbel := hid bel
  clear h h' r1 r2
  go_enter Try.func16, Try.ntmps16
  go_wp2_with fail
  refine (toInts_any a len cap zs _ hI.out hl).mono ?_
  rintro e w1 ⟨rfl, hB1, hS1, hz1⟩
  simp only [World.size_alloc] at hB1 hS1 hz1
  have q1 := R1.out.below hB1 (by omega)
  have q2 := R2.out.below hB1 (by omega)
  have qa := rA.out.below hB1 (by omega)
  have k0 := q2.cell 0; have f0 := q2.frozen 0; have p1 := qa.cell 1
  simp only [List.getElem?_cons_zero, List.getElem?_cons_succ] at k0 p1
  obtain ⟨V, hV⟩ : ∃ V, V = w1.setCell ⟨w.heap.size + 1 + 1, 0, none⟩ (.slice (some ⟨w.heap.size + 1 + 1 + 1, 0, none⟩) len len) := ⟨_, rfl⟩
  have s1 : Row V (w.heap.size + 1) 44 [.slice none 0 0, .slice none 0 0, .int .i64 0] := by rw [hV]; exact q1.other (a := ⟨w.heap.size + 1 + 1, 0, none⟩) (by show w.heap.size + 1 + 1 ≠ w.heap.size + 1; omega) _
  have s2 : Row V (w.heap.size + 1 + 1) 44 [.slice (some ⟨w.heap.size + 1 + 1 + 1, 0, none⟩) len len, .slice none 0 0, .int .i64 0] := by rw [hV]; exact q2.set 0 _
  have sa : Row V w.heap.size 38 [.slice a len cap, .slice a' len' cap', .int .i64 c] := by rw [hV]; exact qa.other (a := ⟨w.heap.size + 1 + 1, 0, none⟩) (by show w.heap.size + 1 + 1 ≠ w.heap.size; omega) _
  have szV : V.heap.size = w1.heap.size := by rw [hV]; simp
  have bw : Below w.heap.size w V := by rw [hV]; exact (hbel.out.trans (hB1.mono (by omega))).setCell (p := ⟨w.heap.size + 1 + 1, 0, none⟩) (by show w.heap.size ≤ w.heap.size + 1 + 1; omega) _
  have hSV : Lst V (w.heap.size + 1 + 1 + 1) zs := by
    rw [hV]
    exact ⟨by simpa using hz1, fun j hj => (cell_far2 (by show w.heap.size + 1 + 1 + 1 ≠ w.heap.size + 1 + 1; omega)).trans (hS1.2.1 j hj), hS1.2.2⟩
  go_wp2_with fail
  rw [← hV]
  clear hV k0 f0 p1 q1 q2 qa
  refine (toInts_any a' len' cap' ys V (hJ.out.below bw (Nat.le_refl _)) hl').mono ?_
  rintro e w2 ⟨rfl, hB2, hJ2, hz2⟩
  rw [szV] at hB2 hJ2 hz2 ⊢
  clear szV
  have t1 := s1.below hB2 (by omega)
  have t2 := s2.below hB2 (by omega)
  have ta := sa.below hB2 (by omega)
  have hS2 := hid (hSV.below hB2 (by omega))
  have k0 := t2.cell 0; have k1 := t2.cell 1; have f1 := t2.frozen 1; have k2 := t2.cell 2; have f2 := t2.frozen 2
  have g0 := t1.cell 0; have g1 := t1.cell 1; have g2 := t1.cell 2; have h0 := t1.frozen 0; have h1 := t1.frozen 1; have h2 := t1.frozen 2
  have pc := ta.cell 2
  simp only [List.getElem?_cons_zero, List.getElem?_cons_succ] at k0 k1 k2 g0 g1 g2 pc
  obtain ⟨X, hX⟩ : ∃ X, X = (w2.setCell ⟨w.heap.size + 1 + 1, 1, none⟩ (.slice (some ⟨w1.heap.size, 0, none⟩) len' len')).setCell ⟨w.heap.size + 1 + 1, 2, none⟩ (.int .i64 c) := ⟨_, rfl⟩
  obtain ⟨Y, hY⟩ : ∃ Y, Y = ((X.setCell ⟨w.heap.size + 1, 0, none⟩ (.slice (some ⟨w.heap.size + 1 + 1 + 1, 0, none⟩) len len)).setCell ⟨w.heap.size + 1, 1, none⟩ (.slice (some ⟨w1.heap.size, 0, none⟩) len' len')).setCell ⟨w.heap.size + 1, 2, none⟩ (.int .i64 c) := ⟨_, rfl⟩
  have hzV : w1.heap.size ≤ w2.heap.size := by omega
  have fin : Lst Y (w.heap.size + 1 + 1 + 1) zs ∧ Lst Y w1.heap.size ys ∧ Below w.heap.size w Y ∧ Row Y (w.heap.size + 1) 44 [.slice (some ⟨w.heap.size + 1 + 1 + 1, 0, none⟩) len len, .slice (some ⟨w1.heap.size, 0, none⟩) len' len', .int .i64 c] := by
    have bX : Below w.heap.size w X := by rw [hX]; exact ((bw.trans (hB2.mono (by omega))).setCell (p := ⟨w.heap.size + 1 + 1, 1, none⟩) (by show w.heap.size ≤ w.heap.size + 1 + 1; omega) _).setCell (p := ⟨w.heap.size + 1 + 1, 2, none⟩) (by show w.heap.size ≤ w.heap.size + 1 + 1; omega) _
    have bY : Below w.heap.size w Y := by rw [hY]; exact ((bX.setCell (p := ⟨w.heap.size + 1, 0, none⟩) (by show w.heap.size ≤ w.heap.size + 1; omega) _).setCell (p := ⟨w.heap.size + 1, 1, none⟩) (by show w.heap.size ≤ w.heap.size + 1; omega) _).setCell (p := ⟨w.heap.size + 1, 2, none⟩) (by show w.heap.size ≤ w.heap.size + 1; omega) _
    have cY : ∀ (g j : Nat), w.heap.size + 1 + 1 < g → Y.cell? ⟨g, j, none⟩ = w2.cell? ⟨g, j, none⟩ := fun g j hg => by
      rw [hY, hX]
      rw [cell_far2 (by show g ≠ w.heap.size + 1; omega), cell_far2 (by show g ≠ w.heap.size + 1; omega), cell_far2 (by show g ≠ w.heap.size + 1; omega), cell_far2 (by show g ≠ w.heap.size + 1 + 1; omega), cell_far2 (by show g ≠ w.heap.size + 1 + 1; omega)]
    have zY : Y.heap.size = w2.heap.size := by rw [hY, hX]; simp
    refine ⟨⟨by omega, fun j hj => (cY _ _ (by omega)).trans (hS2.out.2.1 j hj), hS2.out.2.2⟩, ⟨by omega, fun j hj => (cY _ _ (by omega)).trans (hJ2.2.1 j hj), hJ2.2.2⟩, bY, ?_⟩
    have t1' : Row X (w.heap.size + 1) 44 [.slice none 0 0, .slice none 0 0, .int .i64 0] := by rw [hX]; exact (t1.other (a := ⟨w.heap.size + 1 + 1, 1, none⟩) (by show w.heap.size + 1 + 1 ≠ w.heap.size + 1; omega) _).other (a := ⟨w.heap.size + 1 + 1, 2, none⟩) (by show w.heap.size + 1 + 1 ≠ w.heap.size + 1; omega) _
    rw [hY]
    exact ((t1'.set 0 _).set 1 _).set 2 _
  have FIN := hid fin
  clear fin t1 t2 ta hSV hJ2 s1 s2 sa
  go_wp2_with fail
  rw [← hX, ← hY]
  clear hX hY k0 k1 k2 f1 f2 g0 g1 g2 h0 h1 h2 pc
  obtain ⟨fS, fJ, fB, fR⟩ := FIN.out
  have g0 := fR.cell 0; have g1 := fR.cell 1; have g2 := fR.cell 2
  simp only [List.getElem?_cons_zero, List.getElem?_cons_succ] at g0 g1 g2
  exact bodyPost_ret (v := .agg #[.slice (some ⟨w.heap.size + 1 + 1 + 1, 0, none⟩) len len, .slice (some ⟨w1.heap.size, 0, none⟩) len' len', .int .i64 c]) (by simp [results, Try.results16, go_sem, g0, g1, g2]) rfl ⟨_, _, rfl, fB, fS, fJ⟩
theorem three_b (w : World) (T : TypeId) (a b c x y z : Value) : ∀ W, W = ((w.alloc (.cells #[a, b, c] T)).alloc (.cells #[x, y, z] T)) →
    Row W w.heap.size T [a, b, c] ∧ Row W (w.heap.size + 1) T [x, y, z] ∧ Below w.heap.size w W ∧ W.heap.size = w.heap.size + 1 + 1 := by
  rintro W rfl
  have h := Row.new (w.alloc (.cells #[a, b, c] T)) T [x, y, z]
  simp only [World.size_alloc] at h
  exact ⟨(Row.new w T [a, b, c]).alloc _, h, (box3_bel w T a b c).alloc (by simp) _, by simp⟩
def samY (zs zs2 ys ys2 : List Int) (c c2 : Int) : Bool := sameL zs zs2 && (sameL ys ys2 && decide (c = c2))
set_option maxHeartbeats 2000000 in
theorem eqStory_same (b1 b2 g1 g2 n m cn cn2 cm cm2 : Nat) (zs ys : List Int) (c : Int) (w : World) (h1 : Lst w b1 zs) (h2 : Lst w b2 zs) (k1 : Lst w g1 ys) (k2 : Lst w g2 ys) (hn : n = zs.length) (hm : m = ys.length) :
    Calls Try.prog 18 #[.agg #[.slice (some ⟨b1, 0, none⟩) n cn, .slice (some ⟨g1, 0, none⟩) m cm, .int .i64 c], .agg #[.slice (some ⟨b2, 0, none⟩) n cn2, .slice (some ⟨g2, 0, none⟩) m cm2, .int .i64 c]] w fun e w' => e = .returned (.bool true) ∧ Below w.heap.size w w' := by
  obtain ⟨W, hW⟩ : ∃ W, W = ((w.alloc (.cells #[.slice (some ⟨b1, 0, none⟩) n cn, .slice (some ⟨g1, 0, none⟩) m cm, .int .i64 c] 44)).alloc (.cells #[.slice (some ⟨b2, 0, none⟩) n cn2, .slice (some ⟨g2, 0, none⟩) m cm2, .int .i64 c] 44)) := ⟨_, rfl⟩
  obtain ⟨q0, q1, bW, sW⟩ := three_b w _ _ _ _ _ _ _ W hW
  have bE := hid bW
  have hW2 := hid hW
  have Q0 := hid q0
  have Q1 := hid q1
  have SW := hid sW
  have A1 := hid (h1.below bW h1.1)
  have A2 := hid (h2.below bW h2.1)
  have B1 := hid (k1.below bW k1.1)
  have B2 := hid (k2.below bW k2.1)
  have HA := hid (fun w1 (a : Lst w1 b1 zs) (b : Lst w1 b2 zs) => eqInts_same b1 b2 n cn cn2 zs w1 a b hn)
  have HB := hid (fun w1 (a : Lst w1 g1 ys) (b : Lst w1 g2 ys) => eqInts_same g1 g2 m cm cm2 ys w1 a b hm)
  have hd : (c != c) = false := by simp
  clear hn hm h1 h2 k1 k2 q0 q1 bW hW sW
  go_enter Try.func18, Try.ntmps18
  have x0 := Q0.out.cell 0
  have y0 := Q1.out.cell 0
  have x1 := Q0.out.cell 1
  have y1 := Q1.out.cell 1
  have x2 := Q0.out.cell 2
  have y2 := Q1.out.cell 2
  simp only [List.getElem?_cons_zero, List.getElem?_cons_succ] at x0 x1 x2 y0 y1 y2
  go_wp2_with fail
  rw [← hW2.out]
  refine (HA.out W A1.out A2.out).mono ?_
  rintro e w1 ⟨rfl, hB1⟩
  have r0 := Q0.out.below hB1 Q0.out.lt
  have r1 := Q1.out.below hB1 Q1.out.lt
  clear x0 x1 x2 y0 y1 y2
  have x0 := r0.cell 0
  have y0 := r1.cell 0
  have x1 := r0.cell 1
  have y1 := r1.cell 1
  have x2 := r0.cell 2
  have y2 := r1.cell 2
  simp only [List.getElem?_cons_zero, List.getElem?_cons_succ] at x0 x1 x2 y0 y1 y2
  go_wp2_with fail
  refine (HB.out w1 (B1.out.below hB1 B1.out.1) (B2.out.below hB1 B2.out.1)).mono ?_
  rintro e w2 ⟨rfl, hB2⟩
  have s0 := r0.below hB2 r0.lt
  have s1 := r1.below hB2 r1.lt
  clear x0 x1 x2 y0 y1 y2
  have x0 := s0.cell 0
  have y0 := s1.cell 0
  have x1 := s0.cell 1
  have y1 := s1.cell 1
  have x2 := s0.cell 2
  have y2 := s1.cell 2
  simp only [List.getElem?_cons_zero, List.getElem?_cons_succ] at x0 x1 x2 y0 y1 y2
  go_wp2_with fail
  go_ret
  exact ⟨rfl, bE.out.trans ((hB1.trans (hB2.mono hB1.size)).mono (by have := SW.out; omega))⟩
set_option maxHeartbeats 1000000 in
theorem szY_ok (a : Option Addr) (len cap : Nat) (a' : Option Addr) (len' cap' : Nat) (c : Int) (l : Int) (w : World) (h0 : 0 ≤ l ∧ l ≤ 1048576) (h : (len : Int) + (len' : Int) ≤ l) (hl : len ≤ 9223372036854775807) (hl' : len' ≤ 9223372036854775807) :
    Calls Try.prog 13 #[.agg #[.slice a len cap, .slice a' len' cap', .int .i64 c], .int .i64 l] w fun e w' => e = .returned (.int .i64 (l - len - len')) ∧ Below w.heap.size w w' := by
  obtain ⟨l0, l1⟩ := h0
  have h3 : (0 : Int) ≤ (len : Int) := by omega
  have h4 : (0 : Int) ≤ (len' : Int) := by omega
  have bE := hid (box3_bel w 38 (.slice a len cap) (.slice a' len' cap') (.int .i64 c))
  have h1 : (0 : Int) ≤ l - (len : Int) := by omega
  have h2 : (0 : Int) ≤ l - (len : Int) - (len' : Int) := by omega
  go_enter Try.func13, Try.ntmps13
  go_wp2
  go_ret
  exact ⟨rfl, bE.out⟩
set_option maxHeartbeats 1000000 in
theorem szY_no (a : Option Addr) (len cap : Nat) (a' : Option Addr) (len' cap' : Nat) (c : Int) (l : Int) (w : World) (h0 : 0 ≤ l ∧ l ≤ 1048576) (h : l < (len : Int) + (len' : Int)) (hl : len ≤ 9223372036854775807) (hl' : len' ≤ 9223372036854775807) :
    Calls Try.prog 13 #[.agg #[.slice a len cap, .slice a' len' cap', .int .i64 c], .int .i64 l] w fun e w' => e = .returned (.int .i64 (-1)) ∧ Below w.heap.size w w' := by
  obtain ⟨l0, l1⟩ := h0
  have h3 : (0 : Int) ≤ (len : Int) := by omega
  have h4 : (0 : Int) ≤ (len' : Int) := by omega
  have bE := hid (box3_bel w 38 (.slice a len cap) (.slice a' len' cap') (.int .i64 c))
  by_cases h1 : l - (len : Int) < 0
  · clear h
    go_enter Try.func13, Try.ntmps13
    go_wp2
    go_ret
    exact ⟨rfl, bE.out⟩
  · have h5 : (0 : Int) ≤ l - (len : Int) := by omega
    have h2 : l - (len : Int) - (len' : Int) < 0 := by omega
    clear h1
    go_enter Try.func13, Try.ntmps13
    go_wp2
    go_ret
    exact ⟨rfl, bE.out⟩
section
variable {H : Type} {enc : TypeId × Value → H} {P : Program} {W : World}
theorem slice_of {t e : TypeId} (ht : P.underlying t = some (.slice e)) {n : Nat} {v : Value} {y : DataW H × List MemPlace} (h : DataW.trod enc P W 0 (fun _ => true) true n t [v] = some y) : ∃ a len cap, v = .slice a len cap ∧ len ≤ 9223372036854775807 := by
  rcases Go.Deep.open_slice ht h with ⟨hcs, _⟩ | ⟨x, l, c, m, n', D, Pl, hcs, _, hl, hm, _⟩
  · obtain rfl : v = .slice none 0 0 := by simpa using hcs
    exact ⟨none, 0, 0, rfl, by omega⟩
  · obtain rfl : v = .slice (some x) l c := by simpa using hcs
    exact ⟨_, _, _, rfl, by unfold maxLen at hm; omega⟩
theorem open_story {r : Reach} {b0 : Nat} {t e : TypeId} {f0 f1 f2 : Field} {v : Value} {d : DataW H} {p : List MemPlace} (hs : P.underlying t = some (.struct #[f0, f1, f2])) (hone : Go.Deep.oneCellFields P #[f0, f1, f2] = true) (hC : P.cellsOf t = 3)
    (t0 : P.underlying f0.type = some (.slice e)) (t1 : P.underlying f1.type = some (.slice e)) (t2 : P.underlying f2.type = some (.int .i64)) (he : P.underlying e = some (.int .i64)) (hc : P.cellsOf e = 1)
    (hv : Value.okWide P W r b0 t v) (h : DataW.Trod enc P W 0 (fun _ => true) true t v d p) :
    ∃ a len cap zs a' len' cap' ys c, v = .agg #[.slice a len cap, .slice a' len' cap', .int .i64 c] ∧ len ≤ 9223372036854775807 ∧ len' ≤ 9223372036854775807 ∧ InI W a len zs ∧ InI W a' len' ys := by
  obtain ⟨v0, v1, v2, y0, y1, y2, n, rfl, _, _, g0, g1, g2⟩ := Go.Joins.open_agg3 hs hone hC hv h
  obtain ⟨a, len, cap, rfl, hl⟩ := slice_of t0 g0
  obtain ⟨a', len', cap', rfl, hl'⟩ := slice_of t1 g1
  obtain ⟨zs, hz⟩ := open_int64s (d := y0.1) (p := y0.2) t0 he hc ⟨n, g0⟩
  obtain ⟨ys, hy⟩ := open_int64s (d := y1.1) (p := y1.2) t1 he hc ⟨n, g1⟩
  obtain ⟨z2, e2, _, _⟩ := DataW.trod_int t2 g2
  simp only [List.cons.injEq, and_true] at e2
  subst e2
  exact ⟨a, len, cap, zs, a', len', cap', ys, z2, rfl, hl, hl', hz, hy⟩
end
end Go.Proofs.Ytilbpgcgjbblaaa
