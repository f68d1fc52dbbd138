/- MakeRatio: the program's and the model's, and its law. -/
import Derived.Test.YtdlcbfoghpoliaaRatio
namespace Go.Proofs.Ytdlcbfoghpoliaa
open Go.RowKit

def madeR (p q : Int) : (Int × Int) × Int := if okR (redP p q) (redQ p q) then ((redP p q, redQ p q), 0) else ((0, 0), 3)
theorem madeR_yes {p q : Int} (h : okR (redP p q) (redQ p q) = true) : madeR p q = ((redP p q, redQ p q), 0) := by simp [madeR, h]
theorem madeR_no {p q : Int} (h : okR (redP p q) (redQ p q) = false) : madeR p q = ((0, 0), 3) := by simp [madeR, h]
def pairV (r : (Int × Int) × Int) : Value := .tuple #[.agg #[.int .i64 r.1.1, .int .i64 r.1.2], .int .i64 r.2]
/-- two stores into a pair that was there -/
theorem pair_again {w : World} {g : Nat} {T : TypeId} {a b : Value} (x y : Value) (h : Row w g T [a, b]) : ∀ W, W = (w.setCell ⟨g, 0, none⟩ x).setCell ⟨g, 1, none⟩ y → Row W g T [x, y] ∧ (∀ k, k ≤ g → Below k w W) ∧ W.heap.size = w.heap.size := by
  rintro W rfl
  exact ⟨(h.set 0 x).set 1 y, fun k hk => ((Below.refl _ w).setCell (p := ⟨g, 0, none⟩) hk x).setCell (p := ⟨g, 1, none⟩) hk y, by simp⟩
/-- two fresh boxes -/
theorem two_boxes (w : World) (T : TypeId) (a b x y : Value) (d : Nat) : ∀ W, W = (((w.alloc (.cells #[a, b] T)).alloc (.cells #[x, y] T)).drewN d) →
    Row W w.heap.size T [a, b] ∧ Row W (w.heap.size + 1) T [x, y] ∧ Below w.heap.size w W ∧ W.heap.size = w.heap.size + 1 + 1 := by
  rintro W rfl
  have h := Row.new (w.alloc (.cells #[a, b] T)) T [x, y]
  simp only [World.size_alloc] at h
  exact ⟨((Row.new w T [a, b]).alloc _).drewN d, h.drewN d, below_drewN ((box2_bel w T a b).alloc (by simp) _) d, by simp⟩
set_option maxHeartbeats 1000000 in
theorem l03Made_any (p q : Int) (hp : 1 ≤ p) (hq : 1 ≤ q) (hp' : p ≤ 9223372036854775807) (hq' : q ≤ 9223372036854775807) (w : World) :
    Calls Try.prog 28 #[.int .i64 p, .int .i64 q] w (GivesB w (pairV (madeR p q))) := by
  have HG := hid (fun w => l03Gcd_any p q (by omega) (by omega) hp' hq' w)
  have R := red_bd hp hq
  have e1 : p.tdiv (gcdI p q) = redP p q := Int.tdiv_eq_ediv_of_nonneg (by omega)
  have e2 : q.tdiv (gcdI p q) = redQ p q := Int.tdiv_eq_ediv_of_nonneg (by omega)
  have HO := hid (fun w => l03Ok_any (redP p q) (redQ p q) (by unfold I64; omega) (by unfold I64; omega) w)
  have HM : madeR p q = if okR (redP p q) (redQ p q) then ((redP p q, redQ p q), 0) else ((0, 0), 3) := rfl
  obtain ⟨g, hg⟩ : ∃ g, g = gcdI p q := ⟨_, rfl⟩
  obtain ⟨x, hx⟩ : ∃ x, x = redP p q := ⟨_, rfl⟩
  obtain ⟨y, hy⟩ : ∃ x, x = redQ p q := ⟨_, rfl⟩
  rw [← hg, ← hx, ← hy] at R
  rw [← hg, ← hx] at e1
  rw [← hg, ← hy] at e2
  rw [← hg] at HG
  rw [← hx, ← hy] at HO HM
  obtain ⟨g1, g2, g3, x1, x2, y1, y2, _, _⟩ := R
  have g0 : (g == 0) = false := by simp; omega
  have w1 : IntKind.i64.wrap x = x := IntWalk.i64_in x (by omega)
  have w2 : IntKind.i64.wrap y = y := IntWalk.i64_in y (by omega)
  have bel0 := box2_bel w 28 (.int .i64 0) (.int .i64 0)
  have r0 := hid (Row.new w 28 [.int .i64 0, .int .i64 0])
  clear hg hx hy hp hq
  cases hk : okR x y with
  | true =>
    rw [hk] at HO HM
    simp only [if_true] at HM
    rw [HM]
    unfold pairV
    clear HM hk
    go_enter Try.func28, Try.ntmps28
    go_wp2_with fail
    refine (HG.out _).mono ?_
    rintro e w' ⟨rfl, rfl⟩
    go_wp2_with fail
    go_region
    obtain ⟨W, hW⟩ : ∃ W, W = ((w.alloc (.cells #[.int .i64 0, .int .i64 0] 28)).alloc (.cells #[.int .i64 x, .int .i64 y] 28)).drew := ⟨_, rfl⟩
    obtain ⟨q0, q1, bW, sW⟩ := two_boxes w _ _ _ _ _ 1 W hW
    rw [← hW]
    clear hW
    have c0 := q1.cell 0
    have c1 := q1.cell 1
    simp only [List.getElem?_cons_zero, List.getElem?_cons_succ] at c0 c1
    have SW := hid sW
    clear sW
    go_wp2_with fail
    refine (HO.out _).mono ?_
    rintro e w1 ⟨rfl, hB⟩
    have s1 := SW.out
    have Q0 := q0.below hB (by omega)
    have Q1 := q1.below hB (by omega)
    have z1 := hB.size
    clear c0 c1 q0 q1
    have d0 := Q0.cell 0
    have d1 := Q0.cell 1
    have f0 := Q0.frozen 0
    have f1 := Q0.frozen 1
    have d2 := Q1.cell 0
    have d3 := Q1.cell 1
    simp only [List.getElem?_cons_zero, List.getElem?_cons_succ] at d0 d1 d2 d3
    have P := hid (pair_again (.int .i64 x) (.int .i64 y) Q0)
    have bE := hid (bW.trans (hB.mono (by omega)))
    clear s1 z1 Q0 Q1 bW hB
    go_wp2_with fail
    obtain ⟨V, hV⟩ : ∃ V, V = (w1.setCell ⟨w.heap.size, 0, none⟩ (.int .i64 x)).setCell ⟨w.heap.size, 1, none⟩ (.int .i64 y) := ⟨_, rfl⟩
    obtain ⟨rV, bV, _⟩ := P.out V hV
    rw [← hV]
    clear hV d0 d1 d2 d3 f0 f1
    have g0 := rV.cell 0
    have g1 := rV.cell 1
    simp only [List.getElem?_cons_zero, List.getElem?_cons_succ] at g0 g1
    exact bodyPost_ret (v := .tuple #[.agg #[.int .i64 x, .int .i64 y], .int .i64 0]) (by simp [results, Try.results28, go_sem, g0, g1]) rfl ⟨rfl, bE.out.trans (bV _ (Nat.le_refl _))⟩
  | false =>
    rw [hk] at HO HM
    simp only [if_neg Bool.false_ne_true] at HM
    rw [HM]
    unfold pairV
    clear HM hk
    go_enter Try.func28, Try.ntmps28
    go_wp2_with fail
    refine (HG.out _).mono ?_
    rintro e w' ⟨rfl, rfl⟩
    go_wp2_with fail
    go_region
    obtain ⟨W, hW⟩ : ∃ W, W = ((w.alloc (.cells #[.int .i64 0, .int .i64 0] 28)).alloc (.cells #[.int .i64 x, .int .i64 y] 28)).drew := ⟨_, rfl⟩
    obtain ⟨q0, q1, bW, sW⟩ := two_boxes w _ _ _ _ _ 1 W hW
    rw [← hW]
    clear hW
    have c0 := q1.cell 0
    have c1 := q1.cell 1
    simp only [List.getElem?_cons_zero, List.getElem?_cons_succ] at c0 c1
    have SW := hid sW
    clear sW
    go_wp2_with fail
    refine (HO.out _).mono ?_
    rintro e w1 ⟨rfl, hB⟩
    have s1 := SW.out
    have Q0 := q0.below hB (by omega)
    have z1 := hB.size
    clear c0 c1 q0 q1
    have d0 := Q0.cell 0
    have d1 := Q0.cell 1
    have f0 := Q0.frozen 0
    have f1 := Q0.frozen 1
    simp only [List.getElem?_cons_zero, List.getElem?_cons_succ] at d0 d1
    have P := hid (pair_again (.int .i64 0) (.int .i64 0) Q0)
    have bE := hid (bW.trans (hB.mono (by omega)))
    clear s1 z1 Q0 bW hB
    go_wp2_with fail
    obtain ⟨V, hV⟩ : ∃ V, V = (w1.setCell ⟨w.heap.size, 0, none⟩ (.int .i64 0)).setCell ⟨w.heap.size, 1, none⟩ (.int .i64 0) := ⟨_, rfl⟩
    obtain ⟨rV, bV, _⟩ := P.out V hV
    rw [← hV]
    clear hV d0 d1 f0 f1
    have g0 := rV.cell 0
    have g1 := rV.cell 1
    simp only [List.getElem?_cons_zero, List.getElem?_cons_succ] at g0 g1
    exact bodyPost_ret (v := .tuple #[.agg #[.int .i64 0, .int .i64 0], .int .i64 3]) (by simp [results, Try.results28, go_sem, g0, g1]) rfl ⟨rfl, bE.out.trans (bV _ (Nat.le_refl _))⟩

def makeR (p q : Int) : (Int × Int) × Int := if p < 1 ∨ q < 1 then ((0, 0), 2) else madeR p q
theorem makeR_no {p q : Int} (h : p < 1 ∨ q < 1) : makeR p q = ((0, 0), 2) := by simp [makeR, h]
theorem makeR_yes {p q : Int} (h1 : 1 ≤ p) (h2 : 1 ≤ q) : makeR p q = madeR p q := by rw [makeR, if_neg (by omega)]
theorem nilpair_new (w : World) (T : TypeId) (a b : Value) : Row (w.alloc (.cells #[a, b] T)) w.heap.size T [a, b] := Row.new w T [a, b]
end Go.Proofs.Ytdlcbfoghpoliaa
