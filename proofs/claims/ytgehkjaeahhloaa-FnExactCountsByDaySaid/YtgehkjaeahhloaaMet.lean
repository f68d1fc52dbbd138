/- Meters: a stack and three numbers; opened, copied, compared. -/
import Derived.Test.YtgehkjaeahhloaaOpen
import Derived.Test.YtgehkjaeahhloaaRatio
import Derived.Test.YtgehkjaeahhloaaOpenR
import Derived.Lib.SmallJoins
import Derived.Deep.RegionHeld3
import Derived.RegionTactic
import Derived.Deep.DeepCutAuto
import Derived.Deep.Slices
import Derived.Deep.Fields
namespace Go.Proofs.Ytgehkjaeahhloaa
open Go.RowKit Go.ChangeShapes Go.WideShapes Go.ChangeAt
theorem cell_apartM {W : World} {a p : Addr} {u : Value} (h : p.block ≠ a.block) : (W.setCell a u).cell? p = W.cell? p := World.cell?_of_block (Below.heap_setCell W a u p.block h)
section
variable {H : Type} {enc : TypeId × Value → H} {P : Program} {W : World}
theorem open_bytesM {t e : TypeId} (ht : P.underlying t = some (.slice e)) (he : P.underlying e = some (.int .u8)) (hc : P.cellsOf e = 1) {n : Nat} {v : Value} {y : DataW H × List MemPlace}
    (h : DataW.trod enc P W 0 (fun _ => true) true n t [v] = some y) : ∃ a len cap zs, v = .slice a len cap ∧ len ≤ 9223372036854775807 ∧ InB W a len zs := by
  rcases open_ints ht he hc h with ⟨hcs, _⟩ | ⟨x, l, c, zs, hcs, _, hl, hm, _⟩
  · obtain rfl : v = .slice none 0 0 := by simpa using hcs
    obtain ⟨zs, hz⟩ := open_bytes ht he hc (d := y.1) (p := y.2) ⟨n, h⟩
    exact ⟨_, _, _, zs, rfl, by omega, hz⟩
  · obtain rfl : v = .slice (some x) l c := by simpa using hcs
    obtain ⟨zs, hz⟩ := open_bytes ht he hc (d := y.1) (p := y.2) ⟨n, h⟩
    exact ⟨_, _, _, zs, rfl, by unfold maxLen at hm; omega, hz⟩
/-- three numbers within the bounds of int64 -/
def Th (x y s : Int) : Prop := I64 x ∧ I64 y ∧ I64 s
theorem open_meter {r : Reach} {b0 : Nat} {t eB : TypeId} {f0 f1 f2 f3 : Field} {v : Value} {d : DataW H} {p : List MemPlace} (hs : P.underlying t = some (.struct #[f0, f1, f2, f3])) (hone : Go.Deep.oneCellFields P #[f0, f1, f2, f3] = true) (hC : P.cellsOf t = 4)
    (tB : P.underlying f0.type = some (.slice eB)) (uB : P.underlying eB = some (.int .u8)) (cB : P.cellsOf eB = 1)
    (k1 : P.underlying f1.type = some (.int .i64)) (k2 : P.underlying f2.type = some (.int .i64)) (k3 : P.underlying f3.type = some (.int .i64))
    (hv : Value.okWide P W r b0 t v) (h : DataW.Trod enc P W 0 (fun _ => true) true t v d p) :
    ∃ a len cap zs x y s, v = .agg #[.slice a len cap, .int .i64 x, .int .i64 y, .int .i64 s] ∧ len ≤ 9223372036854775807 ∧ InB W a len zs ∧ Th x y s := by
  obtain ⟨v0, v1, v2, v3, y0, y1, y2, y3, n, rfl, _, _, g0, g1, g2, g3⟩ := Go.Joins.open_agg4 hs hone hC hv h
  obtain ⟨a, len, cap, zs, rfl, hl, hz⟩ := open_bytesM tB uB cB g0
  obtain ⟨z1, e1, _, w1⟩ := DataW.trod_int k1 g1
  obtain ⟨z2, e2, _, w2⟩ := DataW.trod_int k2 g2
  obtain ⟨z3, e3, _, w3⟩ := DataW.trod_int k3 g3
  simp only [List.cons.injEq, and_true] at e1 e2 e3
  subst e1 e2 e3
  exact ⟨a, len, cap, zs, z1, z2, z3, rfl, hl, hz, wf64 w1, wf64 w2, wf64 w3⟩
end
theorem szMeter_ok (a : Option Addr) (len cap : Nat) (x y s : Int) (w : World) (h : len ≤ 1048576) :
    Calls Try.prog 13 #[.agg #[.slice a len cap, .int .i64 x, .int .i64 y, .int .i64 s], .int .i64 1048576] w fun e w' => e = .returned (.int .i64 (1048576 - len)) ∧ w.alloc (.cells #[.slice a len cap, .int .i64 x, .int .i64 y, .int .i64 s] 24) = w' := by
  have h1 : (0 : Int) ≤ 1048576 - (len : Int) := by omega
  go_enter Try.func13, Try.ntmps13
  go_wp2
  go_ret
  exact ⟨rfl, rfl⟩
theorem szMeter_no (a : Option Addr) (len cap : Nat) (x y s : Int) (w : World) (h : 1048576 < len) (hl : len ≤ 9223372036854775807) :
    Calls Try.prog 13 #[.agg #[.slice a len cap, .int .i64 x, .int .i64 y, .int .i64 s], .int .i64 1048576] w fun e w' => e = .returned (.int .i64 (-1)) ∧ w.alloc (.cells #[.slice a len cap, .int .i64 x, .int .i64 y, .int .i64 s] 24) = w' := by
  have h1 : 1048576 - (len : Int) < 0 := by omega
  clear h
  go_enter Try.func13, Try.ntmps13
  go_wp2
  go_ret
  exact ⟨rfl, rfl⟩
theorem box4_belM (w : World) (T : TypeId) (x y z u : Value) : Below w.heap.size w (w.alloc (.cells #[x, y, z, u] T)) := (Below.refl _ w).alloc (Nat.le_refl _) _
theorem eqMeter_same (b1 b2 n c1 c2 : Nat) (zs : List Int) (x y s : Int) (w : World) (h1 : Stk w b1 zs) (h2 : Stk w b2 zs) (hn : n = zs.length) :
    Calls Try.prog 17 #[.agg #[.slice (some ⟨b1, 0, none⟩) n c1, .int .i64 x, .int .i64 y, .int .i64 s], .agg #[.slice (some ⟨b2, 0, none⟩) n c2, .int .i64 x, .int .i64 y, .int .i64 s]] w fun e w' => e = .returned (.bool true) ∧ Below w.heap.size w w' := by
  obtain ⟨W, hW⟩ : ∃ W, W = (w.alloc (.cells #[.slice (some ⟨b1, 0, none⟩) n c1, .int .i64 x, .int .i64 y, .int .i64 s] 29)).alloc (.cells #[.slice (some ⟨b2, 0, none⟩) n c2, .int .i64 x, .int .i64 y, .int .i64 s] 29) := ⟨_, rfl⟩
  have bel : Below w.heap.size w W := by rw [hW]; exact ((Below.refl _ w).alloc (Nat.le_refl _) _).alloc (by simp) _
  have r1 : Row W w.heap.size 29 [.slice (some ⟨b1, 0, none⟩) n c1, .int .i64 x, .int .i64 y, .int .i64 s] := by rw [hW]; exact (Row.new w _ _).alloc _
  have r2 : Row W (w.heap.size + 1) 29 [.slice (some ⟨b2, 0, none⟩) n c2, .int .i64 x, .int .i64 y, .int .i64 s] := by
    have h := Row.new (w.alloc (.cells #[.slice (some ⟨b1, 0, none⟩) n c1, .int .i64 x, .int .i64 y, .int .i64 s] 29)) 29 [.slice (some ⟨b2, 0, none⟩) n c2, .int .i64 x, .int .i64 y, .int .i64 s]
    simp only [World.size_alloc] at h
    rw [hW]; exact h
  have R1 := hid r1
  have R2 := hid r2
  have HE := hid (eqStack_same b1 b2 n c1 c2 zs _ (h1.below bel h1.1) (h2.below bel h2.1) hn)
  have l1 := r1.lt
  have l2 := r2.lt
  have BE := hid bel
  have HW := hid hW
  have n1 : (x != x) = false := by simp
  have n2 : (y != y) = false := by simp
  have n3 : (s != s) = false := by simp
  clear h1 h2 hn r1 r2 bel hW
  go_enter Try.func17, Try.ntmps17
  go_wp2_with fail
  rw [← HW.out]
  refine HE.out.mono ?_
  rintro e w1 ⟨rfl, hB1⟩
  have s1 := R1.out.below hB1 l1
  have s2 := R2.out.below hB1 l2
  have c11 := s1.cell 1; have c12 := s1.cell 2; have c13 := s1.cell 3; have c21 := s2.cell 1; have c22 := s2.cell 2; have c23 := s2.cell 3
  simp only [List.getElem?_cons_zero, List.getElem?_cons_succ] at c11 c12 c13 c21 c22 c23
  clear s1 s2
  go_wp2_with fail
  go_ret
  exact ⟨rfl, BE.out.trans (hB1.mono BE.out.size)⟩
/-- a copy of a meter -/
def MeR (w : World) (zs : List Int) (len : Nat) (x y s : Int) (e : Ending) (w' : World) : Prop :=
  ∃ B, e = .returned (.agg #[.slice (some ⟨B, 0, none⟩) len len, .int .i64 x, .int .i64 y, .int .i64 s]) ∧ Below w.heap.size w w' ∧ Stk w' B zs ∧ w.heap.size ≤ B
set_option maxHeartbeats 2000000 in
theorem toMeter_any (a : Option Addr) (len cap : Nat) (zs : List Int) (x y s : Int) (w : World) (h : InB w a len zs) (hl : len ≤ 1048576) :
    Calls Try.prog 15 #[.agg #[.slice a len cap, .int .i64 x, .int .i64 y, .int .i64 s]] w (MeR w zs len x y s) := by
  obtain ⟨U, hU⟩ : ∃ U, U = (((w.alloc (.cells #[.slice a len cap, .int .i64 x, .int .i64 y, .int .i64 s] 24)).alloc (.cells #[.slice none 0 0, .int .i64 0, .int .i64 0, .int .i64 0] 29)).alloc (.cells #[.slice none 0 0, .int .i64 0, .int .i64 0, .int .i64 0] 29)) := ⟨_, rfl⟩
  have bel : Below w.heap.size w U := by rw [hU]; exact (((Below.refl _ w).alloc (Nat.le_refl _) _).alloc (by simp) _).alloc (by simp; omega) _
  have rA : Row U w.heap.size 24 [.slice a len cap, .int .i64 x, .int .i64 y, .int .i64 s] := by rw [hU]; exact ((Row.new w _ _).alloc _).alloc _
  have r1 : Row U (w.heap.size + 1) 29 [.slice none 0 0, .int .i64 0, .int .i64 0, .int .i64 0] := by
    have h := (Row.new (w.alloc (.cells #[.slice a len cap, .int .i64 x, .int .i64 y, .int .i64 s] 24)) 29 [.slice none 0 0, .int .i64 0, .int .i64 0, .int .i64 0]).alloc (.cells #[.slice none 0 0, .int .i64 0, .int .i64 0, .int .i64 0] 29)
    simp only [World.size_alloc] at h
    rw [hU]; exact h
  have r2 : Row U (w.heap.size + 1 + 1) 29 [.slice none 0 0, .int .i64 0, .int .i64 0, .int .i64 0] := by
    have h := Row.new ((w.alloc (.cells #[.slice a len cap, .int .i64 x, .int .i64 y, .int .i64 s] 24)).alloc (.cells #[.slice none 0 0, .int .i64 0, .int .i64 0, .int .i64 0] 29)) 29 [.slice none 0 0, .int .i64 0, .int .i64 0, .int .i64 0]
    simp only [World.size_alloc] at h
    rw [hU]; exact h
  have sU : U.heap.size = w.heap.size + 1 + 1 + 1 := by rw [hU]; simp
  have HU := hid hU
  have RA := hid rA
  have R1 := hid r1
  have R2 := hid r2
  have SU := hid sU
  have BE := hid bel
  have hI := hid (h.below bel (Nat.le_refl _))
  clear h r1 r2 rA bel sU hU
  go_enter Try.func15, Try.ntmps15
  go_wp2_with fail
  rw [← HU.out]
  refine (toStack_any a len cap zs _ hI.out hl).mono ?_
  rintro e w1 ⟨rfl, hB1, hS1, hz1⟩
  rw [SU.out] at hB1 hS1 hz1 ⊢
  have q1 := R1.out.below hB1 (by omega)
  have q2 := R2.out.below hB1 (by omega)
  have qa := RA.out.below hB1 (by omega)
  have Q1 := hid q1
  have Q2 := hid q2
  have hbs : Below w.heap.size w w1 := BE.out.trans (hB1.mono (by omega))
  have HB := hid hbs
  have HS := hid hS1
  obtain ⟨V, hV⟩ : ∃ V, V = (((w1.setCell ⟨w.heap.size + 1 + 1, 0, none⟩ (.slice (some ⟨w.heap.size + 1 + 1 + 1, 0, none⟩) len len)).setCell ⟨w.heap.size + 1 + 1, 1, none⟩ (.int .i64 x)).setCell ⟨w.heap.size + 1 + 1, 2, none⟩ (.int .i64 y)).setCell ⟨w.heap.size + 1 + 1, 3, none⟩ (.int .i64 s) := ⟨_, rfl⟩
  have rV : Row V (w.heap.size + 1 + 1) 29 [.slice (some ⟨w.heap.size + 1 + 1 + 1, 0, none⟩) len len, .int .i64 x, .int .i64 y, .int .i64 s] := by rw [hV]; exact (((q2.set 0 _).set 1 _).set 2 _).set 3 _
  have rV1 : Row V (w.heap.size + 1) 29 [.slice none 0 0, .int .i64 0, .int .i64 0, .int .i64 0] := by
    rw [hV]
    have ne : w.heap.size + 1 + 1 ≠ w.heap.size + 1 := by omega
    exact (((q1.other ne _).other ne _).other ne _).other ne _
  have HVV := hid hV
  have RV := hid rV
  have RV1 := hid rV1
  have p1 := qa.cell 1; have p2 := qa.cell 2; have p3 := qa.cell 3
  have k0 := q2.cell 0; have k1 := q2.cell 1; have k2 := q2.cell 2; have k3 := q2.cell 3
  have f0 := q2.frozen 0; have f1 := q2.frozen 1; have f2 := q2.frozen 2; have f3 := q2.frozen 3
  simp only [List.getElem?_cons_zero, List.getElem?_cons_succ] at p1 p2 p3 k0 k1 k2 k3
  clear q1 q2 qa hV rV rV1 hB1 hS1 hbs
  go_upto_region 6 with fail
  rw [← HVV.out]
  have d0 := RV.out.cell 0; have d1 := RV.out.cell 1; have d2 := RV.out.cell 2; have d3 := RV.out.cell 3
  have e0 := RV1.out.cell 0; have e1 := RV1.out.cell 1; have e2 := RV1.out.cell 2; have e3 := RV1.out.cell 3
  have g0 := RV1.out.frozen 0; have g1 := RV1.out.frozen 1; have g2 := RV1.out.frozen 2; have g3 := RV1.out.frozen 3
  simp only [List.getElem?_cons_zero, List.getElem?_cons_succ] at d0 d1 d2 d3 e0 e1 e2 e3
  clear p1 p2 p3 k0 k1 k2 k3 f0 f1 f2 f3
  go_wp2_with fail
  clear d0 d1 d2 d3 e0 e1 e2 e3 g0 g1 g2 g3
  have le1 : w.heap.size ≤ w.heap.size + 1 := by omega
  have le2 : w.heap.size ≤ w.heap.size + 1 + 1 := by omega
  have bV : Below w.heap.size w V := by
    rw [HVV.out]
    exact (((HB.out.setCell (p := ⟨w.heap.size + 1 + 1, 0, none⟩) le2 _).setCell (p := ⟨w.heap.size + 1 + 1, 1, none⟩) le2 _).setCell (p := ⟨w.heap.size + 1 + 1, 2, none⟩) le2 _).setCell (p := ⟨w.heap.size + 1 + 1, 3, none⟩) le2 _
  obtain ⟨Y, hY⟩ : ∃ Y, Y = (((V.setCell ⟨w.heap.size + 1, 0, none⟩ (.slice (some ⟨w.heap.size + 1 + 1 + 1, 0, none⟩) len len)).setCell ⟨w.heap.size + 1, 1, none⟩ (.int .i64 x)).setCell ⟨w.heap.size + 1, 2, none⟩ (.int .i64 y)).setCell ⟨w.heap.size + 1, 3, none⟩ (.int .i64 s) := ⟨_, rfl⟩
  rw [← hY]
  have rY : Row Y (w.heap.size + 1) 29 [.slice (some ⟨w.heap.size + 1 + 1 + 1, 0, none⟩) len len, .int .i64 x, .int .i64 y, .int .i64 s] := by rw [hY]; exact (((RV1.out.set 0 _).set 1 _).set 2 _).set 3 _
  have bY : Below w.heap.size w Y := by
    rw [hY]
    exact (((bV.setCell (p := ⟨w.heap.size + 1, 0, none⟩) le1 _).setCell (p := ⟨w.heap.size + 1, 1, none⟩) le1 _).setCell (p := ⟨w.heap.size + 1, 2, none⟩) le1 _).setCell (p := ⟨w.heap.size + 1, 3, none⟩) le1 _
  have zY : Y.heap.size = w1.heap.size := by rw [hY, HVV.out]; simp
  have cY : ∀ (j : Nat), Y.cell? ⟨w.heap.size + 1 + 1 + 1, j, none⟩ = w1.cell? ⟨w.heap.size + 1 + 1 + 1, j, none⟩ := fun j => by
    have n1 : w.heap.size + 1 + 1 + 1 ≠ w.heap.size + 1 := by omega
    have n2 : w.heap.size + 1 + 1 + 1 ≠ w.heap.size + 1 + 1 := by omega
    rw [hY, HVV.out, cell_apartM n1, cell_apartM n1, cell_apartM n1, cell_apartM n1, cell_apartM n2, cell_apartM n2, cell_apartM n2, cell_apartM n2]
  have sY : Stk Y (w.heap.size + 1 + 1 + 1) zs := ⟨by omega, fun j hj => (cY j).trans (HS.out.2.1 j hj), HS.out.2.2⟩
  clear hY
  have g0 := rY.cell 0; have g1 := rY.cell 1; have g2 := rY.cell 2; have g3 := rY.cell 3
  simp only [List.getElem?_cons_zero, List.getElem?_cons_succ] at g0 g1 g2 g3
  exact bodyPost_ret (v := .agg #[.slice (some ⟨w.heap.size + 1 + 1 + 1, 0, none⟩) len len, .int .i64 x, .int .i64 y, .int .i64 s]) (by simp [results, Try.results15, go_sem, g0, g1, g2, g3]) rfl ⟨_, rfl, bY, sY, by omega⟩
end Go.Proofs.Ytgehkjaeahhloaa
