/- Motions: copied, compared, opened. -/
import Derived.Test.YtklkdbfdejabiaaGreatDoorJoints
import Derived.Deep.RegionHeld3
import Derived.Deep.Slices
import Derived.Deep.Fields
namespace Go.Proofs.YtklkdbfdejabiaaGreatDoor
open Go.RowKit Go.ChangeShapes Go.WideShapes Go.ChangeAt

set_option maxHeartbeats 1000000 in
theorem eqJoints_same (b1 b2 n c1 c2 : Nat) (js : List (Int × Int)) (w : World) (h1 : Jst w b1 js) (h2 : Jst w b2 js) (hn : n = js.length) :
    Calls Tryz.prog 18 #[.slice (some ⟨b1, 0, none⟩) n c1, .slice (some ⟨b2, 0, none⟩) n c2] w fun e w' => e = .returned (.bool true) ∧ Below w.heap.size w w' := by
  have hl := h1.2.2
  have hC1 := hid h1.2.1
  have hC2 := hid h2.2.1
  have hb1 := h1.1
  have hb2 := h2.1
  have hN := hid hn
  rw [← hn] at hl
  clear h1 h2 hn
  have hne : ((n : Int) != (n : Int)) = false := by simp
  go_enter Tryz.func18, Tryz.ntmps18
  go_wp2
  go_loopw [5] (fun i wr => ∃ k : Nat, k ≤ n ∧ i = .int .i64 k ∧ Below w.heap.size w wr) (fun i _ => n - (intOf i).toNat)
  case atStart => exact ⟨0, Nat.zero_le _, rfl, Below.refl _ _⟩
  case round =>
    obtain ⟨k, hk, rfl, hB⟩ := hrel
    by_cases hlt : k < n
    · have x1 := (hB.cell (p := ⟨b1, k * 2, none⟩) hb1).trans (hC1.out k (by rw [← hN.out]; exact hlt)).1
      have x2 := (hB.cell (p := ⟨b1, k * 2 + 1, none⟩) hb1).trans (hC1.out k (by rw [← hN.out]; exact hlt)).2
      have y1 := (hB.cell (p := ⟨b2, k * 2, none⟩) hb2).trans (hC2.out k (by rw [← hN.out]; exact hlt)).1
      have y2 := (hB.cell (p := ⟨b2, k * 2 + 1, none⟩) hb2).trans (hC2.out k (by rw [← hN.out]; exact hlt)).2
      have hlt' : (k : Int) < (n : Int) := by omega
      have hk0 : (0 : Int) ≤ (k : Int) := by omega
      have hzr := hB.size
      obtain ⟨x, hx⟩ : ∃ x, x = jk js k := ⟨_, rfl⟩
      obtain ⟨y, hy⟩ : ∃ y, y = jf js k := ⟨_, rfl⟩
      rw [← hx] at x1 y1
      rw [← hy] at x2 y2
      clear hx hy
      go_wp2_with fail
      go_region_held3 (fun w' => w'.cell? ⟨b1, k * 2, none⟩ = some (.int .i8 x) ∧ w'.cell? ⟨b1, k * 2 + 1, none⟩ = some (.int .i16 y) ∧ w'.cell? ⟨b2, k * 2, none⟩ = some (.int .i8 x) ∧ w'.cell? ⟨b2, k * 2 + 1, none⟩ = some (.int .i16 y)) (first | exact hq | exact ⟨x1, x2, y1, y2⟩) ((go_at_call 37; have hX := eqJoint_same x y wr.drew; refine hX.mono ?_; clear hX; rintro e w1 ⟨rfl, hB1⟩; have hq := And.intro ((hB1.cell (p := ⟨b1, k * 2, none⟩) (Nat.lt_of_lt_of_le hb1 hzr)).trans x1) (And.intro ((hB1.cell (p := ⟨b1, k * 2 + 1, none⟩) (Nat.lt_of_lt_of_le hb1 hzr)).trans x2) (And.intro ((hB1.cell (p := ⟨b2, k * 2, none⟩) (Nat.lt_of_lt_of_le hb2 hzr)).trans y1) ((hB1.cell (p := ⟨b2, k * 2 + 1, none⟩) (Nat.lt_of_lt_of_le hb2 hzr)).trans y2)))))
      go_wp2_with fail
      all_goals go_roundw
      case rel => exact ⟨k + 1, by omega, by go_num, hB.trans ((Below.refl wr.heap.size wr).drew.mono hzr |>.trans (hB1.mono hzr))⟩
      case measure => simp [intOf]; omega
    · obtain rfl : k = n := by omega
      go_wp2_with fail
      go_ret
      exact ⟨rfl, hB⟩

theorem cell_apart {W : World} {a p : Addr} {u : Value} (h : p.block ≠ a.block) : (W.setCell a u).cell? p = W.cell? p := World.cell?_of_block (Below.heap_setCell W a u p.block h)
theorem eqMotion_same (b1 b2 n c1 c2 g1 g2 m e1 e2 : Nat) (zs : List Int) (js : List (Int × Int)) (w : World) (h1 : Stk w b1 zs) (h2 : Stk w b2 zs) (hn : n = zs.length) (k1 : Jst w g1 js) (k2 : Jst w g2 js) (hm : m = js.length) :
    Calls Tryz.prog 6 #[.agg #[.slice (some ⟨b1, 0, none⟩) n c1, .slice (some ⟨g1, 0, none⟩) m e1], .agg #[.slice (some ⟨b2, 0, none⟩) n c2, .slice (some ⟨g2, 0, none⟩) m e2]] w fun e w' => e = .returned (.bool true) ∧ Below w.heap.size w w' := by
  have bel : Below w.heap.size w ((w.alloc (.cells #[.slice (some ⟨b1, 0, none⟩) n c1, .slice (some ⟨g1, 0, none⟩) m e1] 26)).alloc (.cells #[.slice (some ⟨b2, 0, none⟩) n c2, .slice (some ⟨g2, 0, none⟩) m e2] 26)) := ((Below.refl _ w).alloc (Nat.le_refl _) _).alloc (by simp) _
  have r1 := hid ((Row.new w 26 [.slice (some ⟨b1, 0, none⟩) n c1, .slice (some ⟨g1, 0, none⟩) m e1]).alloc (.cells #[.slice (some ⟨b2, 0, none⟩) n c2, .slice (some ⟨g2, 0, none⟩) m e2] 26))
  have r2' := Row.new (w.alloc (.cells #[.slice (some ⟨b1, 0, none⟩) n c1, .slice (some ⟨g1, 0, none⟩) m e1] 26)) 26 [.slice (some ⟨b2, 0, none⟩) n c2, .slice (some ⟨g2, 0, none⟩) m e2]
  simp only [World.size_alloc] at r2'
  have r2 := hid r2'
  have HE := hid (eqStack_same b1 b2 n c1 c2 zs _ (h1.below bel h1.1) (h2.below bel h2.1) hn)
  have HJ := hid (fun w1 (hB : Below (w.heap.size + 1 + 1) ((w.alloc (.cells #[.slice (some ⟨b1, 0, none⟩) n c1, .slice (some ⟨g1, 0, none⟩) m e1] 26)).alloc (.cells #[.slice (some ⟨b2, 0, none⟩) n c2, .slice (some ⟨g2, 0, none⟩) m e2] 26)) w1) => eqJoints_same g1 g2 m e1 e2 js w1 ((k1.below bel k1.1).below hB (by have := k1.1; omega)) ((k2.below bel k2.1).below hB (by have := k2.1; omega)) hm)
  clear h1 h2 hn k1 k2 hm r2'
  go_enter Tryz.func6, Tryz.ntmps6
  go_wp2_with fail
  refine HE.out.mono ?_
  rintro e w1 ⟨rfl, hB1⟩
  have hz1 := hB1.size
  simp only [World.size_alloc] at hB1 hz1
  have s1 := r1.out.below hB1 (by omega)
  have s2 := r2.out.below hB1 (by omega)
  have c10 := s1.cell 0; have c11 := s1.cell 1; have c20 := s2.cell 0; have c21 := s2.cell 1
  simp only [List.getElem?_cons_zero, List.getElem?_cons_succ] at c10 c11 c20 c21
  clear s1 s2
  go_wp2_with fail
  refine (HJ.out w1 hB1).mono ?_
  rintro e w2 ⟨rfl, hB2⟩
  clear c10 c11 c20 c21
  go_wp2_with fail
  go_ret
  exact ⟨rfl, bel.trans ((hB1.mono (by omega)).trans (hB2.mono (by omega)))⟩

/-- a copy of a motion -/
def MoR (w : World) (zs : List Int) (js : List (Int × Int)) (len len' : Nat) (e : Ending) (w' : World) : Prop :=
  ∃ B G, e = .returned (.agg #[.slice (some ⟨B, 0, none⟩) len len, .slice (some ⟨G, 0, none⟩) len' len']) ∧ Below w.heap.size w w' ∧ Stk w' B zs ∧ Jst w' G js ∧ w.heap.size ≤ B ∧ w.heap.size ≤ G
theorem motion_here : True := trivial
section
variable {H : Type} {enc : TypeId × Value → H} {P : Program} {W : World}
theorem list_of {α : Type} (d : α) (Q : Nat → α → Prop) : ∀ (n : Nat), (∀ i, i < n → ∃ x, Q i x) → ∃ l : List α, l.length = n ∧ ∀ i, i < n → Q i (l[i]?.getD d)
  | 0, _ => ⟨[], rfl, fun i h => by omega⟩
  | n + 1, h => by
    obtain ⟨l, hl, hq⟩ := list_of d Q n (fun i hi => h i (by omega))
    obtain ⟨x, hx⟩ := h n (by omega)
    refine ⟨l ++ [x], by simp [hl], fun i hi => ?_⟩
    by_cases e : i = n
    · subst e
      simpa [← hl] using hx
    · have := hq i (by omega)
      rwa [List.getElem?_append_left (by omega)]
theorem open_bytesV {t e : TypeId} (ht : P.underlying t = some (.slice e)) (he : P.underlying e = some (.int .u8)) (hc : P.cellsOf e = 1) {n : Nat} {v : Value} {y : DataW H × List MemPlace}
    (h : DataW.trod enc P W 0 (fun _ => true) true n t [v] = some y) : ∃ a len cap zs, v = .slice a len cap ∧ len ≤ 9223372036854775807 ∧ InB W a len zs := by
  rcases open_ints ht he hc h with ⟨hcs, _⟩ | ⟨x, l, c, zs, hcs, _, hl, hm, _⟩
  · obtain rfl : v = .slice none 0 0 := by simpa using hcs
    obtain ⟨zs, hz⟩ := open_bytes ht he hc (d := y.1) (p := y.2) ⟨n, h⟩
    exact ⟨_, _, _, zs, rfl, by omega, hz⟩
  · obtain rfl : v = .slice (some x) l c := by simpa using hcs
    obtain ⟨zs, hz⟩ := open_bytes ht he hc (d := y.1) (p := y.2) ⟨n, h⟩
    exact ⟨_, _, _, zs, rfl, by unfold maxLen at hm; omega, hz⟩
theorem open_joints {t e : TypeId} {f0 f1 : Field} (ht : P.underlying t = some (.slice e)) (he : P.underlying e = some (.struct #[f0, f1])) (h0 : P.underlying f0.type = some (.int .i8)) (h1 : P.underlying f1.type = some (.int .i16))
    (hone : Go.Deep.oneCellFields P #[f0, f1] = true) (hC : P.cellsOf e = 2) {n : Nat} {v : Value} {y : DataW H × List MemPlace}
    (h : DataW.trod enc P W 0 (fun _ => true) true n t [v] = some y) : ∃ a len cap js, v = .slice a len cap ∧ len ≤ 9223372036854775807 ∧ InJ W a len js := by
  rcases Go.Deep.open_slice ht h with ⟨hcs, _⟩ | ⟨x, l, c, m, n', D, Pl, hcs, _, hl, hm, hmm, _, hi⟩
  · obtain rfl : v = .slice none 0 0 := by simpa using hcs
    exact ⟨_, _, _, [], rfl, by omega, rfl, fun j hj => by omega, .inl rfl⟩
  · obtain rfl : v = .slice (some x) l c := by simpa using hcs
    have each : ∀ i, i < l → ∃ p : Int × Int, ((-128 ≤ p.1 ∧ p.1 ≤ 127) ∧ (-32768 ≤ p.2 ∧ p.2 ≤ 32767)) ∧ W.cell? (x.add (i * 2)) = some (.int .i8 p.1) ∧ W.cell? (x.add (i * 2 + 1)) = some (.int .i16 p.2) := fun i hil => by
      obtain ⟨cs', hc, ht'⟩ := hi i (by rw [hmm]; split <;> omega)
      rw [hC] at hc
      obtain ⟨_, hcl, hat⟩ := World.cells?_some hc
      obtain ⟨xs, n2, _, _, _, hxl, hf⟩ := DataW.trod_struct he ht'
      obtain ⟨o0, k0⟩ := Go.Deep.hone_of hone 0 f0 rfl
      obtain ⟨o1, k1⟩ := Go.Deep.hone_of hone 1 f1 rfl
      match cs', hcl with
      | [u0, u1], _ =>
        have g0 := hf 0 f0 rfl
        have g1 := hf 1 f1 rfl
        rw [o0, k0] at g0
        rw [o1, k1] at g1
        have x0 : xs[0]? = some (xs[0]'(by rw [hxl]; show _ < 2; omega)) := List.getElem?_eq_getElem _
        have x1 : xs[1]? = some (xs[1]'(by rw [hxl]; show _ < 2; omega)) := List.getElem?_eq_getElem _
        rw [x0] at g0
        rw [x1] at g1
        obtain ⟨z0, e0, _, w0⟩ := DataW.trod_int h0 g0
        obtain ⟨z1, e1, _, w1⟩ := DataW.trod_int h1 g1
        simp at e0 e1
        have a0 := hat 0 (by omega)
        have a1 := hat 1 (by omega)
        have b0 := bounds_i8 w0
        have b1 := bounds_i16 w1
        refine ⟨(z0, z1), ⟨b0, b1⟩, ?_, ?_⟩
        · have : x.add (i * 2) = (x.add (i * 2)).add 0 := by simp [Addr.add]
          rw [this, a0]; simp [e0]
        · have : x.add (i * 2 + 1) = (x.add (i * 2)).add 1 := by rw [Go.Deep.add_add]
          rw [this, a1]; simp [e1]
    obtain ⟨js, hjl, hj⟩ := list_of ((0 : Int), (0 : Int)) _ l each
    refine ⟨_, _, _, js, rfl, by unfold maxLen at hm; omega, hjl, fun j hjl' => (hj j hjl').1, ?_⟩
    by_cases hl0 : l = 0
    · exact .inl hl0
    · right
      have c0 := (hj 0 (by omega)).2.1
      obtain ⟨b, off, spot⟩ := x
      have hspot : spot = none := by simpa [Addr.add] using World.cell?_spot c0
      subst hspot
      have hb : b < W.heap.size := by
        by_cases hb : b < W.heap.size
        · exact hb
        · simp [World.cell?, Addr.add, Array.getElem?_eq_none (Nat.le_of_not_lt hb)] at c0
      have ad : ∀ k, (⟨b, off, none⟩ : Addr).add k = ⟨b, off + k, none⟩ := fun k => by
        by_cases h : k = 0
        · subst h; simp [Addr.add]
        · simp [Addr.add, h]
      refine ⟨b, off, rfl, hb, fun j hjl' => ?_⟩
      have := (hj j hjl').2
      rw [ad, ad] at this
      exact ⟨this.1, by rw [← Nat.add_assoc] at this; exact this.2⟩
theorem open_motion {r : Reach} {b0 : Nat} {t eB eJ : TypeId} {f0 f1 j0 j1 : Field} {v : Value} {d : DataW H} {p : List MemPlace} (hs : P.underlying t = some (.struct #[f0, f1])) (hone : Go.Deep.oneCellFields P #[f0, f1] = true) (hC : P.cellsOf t = 2)
    (tB : P.underlying f0.type = some (.slice eB)) (uB : P.underlying eB = some (.int .u8)) (cB : P.cellsOf eB = 1)
    (tJ : P.underlying f1.type = some (.slice eJ)) (uJ : P.underlying eJ = some (.struct #[j0, j1])) (k0 : P.underlying j0.type = some (.int .i8)) (k1 : P.underlying j1.type = some (.int .i16)) (honeJ : Go.Deep.oneCellFields P #[j0, j1] = true) (cJ : P.cellsOf eJ = 2)
    (hv : Value.okWide P W r b0 t v) (h : DataW.Trod enc P W 0 (fun _ => true) true t v d p) :
    ∃ a len cap zs a' len' cap' js, v = .agg #[.slice a len cap, .slice a' len' cap'] ∧ len ≤ 9223372036854775807 ∧ len' ≤ 9223372036854775807 ∧ InB W a len zs ∧ InJ W a' len' js := by
  obtain ⟨v0, v1, y0, y1, n, rfl, _, _, g0, g1⟩ := Go.Joins.open_agg2 hs hone hC hv h
  obtain ⟨a, len, cap, zs, rfl, hl, hz⟩ := open_bytesV tB uB cB g0
  obtain ⟨a', len', cap', js, rfl, hl', hj⟩ := open_joints tJ uJ k0 k1 honeJ cJ g1
  exact ⟨a, len, cap, zs, a', len', cap', js, rfl, hl, hl', hz, hj⟩
end
end Go.Proofs.YtklkdbfdejabiaaGreatDoor
