/- Devices: a stack, eight digits, two numbers and a truth value; opened, copied, compared. -/
import Derived.Test.YtangjgfjojfcaaaOpen
import Derived.Test.YtangjgfjojfcaaaRatio
import Derived.Test.YtangjgfjojfcaaaOpenR
import Derived.Lib.SmallJoins
import Derived.Deep.RegionHeld3
import Derived.RegionTactic
import Derived.Deep.DeepCutAuto
import Derived.Deep.Slices
import Derived.Deep.Fields
namespace Go.Proofs.Ytangjgfjojfcaaa
open Go.RowKit Go.ChangeShapes Go.WideShapes Go.ChangeAt
section
variable {H : Type} {enc : TypeId × Value → H} {P : Program} {W : World}
theorem open_bytesD {t e : TypeId} (ht : P.underlying t = some (.slice e)) (he : P.underlying e = some (.int .u8)) (hc : P.cellsOf e = 1) {n : Nat} {v : Value} {y : DataW H × List MemPlace}
    (h : DataW.trod enc P W 0 (fun _ => true) true n t [v] = some y) : ∃ a len cap zs, v = .slice a len cap ∧ len ≤ 9223372036854775807 ∧ InB W a len zs := by
  rcases open_ints ht he hc h with ⟨hcs, _⟩ | ⟨x, l, c, zs, hcs, _, hl, hm, _⟩
  · obtain rfl : v = .slice none 0 0 := by simpa using hcs
    obtain ⟨zs, hz⟩ := open_bytes ht he hc (d := y.1) (p := y.2) ⟨n, h⟩
    exact ⟨_, _, _, zs, rfl, by omega, hz⟩
  · obtain rfl : v = .slice (some x) l c := by simpa using hcs
    obtain ⟨zs, hz⟩ := open_bytes ht he hc (d := y.1) (p := y.2) ⟨n, h⟩
    exact ⟨_, _, _, zs, rfl, by unfold maxLen at hm; omega, hz⟩
/-- eight bytes within a struct -/
theorem open_octC {t e : TypeId} {c0 c1 c2 c3 c4 c5 c6 c7 : Value} {n : Nat} {y : DataW H × List MemPlace} (ht : P.underlying t = some (.array 8 e)) (he : P.underlying e = some (.int .u8)) (hc : P.cellsOf e = 1)
    (h : DataW.trod enc P W 0 (fun _ => true) true n t [c0, c1, c2, c3, c4, c5, c6, c7] = some y) :
    ∃ d0 d1 d2 d3 d4 d5 d6 d7 : Int, [c0, c1, c2, c3, c4, c5, c6, c7] = [Value.int .u8 d0, .int .u8 d1, .int .u8 d2, .int .u8 d3, .int .u8 d4, .int .u8 d5, .int .u8 d6, .int .u8 d7] ∧ Oct d0 d1 d2 d3 d4 d5 d6 d7 := by
  obtain ⟨xs, m, _, _, _, hl, hall⟩ := DataW.trod_array ht h
  have key : ∀ (i : Nat) (c : Value), i < 8 → ([c0, c1, c2, c3, c4, c5, c6, c7] : List Value)[i]? = some c → ∃ n, c = .int .u8 n ∧ 0 ≤ n ∧ n ≤ 255 := by
    intro i c hi hcc
    have hi' := hall i hi
    rw [hc] at hi'
    have hx : (([c0, c1, c2, c3, c4, c5, c6, c7].drop (i * 1)).take 1) = [c] := by
      rw [Nat.mul_one]
      match i, hi, hcc with
      | 0, _, h | 1, _, h | 2, _, h | 3, _, h | 4, _, h | 5, _, h | 6, _, h | 7, _, h => simp at h; subst h; rfl
    rw [hx] at hi'
    obtain ⟨y, hy⟩ : ∃ y, xs[i]? = some y := ⟨_, List.getElem?_eq_getElem (by omega)⟩
    rw [hy] at hi'
    obtain ⟨n, e0, _, wn⟩ := DataW.trod_int he hi'
    simp only [List.cons.injEq, and_true] at e0
    have := bounds_u8 wn
    exact ⟨n, e0, by omega, by omega⟩
  obtain ⟨d0, rfl, b0⟩ := key 0 c0 (by omega) rfl
  obtain ⟨d1, rfl, b1⟩ := key 1 c1 (by omega) rfl
  obtain ⟨d2, rfl, b2⟩ := key 2 c2 (by omega) rfl
  obtain ⟨d3, rfl, b3⟩ := key 3 c3 (by omega) rfl
  obtain ⟨d4, rfl, b4⟩ := key 4 c4 (by omega) rfl
  obtain ⟨d5, rfl, b5⟩ := key 5 c5 (by omega) rfl
  obtain ⟨d6, rfl, b6⟩ := key 6 c6 (by omega) rfl
  obtain ⟨d7, rfl, b7⟩ := key 7 c7 (by omega) rfl
  exact ⟨d0, d1, d2, d3, d4, d5, d6, d7, rfl, b0, b1, b2, b3, b4, b5, b6, b7⟩
theorem array12 {α : Type} {cs : Array α} (h : cs.size = 12) : ∃ c0 c1 c2 c3 c4 c5 c6 c7 c8 c9 c10 c11, cs = #[c0, c1, c2, c3, c4, c5, c6, c7, c8, c9, c10, c11] := by
  obtain ⟨l⟩ := cs
  simp at h
  match l, h with
  | [c0, c1, c2, c3, c4, c5, c6, c7, c8, c9, c10, c11], _ => exact ⟨c0, c1, c2, c3, c4, c5, c6, c7, c8, c9, c10, c11, rfl⟩
theorem array10 {α : Type} {cs : Array α} (h : cs.size = 10) : ∃ c0 c1 c2 c3 c4 c5 c6 c7 c8 c9, cs = #[c0, c1, c2, c3, c4, c5, c6, c7, c8, c9] := by
  obtain ⟨l⟩ := cs
  simp at h
  match l, h with
  | [c0, c1, c2, c3, c4, c5, c6, c7, c8, c9], _ => exact ⟨c0, c1, c2, c3, c4, c5, c6, c7, c8, c9, rfl⟩
/-- the places of a device's fields -/
def devFields (P : Program) (f0 f1 f2 f3 f4 : Field) : Bool :=
  f0.offset == 0 && P.cellsOf f0.type == 1 && (f1.offset == 1 && P.cellsOf f1.type == 8) && (f2.offset == 9 && P.cellsOf f2.type == 1) && (f3.offset == 10 && P.cellsOf f3.type == 1) && (f4.offset == 11 && P.cellsOf f4.type == 1)
theorem open_device {r : Reach} {b0 : Nat} {t eB eD : TypeId} {f0 f1 f2 f3 f4 : Field} {v : Value} {d : DataW H} {p : List MemPlace} (hs : P.underlying t = some (.struct #[f0, f1, f2, f3, f4])) (hone : devFields P f0 f1 f2 f3 f4 = true) (hC : P.cellsOf t = 12)
    (tB : P.underlying f0.type = some (.slice eB)) (uB : P.underlying eB = some (.int .u8)) (cB : P.cellsOf eB = 1) (tD : P.underlying f1.type = some (.array 8 eD)) (uD : P.underlying eD = some (.int .u8)) (cD : P.cellsOf eD = 1)
    (k2 : P.underlying f2.type = some (.int .i64)) (k3 : P.underlying f3.type = some .bool) (k4 : P.underlying f4.type = some (.int .i64))
    (hv : Value.okWide P W r b0 t v) (h : DataW.Trod enc P W 0 (fun _ => true) true t v d p) :
    ∃ a len cap zs d0 d1 d2 d3 d4 d5 d6 d7 pr st tk, v = .agg #[.slice a len cap, .int .u8 d0, .int .u8 d1, .int .u8 d2, .int .u8 d3, .int .u8 d4, .int .u8 d5, .int .u8 d6, .int .u8 d7, .int .i64 pr, .bool st, .int .i64 tk] ∧ len ≤ 9223372036854775807 ∧ InB W a len zs ∧ Oct d0 d1 d2 d3 d4 d5 d6 d7 ∧ I64 pr ∧ I64 tk := by
  obtain ⟨cs, rfl, hsz⟩ := okWide_struct hs hv
  obtain ⟨c0, c1, c2, c3, c4, c5, c6, c7, c8, c9, c10, c11, rfl⟩ := array12 (hsz.trans hC)
  obtain ⟨fuel, hf⟩ := h
  obtain ⟨xs, n, _, _, hl, hlen, hf⟩ := DataW.trod_struct hs hf
  simp only [devFields, Bool.and_eq_true, beq_iff_eq] at hone
  obtain ⟨⟨⟨⟨⟨o0, s0⟩, o1, s1⟩, o2, s2⟩, o3, s3⟩, o4, s4⟩ := hone
  match xs, hlen with
  | [y0, y1, y2, y3, y4], _ =>
    have g0 := hf 0 f0 rfl
    have g1 := hf 1 f1 rfl
    have g2 := hf 2 f2 rfl
    have g3 := hf 3 f3 rfl
    have g4 := hf 4 f4 rfl
    simp [Value.cells, o0, s0] at g0
    simp [Value.cells, o1, s1] at g1
    simp [Value.cells, o2, s2] at g2
    simp [Value.cells, o3, s3] at g3
    simp [Value.cells, o4, s4] at g4
    obtain ⟨a, len, cap, zs, rfl, hll, hz⟩ := open_bytesD tB uB cB g0
    obtain ⟨d0, d1, d2, d3, d4, d5, d6, d7, e1, ho⟩ := open_octC tD uD cD g1
    obtain ⟨z2, e2, _, w2⟩ := DataW.trod_int k2 g2
    obtain ⟨z3, e3, _⟩ := DataW.trod_bool k3 g3
    obtain ⟨z4, e4, _, w4⟩ := DataW.trod_int k4 g4
    simp only [List.cons.injEq, and_true] at e1 e2 e3 e4
    obtain ⟨rfl, rfl, rfl, rfl, rfl, rfl, rfl, rfl⟩ := e1
    subst e2 e3 e4
    exact ⟨a, len, cap, zs, d0, d1, d2, d3, d4, d5, d6, d7, z2, z3, z4, rfl, hll, hz, ho, wf64 w2, wf64 w4⟩
def tickFields (P : Program) (f0 f1 f2 : Field) : Bool :=
  f0.offset == 0 && P.cellsOf f0.type == 1 && (f1.offset == 1 && P.cellsOf f1.type == 8) && (f2.offset == 9 && P.cellsOf f2.type == 1)
theorem open_ticket {r : Reach} {b0 : Nat} {t eD : TypeId} {f0 f1 f2 : Field} {v : Value} {d : DataW H} {p : List MemPlace} (hs : P.underlying t = some (.struct #[f0, f1, f2])) (hone : tickFields P f0 f1 f2 = true) (hC : P.cellsOf t = 10)
    (k0 : P.underlying f0.type = some (.int .i64)) (tD : P.underlying f1.type = some (.array 8 eD)) (uD : P.underlying eD = some (.int .u8)) (cD : P.cellsOf eD = 1) (k2 : P.underlying f2.type = some (.int .u16))
    (hv : Value.okWide P W r b0 t v) (h : DataW.Trod enc P W 0 (fun _ => true) true t v d p) :
    ∃ x d0 d1 d2 d3 d4 d5 d6 d7 c, v = .agg #[.int .i64 x, .int .u8 d0, .int .u8 d1, .int .u8 d2, .int .u8 d3, .int .u8 d4, .int .u8 d5, .int .u8 d6, .int .u8 d7, .int .u16 c] ∧ I64 x ∧ Oct d0 d1 d2 d3 d4 d5 d6 d7 ∧ (0 ≤ c ∧ c ≤ 65535) := by
  obtain ⟨cs, rfl, hsz⟩ := okWide_struct hs hv
  obtain ⟨c0, c1, c2, c3, c4, c5, c6, c7, c8, c9, rfl⟩ := array10 (hsz.trans hC)
  obtain ⟨fuel, hf⟩ := h
  obtain ⟨xs, n, _, _, hl, hlen, hf⟩ := DataW.trod_struct hs hf
  simp only [tickFields, Bool.and_eq_true, beq_iff_eq] at hone
  obtain ⟨⟨⟨o0, s0⟩, o1, s1⟩, o2, s2⟩ := hone
  match xs, hlen with
  | [y0, y1, y2], _ =>
    have g0 := hf 0 f0 rfl
    have g1 := hf 1 f1 rfl
    have g2 := hf 2 f2 rfl
    simp [Value.cells, o0, s0] at g0
    simp [Value.cells, o1, s1] at g1
    simp [Value.cells, o2, s2] at g2
    obtain ⟨z0, e0, _, w0⟩ := DataW.trod_int k0 g0
    obtain ⟨d0, d1, d2, d3, d4, d5, d6, d7, e1, ho⟩ := open_octC tD uD cD g1
    obtain ⟨z2, e2, _, w2⟩ := DataW.trod_int k2 g2
    simp only [List.cons.injEq, and_true] at e0 e1 e2
    obtain ⟨rfl, rfl, rfl, rfl, rfl, rfl, rfl, rfl⟩ := e1
    subst e0 e2
    exact ⟨z0, d0, d1, d2, d3, d4, d5, d6, d7, z2, rfl, wf64 w0, ho, bounds_u16 w2⟩
end
theorem szDevice_ok (a : Option Addr) (len cap : Nat) (d0 d1 d2 d3 d4 d5 d6 d7 : Int) (pr : Int) (st : Bool) (tk : Int) (w : World) (h : len ≤ 1048576) :
    Calls Try.prog 11 #[.agg #[.slice a len cap, .int .u8 d0, .int .u8 d1, .int .u8 d2, .int .u8 d3, .int .u8 d4, .int .u8 d5, .int .u8 d6, .int .u8 d7, .int .i64 pr, .bool st, .int .i64 tk], .int .i64 1048576] w fun e w' => e = .returned (.int .i64 (1048576 - len)) ∧ w.alloc (.cells #[.slice a len cap, .int .u8 d0, .int .u8 d1, .int .u8 d2, .int .u8 d3, .int .u8 d4, .int .u8 d5, .int .u8 d6, .int .u8 d7, .int .i64 pr, .bool st, .int .i64 tk] 25) = w' := by
  have h1 : (0 : Int) ≤ 1048576 - (len : Int) := by omega
  go_enter Try.func11, Try.ntmps11
  go_wp2
  go_ret
  exact ⟨rfl, rfl⟩
theorem szDevice_no (a : Option Addr) (len cap : Nat) (d0 d1 d2 d3 d4 d5 d6 d7 : Int) (pr : Int) (st : Bool) (tk : Int) (w : World) (h : 1048576 < len) (hl : len ≤ 9223372036854775807) :
    Calls Try.prog 11 #[.agg #[.slice a len cap, .int .u8 d0, .int .u8 d1, .int .u8 d2, .int .u8 d3, .int .u8 d4, .int .u8 d5, .int .u8 d6, .int .u8 d7, .int .i64 pr, .bool st, .int .i64 tk], .int .i64 1048576] w fun e w' => e = .returned (.int .i64 (-1)) ∧ w.alloc (.cells #[.slice a len cap, .int .u8 d0, .int .u8 d1, .int .u8 d2, .int .u8 d3, .int .u8 d4, .int .u8 d5, .int .u8 d6, .int .u8 d7, .int .i64 pr, .bool st, .int .i64 tk] 25) = w' := by
  have h1 : 1048576 - (len : Int) < 0 := by omega
  clear h
  go_enter Try.func11, Try.ntmps11
  go_wp2
  go_ret
  exact ⟨rfl, rfl⟩
theorem boxD_bel (w : World) (T : TypeId) (cs : Array Value) : Below w.heap.size w (w.alloc (.cells cs T)) := (Below.refl _ w).alloc (Nat.le_refl _) _
set_option maxRecDepth 100000 in
set_option maxHeartbeats 2000000 in
theorem eqDevice_same (b1 b2 n c1 c2 : Nat) (zs : List Int) (d0 d1 d2 d3 d4 d5 d6 d7 : Int) (pr : Int) (st : Bool) (tk : Int) (w : World) (h1 : Stk w b1 zs) (h2 : Stk w b2 zs) (hn : n = zs.length) :
    Calls Try.prog 15 #[.agg #[.slice (some ⟨b1, 0, none⟩) n c1, .int .u8 d0, .int .u8 d1, .int .u8 d2, .int .u8 d3, .int .u8 d4, .int .u8 d5, .int .u8 d6, .int .u8 d7, .int .i64 pr, .bool st, .int .i64 tk], .agg #[.slice (some ⟨b2, 0, none⟩) n c2, .int .u8 d0, .int .u8 d1, .int .u8 d2, .int .u8 d3, .int .u8 d4, .int .u8 d5, .int .u8 d6, .int .u8 d7, .int .i64 pr, .bool st, .int .i64 tk]] w fun e w' => e = .returned (.bool true) ∧ Below w.heap.size w w' := by
  obtain ⟨W, hW⟩ : ∃ W, W = (w.alloc (.cells #[.slice (some ⟨b1, 0, none⟩) n c1, .int .u8 d0, .int .u8 d1, .int .u8 d2, .int .u8 d3, .int .u8 d4, .int .u8 d5, .int .u8 d6, .int .u8 d7, .int .i64 pr, .bool st, .int .i64 tk] 31)).alloc (.cells #[.slice (some ⟨b2, 0, none⟩) n c2, .int .u8 d0, .int .u8 d1, .int .u8 d2, .int .u8 d3, .int .u8 d4, .int .u8 d5, .int .u8 d6, .int .u8 d7, .int .i64 pr, .bool st, .int .i64 tk] 31) := ⟨_, rfl⟩
  have bel : Below w.heap.size w W := by rw [hW]; exact (boxD_bel w _ _).alloc (by simp) _
  have r1 : Row W w.heap.size 31 [.slice (some ⟨b1, 0, none⟩) n c1, .int .u8 d0, .int .u8 d1, .int .u8 d2, .int .u8 d3, .int .u8 d4, .int .u8 d5, .int .u8 d6, .int .u8 d7, .int .i64 pr, .bool st, .int .i64 tk] := by rw [hW]; exact (Row.new w _ _).alloc _
  have r2 : Row W (w.heap.size + 1) 31 [.slice (some ⟨b2, 0, none⟩) n c2, .int .u8 d0, .int .u8 d1, .int .u8 d2, .int .u8 d3, .int .u8 d4, .int .u8 d5, .int .u8 d6, .int .u8 d7, .int .i64 pr, .bool st, .int .i64 tk] := by
    have h := Row.new (w.alloc (.cells #[.slice (some ⟨b1, 0, none⟩) n c1, .int .u8 d0, .int .u8 d1, .int .u8 d2, .int .u8 d3, .int .u8 d4, .int .u8 d5, .int .u8 d6, .int .u8 d7, .int .i64 pr, .bool st, .int .i64 tk] 31)) 31 [.slice (some ⟨b2, 0, none⟩) n c2, .int .u8 d0, .int .u8 d1, .int .u8 d2, .int .u8 d3, .int .u8 d4, .int .u8 d5, .int .u8 d6, .int .u8 d7, .int .i64 pr, .bool st, .int .i64 tk]
    simp only [World.size_alloc] at h
    rw [hW]; exact h
  have R1 := hid r1
  have R2 := hid r2
  have HE := hid (eqStack_same b1 b2 n c1 c2 zs _ (h1.below bel h1.1) (h2.below bel h2.1) hn)
  have l1 := r1.lt
  have l2 := r2.lt
  have BE := hid bel
  have HW := hid hW
  have n1 : (pr != pr) = false := by simp
  have n2 : (st != st) = false := by simp
  have n3 : (tk != tk) = false := by simp
  clear h1 h2 hn r1 r2 bel hW
  go_enter Try.func15, Try.ntmps15
  go_wp2_with fail
  rw [← HW.out]
  refine HE.out.mono ?_
  rintro e w1 ⟨rfl, hB1⟩
  have s1 := R1.out.below hB1 l1
  have s2 := R2.out.below hB1 l2
  have S1 := hid s1
  have S2 := hid s2
  have p1 := s1.cell 1; have p2 := s1.cell 2; have p3 := s1.cell 3; have p4 := s1.cell 4; have p5 := s1.cell 5; have p6 := s1.cell 6; have p7 := s1.cell 7; have p8 := s1.cell 8; have q1 := s2.cell 1; have q2 := s2.cell 2; have q3 := s2.cell 3; have q4 := s2.cell 4; have q5 := s2.cell 5; have q6 := s2.cell 6; have q7 := s2.cell 7; have q8 := s2.cell 8
  simp only [List.getElem?_cons_zero, List.getElem?_cons_succ] at p1 p2 p3 p4 p5 p6 p7 p8 q1 q2 q3 q4 q5 q6 q7 q8
  clear s1 s2
  go_wp2_with fail
  refine (eqDigits_same _ _ _ _ _ _ _ _ _).mono ?_
  rintro e w2 ⟨rfl, hB2⟩
  have hz1 := hB1.size
  have s1 := S1.out.below hB2 (by omega)
  have s2 := S2.out.below hB2 (by omega)
  clear p1 p2 p3 p4 p5 p6 p7 p8 q1 q2 q3 q4 q5 q6 q7 q8
  have p9 := s1.cell 9; have p10 := s1.cell 10; have p11 := s1.cell 11; have q9 := s2.cell 9; have q10 := s2.cell 10; have q11 := s2.cell 11
  simp only [List.getElem?_cons_zero, List.getElem?_cons_succ] at p9 p10 p11 q9 q10 q11
  clear s1 s2
  go_wp2_with fail
  go_ret
  exact ⟨rfl, BE.out.trans ((hB1.mono BE.out.size).trans (hB2.mono (by have := BE.out.size; omega)))⟩
theorem cell_apartD {W : World} {a p : Addr} {u : Value} (h : p.block ≠ a.block) : (W.setCell a u).cell? p = W.cell? p := World.cell?_of_block (Below.heap_setCell W a u p.block h)
/-- a copy of a device -/
def DeR (w : World) (zs : List Int) (len : Nat) (d0 d1 d2 d3 d4 d5 d6 d7 : Int) (pr : Int) (st : Bool) (tk : Int) (e : Ending) (w' : World) : Prop :=
  ∃ B, e = .returned (.agg #[.slice (some ⟨B, 0, none⟩) len len, .int .u8 d0, .int .u8 d1, .int .u8 d2, .int .u8 d3, .int .u8 d4, .int .u8 d5, .int .u8 d6, .int .u8 d7, .int .i64 pr, .bool st, .int .i64 tk]) ∧ Below w.heap.size w w' ∧ Stk w' B zs ∧ w.heap.size ≤ B
set_option maxRecDepth 100000 in
set_option maxHeartbeats 4000000 in
theorem toDevice_any (a : Option Addr) (len cap : Nat) (zs : List Int) (d0 d1 d2 d3 d4 d5 d6 d7 : Int) (pr : Int) (st : Bool) (tk : Int) (w : World) (h : InB w a len zs) (hl : len ≤ 1048576) :
    Calls Try.prog 13 #[.agg #[.slice a len cap, .int .u8 d0, .int .u8 d1, .int .u8 d2, .int .u8 d3, .int .u8 d4, .int .u8 d5, .int .u8 d6, .int .u8 d7, .int .i64 pr, .bool st, .int .i64 tk]] w (DeR w zs len d0 d1 d2 d3 d4 d5 d6 d7 pr st tk) := by
  obtain ⟨U, hU⟩ : ∃ U, U = (((w.alloc (.cells #[.slice a len cap, .int .u8 d0, .int .u8 d1, .int .u8 d2, .int .u8 d3, .int .u8 d4, .int .u8 d5, .int .u8 d6, .int .u8 d7, .int .i64 pr, .bool st, .int .i64 tk] 25)).alloc (.cells #[.slice none 0 0, .int .u8 0, .int .u8 0, .int .u8 0, .int .u8 0, .int .u8 0, .int .u8 0, .int .u8 0, .int .u8 0, .int .i64 0, .bool false, .int .i64 0] 31)).alloc (.cells #[.slice none 0 0, .int .u8 0, .int .u8 0, .int .u8 0, .int .u8 0, .int .u8 0, .int .u8 0, .int .u8 0, .int .u8 0, .int .i64 0, .bool false, .int .i64 0] 31)) := ⟨_, rfl⟩
  have bel : Below w.heap.size w U := by rw [hU]; exact (((Below.refl _ w).alloc (Nat.le_refl _) _).alloc (by simp) _).alloc (by simp; omega) _
  have rA : Row U w.heap.size 25 [.slice a len cap, .int .u8 d0, .int .u8 d1, .int .u8 d2, .int .u8 d3, .int .u8 d4, .int .u8 d5, .int .u8 d6, .int .u8 d7, .int .i64 pr, .bool st, .int .i64 tk] := by rw [hU]; exact ((Row.new w _ _).alloc _).alloc _
  have r1 : Row U (w.heap.size + 1) 31 [.slice none 0 0, .int .u8 0, .int .u8 0, .int .u8 0, .int .u8 0, .int .u8 0, .int .u8 0, .int .u8 0, .int .u8 0, .int .i64 0, .bool false, .int .i64 0] := by
    have h := (Row.new (w.alloc (.cells #[.slice a len cap, .int .u8 d0, .int .u8 d1, .int .u8 d2, .int .u8 d3, .int .u8 d4, .int .u8 d5, .int .u8 d6, .int .u8 d7, .int .i64 pr, .bool st, .int .i64 tk] 25)) 31 [.slice none 0 0, .int .u8 0, .int .u8 0, .int .u8 0, .int .u8 0, .int .u8 0, .int .u8 0, .int .u8 0, .int .u8 0, .int .i64 0, .bool false, .int .i64 0]).alloc (.cells #[.slice none 0 0, .int .u8 0, .int .u8 0, .int .u8 0, .int .u8 0, .int .u8 0, .int .u8 0, .int .u8 0, .int .u8 0, .int .i64 0, .bool false, .int .i64 0] 31)
    simp only [World.size_alloc] at h
    rw [hU]; exact h
  have r2 : Row U (w.heap.size + 1 + 1) 31 [.slice none 0 0, .int .u8 0, .int .u8 0, .int .u8 0, .int .u8 0, .int .u8 0, .int .u8 0, .int .u8 0, .int .u8 0, .int .i64 0, .bool false, .int .i64 0] := by
    have h := Row.new ((w.alloc (.cells #[.slice a len cap, .int .u8 d0, .int .u8 d1, .int .u8 d2, .int .u8 d3, .int .u8 d4, .int .u8 d5, .int .u8 d6, .int .u8 d7, .int .i64 pr, .bool st, .int .i64 tk] 25)).alloc (.cells #[.slice none 0 0, .int .u8 0, .int .u8 0, .int .u8 0, .int .u8 0, .int .u8 0, .int .u8 0, .int .u8 0, .int .u8 0, .int .i64 0, .bool false, .int .i64 0] 31)) 31 [.slice none 0 0, .int .u8 0, .int .u8 0, .int .u8 0, .int .u8 0, .int .u8 0, .int .u8 0, .int .u8 0, .int .u8 0, .int .i64 0, .bool false, .int .i64 0]
    simp only [World.size_alloc] at h
    rw [hU]; exact h
  have sU : U.heap.size = w.heap.size + 1 + 1 + 1 := by rw [hU]; simp
  have HU := hid hU
  have RA := hid rA
  have R1 := hid r1
  have R2 := hid r2
  have SU := hid sU
  have BE := hid bel
  have hI := hid (h.below bel (Nat.le_refl _))
  clear h r1 r2 rA bel sU hU
  go_enter Try.func13, Try.ntmps13
  go_wp2_with fail
  rw [← HU.out]
  refine (toStack_any a len cap zs _ hI.out hl).mono ?_
  rintro e w1 ⟨rfl, hB1, hS1, hz1⟩
  rw [SU.out] at hB1 hS1 hz1 ⊢
  have q1 := R1.out.below hB1 (by omega)
  have q2 := R2.out.below hB1 (by omega)
  have qa := RA.out.below hB1 (by omega)
  have hbs : Below w.heap.size w w1 := BE.out.trans (hB1.mono (by omega))
  have HS := hid hS1
  obtain ⟨V0, hV0⟩ : ∃ V, V = w1.setCell ⟨w.heap.size + 1 + 1, 0, none⟩ (.slice (some ⟨w.heap.size + 1 + 1 + 1, 0, none⟩) len len) := ⟨_, rfl⟩
  have ne1 : w.heap.size + 1 + 1 ≠ w.heap.size + 1 := by omega
  have nea : w.heap.size + 1 + 1 ≠ w.heap.size := by omega
  have Q1 := hid (show Row V0 (w.heap.size + 1) 31 [.slice none 0 0, .int .u8 0, .int .u8 0, .int .u8 0, .int .u8 0, .int .u8 0, .int .u8 0, .int .u8 0, .int .u8 0, .int .i64 0, .bool false, .int .i64 0] by rw [hV0]; exact q1.other ne1 _)
  have Q2 := hid (show Row V0 (w.heap.size + 1 + 1) 31 [.slice (some ⟨w.heap.size + 1 + 1 + 1, 0, none⟩) len len, .int .u8 0, .int .u8 0, .int .u8 0, .int .u8 0, .int .u8 0, .int .u8 0, .int .u8 0, .int .u8 0, .int .i64 0, .bool false, .int .i64 0] by rw [hV0]; exact q2.set 0 _)
  have QA0 := (show Row V0 w.heap.size 25 [.slice a len cap, .int .u8 d0, .int .u8 d1, .int .u8 d2, .int .u8 d3, .int .u8 d4, .int .u8 d5, .int .u8 d6, .int .u8 d7, .int .i64 pr, .bool st, .int .i64 tk] by rw [hV0]; exact qa.other nea _)
  have QA := hid QA0
  have B0 := hid (show Below w.heap.size w V0 by rw [hV0]; exact hbs.setCell (p := ⟨w.heap.size + 1 + 1, 0, none⟩) (by show w.heap.size ≤ w.heap.size + 1 + 1; omega) _)
  have S0 := hid (show Stk V0 (w.heap.size + 1 + 1 + 1) zs by
    rw [hV0]
    refine ⟨by rw [World.size_setCell]; exact HS.out.1, fun j hj => ?_, HS.out.2.2⟩
    rw [cell_apartD (by show w.heap.size + 1 + 1 + 1 ≠ w.heap.size + 1 + 1; omega)]
    exact HS.out.2.1 j hj)
  have Z0 := hid (show V0.heap.size = w1.heap.size by rw [hV0]; simp)
  have HV0 := hid hV0
  have k0 := q2.cell 0
  have f0 := q2.frozen 0
  simp only [List.getElem?_cons_zero] at k0
  have p1 := QA0.cell 1; have p2 := QA0.cell 2; have p3 := QA0.cell 3; have p4 := QA0.cell 4; have p5 := QA0.cell 5; have p6 := QA0.cell 6; have p7 := QA0.cell 7; have p8 := QA0.cell 8
  simp only [List.getElem?_cons_zero, List.getElem?_cons_succ] at p1 p2 p3 p4 p5 p6 p7 p8
  clear q1 q2 qa hB1 hS1 hbs QA0
  go_upto_region 3 with fail
  rw [← HV0.out]
  clear k0 f0 hV0
  go_wp2_with fail
  refine (toDigits_any d0 d1 d2 d3 d4 d5 d6 d7 _).mono ?_
  rintro e w2 ⟨rfl, hB2⟩
  have hz2 := hB2.size
  rw [Z0.out] at hz2
  have q1 := Q1.out.below hB2 (by rw [Z0.out]; omega)
  have q2 := Q2.out.below hB2 (by rw [Z0.out]; omega)
  have qa := QA.out.below hB2 (by rw [Z0.out]; omega)
  have HB := hid (B0.out.trans (hB2.mono (by rw [Z0.out]; omega)))
  have HS2 := hid (S0.out.below hB2 (by rw [Z0.out]; omega))
  obtain ⟨V, hV⟩ : ∃ V, V = (((((((((((w2.setCell ⟨w.heap.size + 1 + 1, 1, none⟩ (.int .u8 d0)).setCell ⟨w.heap.size + 1 + 1, 2, none⟩ (.int .u8 d1)).setCell ⟨w.heap.size + 1 + 1, 3, none⟩ (.int .u8 d2)).setCell ⟨w.heap.size + 1 + 1, 4, none⟩ (.int .u8 d3)).setCell ⟨w.heap.size + 1 + 1, 5, none⟩ (.int .u8 d4)).setCell ⟨w.heap.size + 1 + 1, 6, none⟩ (.int .u8 d5)).setCell ⟨w.heap.size + 1 + 1, 7, none⟩ (.int .u8 d6)).setCell ⟨w.heap.size + 1 + 1, 8, none⟩ (.int .u8 d7)).setCell ⟨w.heap.size + 1 + 1, 9, none⟩ (.int .i64 pr)).setCell ⟨w.heap.size + 1 + 1, 10, none⟩ (.bool st)).setCell ⟨w.heap.size + 1 + 1, 11, none⟩ (.int .i64 tk)) := ⟨_, rfl⟩
  have rV : Row V (w.heap.size + 1 + 1) 31 [.slice (some ⟨w.heap.size + 1 + 1 + 1, 0, none⟩) len len, .int .u8 d0, .int .u8 d1, .int .u8 d2, .int .u8 d3, .int .u8 d4, .int .u8 d5, .int .u8 d6, .int .u8 d7, .int .i64 pr, .bool st, .int .i64 tk] := by rw [hV]; exact (((((((((((q2.set 1 _).set 2 _).set 3 _).set 4 _).set 5 _).set 6 _).set 7 _).set 8 _).set 9 _).set 10 _).set 11 _)
  have rV1 : Row V (w.heap.size + 1) 31 [.slice none 0 0, .int .u8 0, .int .u8 0, .int .u8 0, .int .u8 0, .int .u8 0, .int .u8 0, .int .u8 0, .int .u8 0, .int .i64 0, .bool false, .int .i64 0] := by
    rw [hV]
    have ne : w.heap.size + 1 + 1 ≠ w.heap.size + 1 := by omega
    exact (((((((((((q1.other ne _).other ne _).other ne _).other ne _).other ne _).other ne _).other ne _).other ne _).other ne _).other ne _).other ne _)
  have HVV := hid hV
  have RV := hid rV
  have RV1 := hid rV1
  clear p1 p2 p3 p4 p5 p6 p7 p8
  have p9 := qa.cell 9; have p10 := qa.cell 10; have p11 := qa.cell 11
  have k1 := q2.cell 1; have k2 := q2.cell 2; have k3 := q2.cell 3; have k4 := q2.cell 4; have k5 := q2.cell 5; have k6 := q2.cell 6; have k7 := q2.cell 7; have k8 := q2.cell 8; have k9 := q2.cell 9; have k10 := q2.cell 10; have k11 := q2.cell 11
  have f1 := q2.frozen 1; have f2 := q2.frozen 2; have f3 := q2.frozen 3; have f4 := q2.frozen 4; have f5 := q2.frozen 5; have f6 := q2.frozen 6; have f7 := q2.frozen 7; have f8 := q2.frozen 8; have f9 := q2.frozen 9; have f10 := q2.frozen 10; have f11 := q2.frozen 11
  simp only [List.getElem?_cons_zero, List.getElem?_cons_succ] at p9 p10 p11 k1 k2 k3 k4 k5 k6 k7 k8 k9 k10 k11
  clear q1 q2 qa hV rV rV1 hB2
  go_upto_region 7 with fail
  rw [← HVV.out]
  have D0 := RV.out.cell 0; have D1 := RV.out.cell 1; have D2 := RV.out.cell 2; have D3 := RV.out.cell 3; have D4 := RV.out.cell 4; have D5 := RV.out.cell 5; have D6 := RV.out.cell 6; have D7 := RV.out.cell 7; have D8 := RV.out.cell 8; have D9 := RV.out.cell 9; have D10 := RV.out.cell 10; have D11 := RV.out.cell 11
  have E0 := RV1.out.cell 0; have E1 := RV1.out.cell 1; have E2 := RV1.out.cell 2; have E3 := RV1.out.cell 3; have E4 := RV1.out.cell 4; have E5 := RV1.out.cell 5; have E6 := RV1.out.cell 6; have E7 := RV1.out.cell 7; have E8 := RV1.out.cell 8; have E9 := RV1.out.cell 9; have E10 := RV1.out.cell 10; have E11 := RV1.out.cell 11
  have G0 := RV1.out.frozen 0; have G1 := RV1.out.frozen 1; have G2 := RV1.out.frozen 2; have G3 := RV1.out.frozen 3; have G4 := RV1.out.frozen 4; have G5 := RV1.out.frozen 5; have G6 := RV1.out.frozen 6; have G7 := RV1.out.frozen 7; have G8 := RV1.out.frozen 8; have G9 := RV1.out.frozen 9; have G10 := RV1.out.frozen 10; have G11 := RV1.out.frozen 11
  simp only [List.getElem?_cons_zero, List.getElem?_cons_succ] at D0 D1 D2 D3 D4 D5 D6 D7 D8 D9 D10 D11 E0 E1 E2 E3 E4 E5 E6 E7 E8 E9 E10 E11
  clear p9 p10 p11 k1 k2 k3 k4 k5 k6 k7 k8 k9 k10 k11 f1 f2 f3 f4 f5 f6 f7 f8 f9 f10 f11
  go_wp2_with fail
  clear D0 D1 D2 D3 D4 D5 D6 D7 D8 D9 D10 D11 E0 E1 E2 E3 E4 E5 E6 E7 E8 E9 E10 E11 G0 G1 G2 G3 G4 G5 G6 G7 G8 G9 G10 G11
  have le1 : w.heap.size ≤ w.heap.size + 1 := by omega
  have le2 : w.heap.size ≤ w.heap.size + 1 + 1 := by omega
  have bV : Below w.heap.size w V := by
    rw [HVV.out]
    exact (((((((((((HB.out.setCell (p := ⟨w.heap.size + 1 + 1, 1, none⟩) le2 _).setCell (p := ⟨w.heap.size + 1 + 1, 2, none⟩) le2 _).setCell (p := ⟨w.heap.size + 1 + 1, 3, none⟩) le2 _).setCell (p := ⟨w.heap.size + 1 + 1, 4, none⟩) le2 _).setCell (p := ⟨w.heap.size + 1 + 1, 5, none⟩) le2 _).setCell (p := ⟨w.heap.size + 1 + 1, 6, none⟩) le2 _).setCell (p := ⟨w.heap.size + 1 + 1, 7, none⟩) le2 _).setCell (p := ⟨w.heap.size + 1 + 1, 8, none⟩) le2 _).setCell (p := ⟨w.heap.size + 1 + 1, 9, none⟩) le2 _).setCell (p := ⟨w.heap.size + 1 + 1, 10, none⟩) le2 _).setCell (p := ⟨w.heap.size + 1 + 1, 11, none⟩) le2 _)
  obtain ⟨Y, hY⟩ : ∃ Y, Y = ((((((((((((V.setCell ⟨w.heap.size + 1, 0, none⟩ (.slice (some ⟨w.heap.size + 1 + 1 + 1, 0, none⟩) len len)).setCell ⟨w.heap.size + 1, 1, none⟩ (.int .u8 d0)).setCell ⟨w.heap.size + 1, 2, none⟩ (.int .u8 d1)).setCell ⟨w.heap.size + 1, 3, none⟩ (.int .u8 d2)).setCell ⟨w.heap.size + 1, 4, none⟩ (.int .u8 d3)).setCell ⟨w.heap.size + 1, 5, none⟩ (.int .u8 d4)).setCell ⟨w.heap.size + 1, 6, none⟩ (.int .u8 d5)).setCell ⟨w.heap.size + 1, 7, none⟩ (.int .u8 d6)).setCell ⟨w.heap.size + 1, 8, none⟩ (.int .u8 d7)).setCell ⟨w.heap.size + 1, 9, none⟩ (.int .i64 pr)).setCell ⟨w.heap.size + 1, 10, none⟩ (.bool st)).setCell ⟨w.heap.size + 1, 11, none⟩ (.int .i64 tk)) := ⟨_, rfl⟩
  rw [← hY]
  have rY : Row Y (w.heap.size + 1) 31 [.slice (some ⟨w.heap.size + 1 + 1 + 1, 0, none⟩) len len, .int .u8 d0, .int .u8 d1, .int .u8 d2, .int .u8 d3, .int .u8 d4, .int .u8 d5, .int .u8 d6, .int .u8 d7, .int .i64 pr, .bool st, .int .i64 tk] := by rw [hY]; exact ((((((((((((RV1.out.set 0 _).set 1 _).set 2 _).set 3 _).set 4 _).set 5 _).set 6 _).set 7 _).set 8 _).set 9 _).set 10 _).set 11 _)
  have bY : Below w.heap.size w Y := by
    rw [hY]
    exact ((((((((((((bV.setCell (p := ⟨w.heap.size + 1, 0, none⟩) le1 _).setCell (p := ⟨w.heap.size + 1, 1, none⟩) le1 _).setCell (p := ⟨w.heap.size + 1, 2, none⟩) le1 _).setCell (p := ⟨w.heap.size + 1, 3, none⟩) le1 _).setCell (p := ⟨w.heap.size + 1, 4, none⟩) le1 _).setCell (p := ⟨w.heap.size + 1, 5, none⟩) le1 _).setCell (p := ⟨w.heap.size + 1, 6, none⟩) le1 _).setCell (p := ⟨w.heap.size + 1, 7, none⟩) le1 _).setCell (p := ⟨w.heap.size + 1, 8, none⟩) le1 _).setCell (p := ⟨w.heap.size + 1, 9, none⟩) le1 _).setCell (p := ⟨w.heap.size + 1, 10, none⟩) le1 _).setCell (p := ⟨w.heap.size + 1, 11, none⟩) le1 _)
  have zY : Y.heap.size = w2.heap.size := by rw [hY, HVV.out]; simp
  have cY : ∀ (j : Nat), Y.cell? ⟨w.heap.size + 1 + 1 + 1, j, none⟩ = w2.cell? ⟨w.heap.size + 1 + 1 + 1, j, none⟩ := fun j => by
    have n1 : w.heap.size + 1 + 1 + 1 ≠ w.heap.size + 1 := by omega
    have n2 : w.heap.size + 1 + 1 + 1 ≠ w.heap.size + 1 + 1 := by omega
    rw [hY, HVV.out, cell_apartD n1, cell_apartD n1, cell_apartD n1, cell_apartD n1, cell_apartD n1, cell_apartD n1, cell_apartD n1, cell_apartD n1, cell_apartD n1, cell_apartD n1, cell_apartD n1, cell_apartD n1, cell_apartD n2, cell_apartD n2, cell_apartD n2, cell_apartD n2, cell_apartD n2, cell_apartD n2, cell_apartD n2, cell_apartD n2, cell_apartD n2, cell_apartD n2, cell_apartD n2]
  have sY : Stk Y (w.heap.size + 1 + 1 + 1) zs := ⟨by omega, fun j hj => (cY j).trans (HS2.out.2.1 j hj), HS2.out.2.2⟩
  clear hY
  have g0 := rY.cell 0; have g1 := rY.cell 1; have g2 := rY.cell 2; have g3 := rY.cell 3; have g4 := rY.cell 4; have g5 := rY.cell 5; have g6 := rY.cell 6; have g7 := rY.cell 7; have g8 := rY.cell 8; have g9 := rY.cell 9; have g10 := rY.cell 10; have g11 := rY.cell 11
  simp only [List.getElem?_cons_zero, List.getElem?_cons_succ] at g0 g1 g2 g3 g4 g5 g6 g7 g8 g9 g10 g11
  exact bodyPost_ret (v := .agg #[.slice (some ⟨w.heap.size + 1 + 1 + 1, 0, none⟩) len len, .int .u8 d0, .int .u8 d1, .int .u8 d2, .int .u8 d3, .int .u8 d4, .int .u8 d5, .int .u8 d6, .int .u8 d7, .int .i64 pr, .bool st, .int .i64 tk]) (by simp [results, Try.results13, go_sem, g0, g1, g2, g3, g4, g5, g6, g7, g8, g9, g10, g11]) rfl ⟨_, rfl, bY, sY, by omega⟩
end Go.Proofs.Ytangjgfjojfcaaa
