/- Motions that are copied to be written over. -/
import Derived.Test.YtomhmkdfhhmenaaMotion
import Derived.Test.YtomhmkdfhhmenaaStkR
import Derived.Test.YtomhmkdfhhmenaaOwnI
namespace Go.Proofs.Ytomhmkdfhhmenaa
open Go.RowKit
set_option linter.unusedVariables false
set_option linter.unusedSimpArgs false
theorem OwnI.only {g base : Nat} {w w' : World} {v : Value} {zs : List Int} (h : OwnI w base v zs) (o : OnlyB g w w') (hg : g < base) : OwnI w' base v zs := by
  obtain ⟨a, cap, h1, h2, h3⟩ := h
  refine ⟨a, cap, h1, h2, ?_⟩
  rcases h3 with h0 | ⟨q, rest, e, hq, hr⟩
  · exact .inl h0
  · exact .inr ⟨q, rest, e, hq, o.row hr (by omega)⟩
theorem OwnI.later {w w' : World} {base : Nat} {v : Value} {zs : List Int} (h : OwnI w base v zs) (hb : Below w.heap.size w w') : OwnI w' base v zs := h.low (Below.refl _ _) (Nat.le_refl _) hb
theorem OwnI.base {w : World} {b b' : Nat} {v : Value} {zs : List Int} (h : OwnI w b v zs) (hb : b' ≤ b) : OwnI w b' v zs := by
  obtain ⟨a, cap, h1, h2, h3⟩ := h
  refine ⟨a, cap, h1, h2, ?_⟩
  rcases h3 with h0 | ⟨g, rest, e, hg, hr⟩
  · exact .inl h0
  · exact .inr ⟨g, rest, e, Nat.le_trans hb hg, hr⟩
set_option maxHeartbeats 1000000 in
theorem toJointsR_some (b off len cap : Nat) (js : List (Int × Int)) (hl : len ≤ 1048576) (hz : len = js.length) (w : World) (hbs : b < w.heap.size) (hc : ∀ j, j < len → w.cell? ⟨b, off + j * 2, none⟩ = some (.int .i8 (jk js j)) ∧ w.cell? ⟨b, off + j * 2 + 1, none⟩ = some (.int .i16 (jf js j))) :
    Calls Try.prog 19 #[.slice (some ⟨b, off, none⟩) len cap] w fun e w' => e = .returned (.slice (some ⟨w.heap.size, 0, none⟩) len len) ∧ Below w.heap.size w w' ∧ Row w' w.heap.size 75 (jcp js len len) ∧ w.heap.size < w'.heap.size := by
  obtain ⟨i0, hi, hz0, hz1, hz2⟩ := info_parts Try.infoJoint
  have HC := hid hc
  have HZ := hid hz
  clear hc hz
  go_enter Try.func19, Try.ntmps19
  go_wp2_with (at_make; refine wpList_make_full _ rfl _ _ 31 rfl w.heap.size 75 i0 (.agg #[.int .i8 0, .int .i16 0]) 2 Try.underlying31 hi hz0 hz1 .i64 .i64 _ _ len rfl rfl rfl rfl (by rw [hz2]; omega) (by unfold maxLen; omega) (Nat.le_refl _) ?_; intro w1 hown hgrow)
  have hrow := Row.of_ownsN hown rfl
  rw [jcp_zero js len] at hrow
  have hB1 : Below w.heap.size w w1 := (Below.refl _ w).grown hgrow (Nat.le_refl _) (fun k e => by cases e)
  clear hown hgrow
  go_loopw [4] (fun i wr => ∃ k : Nat, k ≤ len ∧ i = .int .i64 k ∧ Row wr w.heap.size 75 (jcp js len k) ∧ Below w.heap.size w wr) (fun i _ => len - (intOf i).toNat)
  case atStart => exact ⟨0, Nat.zero_le _, rfl, hrow, hB1⟩
  case round =>
    clear hrow hB1
    obtain ⟨k, hk, rfl, hrow, hB⟩ := hrel
    by_cases hlt : k < len
    · have c0 : wr.cell? ⟨b, off + k * 2, none⟩ = some (.int .i8 (jk js k)) := (hB.cell (p := ⟨b, off + k * 2, none⟩) hbs).trans (HC.out k hlt).1
      have c1 : wr.cell? ⟨b, off + k * 2 + 1, none⟩ = some (.int .i16 (jf js k)) := (hB.cell (p := ⟨b, off + k * 2 + 1, none⟩) hbs).trans (HC.out k hlt).2
      have hlr := hrow.lt
      obtain ⟨x, hx⟩ : ∃ x, x = jk js k := ⟨_, rfl⟩
      obtain ⟨y, hy⟩ : ∃ y, y = jf js k := ⟨_, rfl⟩
      rw [← hx] at c0
      rw [← hy] at c1
      have HS := hid (jcp_set js len k hlt)
      rw [← hx, ← hy] at HS
      clear hx hy
      have HR := hid hrow
      clear hrow
      go_wp2_with fail
      refine (toJoint_any x y _).mono ?_
      rintro e w2 ⟨rfl, hB2⟩
      have hz2 := hB2.size
      have r1 := HR.out.below hB2 hlr
      have f0 := r1.frozen (k * 2)
      have f1 := r1.frozen (k * 2 + 1)
      obtain ⟨o0, h0⟩ : ∃ v, w2.cell? ⟨w.heap.size, k * 2, none⟩ = some v := ⟨_, (r1.cell (k * 2)).trans (List.getElem?_eq_getElem (by rw [jcp_len]; omega))⟩
      obtain ⟨o1, h1⟩ : ∃ v, w2.cell? ⟨w.heap.size, k * 2 + 1, none⟩ = some v := ⟨_, (r1.cell (k * 2 + 1)).trans (List.getElem?_eq_getElem (by rw [jcp_len]; omega))⟩
      have r2 := hid ((r1.set (k * 2) (.int .i8 x)).set (k * 2 + 1) (.int .i16 y))
      rw [HS.out] at r2
      have b2 := hid (((hB.trans (hB2.mono (by omega))).setCell (p := ⟨w.heap.size, k * 2, none⟩) (Nat.le_refl _) (.int .i8 x)).setCell (p := ⟨w.heap.size, k * 2 + 1, none⟩) (Nat.le_refl _) (.int .i16 y))
      clear r1
      go_wp2_with fail
      go_roundw
      case rel => exact ⟨k + 1, by omega, by go_num, r2.out, b2.out⟩
      case measure => simp [intOf]; omega
    · obtain rfl : k = len := by omega
      have hlr := hrow.lt
      have HR := hid hrow
      clear hrow
      go_wp2_with fail
      go_ret
      exact ⟨rfl, hB, HR.out, hlr⟩
set_option maxHeartbeats 400000 in
theorem toJointsR_none (a : Option Addr) (cap : Nat) (w : World) :
    Calls Try.prog 19 #[.slice a 0 cap] w fun e w' => e = .returned (.slice (some ⟨w.heap.size, 0, none⟩) 0 0) ∧ Below w.heap.size w w' ∧ Row w' w.heap.size 75 (jcp [] 0 0) ∧ w.heap.size < w'.heap.size := by
  obtain ⟨i0, hi, hz0, hz1, hz2⟩ := info_parts Try.infoJoint
  go_enter Try.func19, Try.ntmps19
  go_wp2_with (at_make; refine wpList_make_full _ rfl _ _ 31 rfl w.heap.size 75 i0 (.agg #[.int .i8 0, .int .i16 0]) 2 Try.underlying31 hi hz0 hz1 .i64 .i64 _ _ 0 rfl rfl rfl rfl (by rw [hz2]; omega) (by unfold maxLen; omega) (Nat.le_refl _) ?_; intro w1 hown hgrow)
  have hrow := Row.of_ownsN hown rfl
  have hB : Below w.heap.size w w1 := (Below.refl _ w).grown hgrow (Nat.le_refl _) (fun k e => by cases e)
  clear hown hgrow
  refine wp_loop_rounds 1 ?_
  rw [rounds_succ]
  go_wp2
  go_ret
  exact ⟨rfl, hB, by simpa [madeCells, jcp] using hrow, hrow.lt⟩
/-- laws.toJointS at whatever argument. -/
theorem toJointsR_any (a : Option Addr) (len cap : Nat) (js : List (Int × Int)) (w : World) (h : InJ w a len js) (hl : len ≤ 1048576) :
    Calls Try.prog 19 #[.slice a len cap] w fun e w' => e = .returned (.slice (some ⟨w.heap.size, 0, none⟩) len len) ∧ Below w.heap.size w w' ∧ Row w' w.heap.size 75 (jcp js len len) ∧ w.heap.size < w'.heap.size := by
  by_cases h0 : len = 0
  · have hz := h.1
    subst h0
    obtain rfl : js = [] := List.length_eq_zero_iff.1 hz
    exact toJointsR_none a cap w
  · rcases h.2.2 with h0' | ⟨b, off, rfl, hb, hc⟩
    · exact absurd h0' h0
    · exact toJointsR_some b off len cap js hl h.1.symm w hb hc
/-- a copy of a motion -/
def MoRR (w : World) (zs : List Int) (js : List (Int × Int)) (len len' : Nat) (e : Ending) (w' : World) : Prop :=
  ∃ B G, e = .returned (.agg #[.slice (some ⟨B, 0, none⟩) len len, .slice (some ⟨G, 0, none⟩) len' len']) ∧ Below w.heap.size w w' ∧ Row w' B 5 (zs.map (Value.int .u8)) ∧ Row w' G 75 (jcp js len' len') ∧ w.heap.size ≤ B ∧ B < G
set_option maxHeartbeats 1000000 in
theorem toMotionR_any (a : Option Addr) (len cap : Nat) (zs : List Int) (a' : Option Addr) (len' cap' : Nat) (js : List (Int × Int)) (w : World) (h : InB w a len zs) (h' : InJ w a' len' js) (hl : len ≤ 1048576) (hl' : len' ≤ 1048576) :
    Calls Try.prog 6 #[.agg #[.slice a len cap, .slice a' len' cap']] w (MoRR w zs js len len') := by
  have bel : Below w.heap.size w (((w.alloc (.cells #[.slice a len cap, .slice a' len' cap'] 25)).alloc (.cells #[.slice none 0 0, .slice none 0 0] 33)).alloc (.cells #[.slice none 0 0, .slice none 0 0] 33)) := (((Below.refl _ w).alloc (Nat.le_refl _) _).alloc (by simp) _).alloc (by simp; omega) _
  have rA := hid (((Row.new w 25 [.slice a len cap, .slice a' len' cap']).alloc (.cells #[.slice none 0 0, .slice none 0 0] 33)).alloc (.cells #[.slice none 0 0, .slice none 0 0] 33))
  have r1 := (Row.new (w.alloc (.cells #[.slice a len cap, .slice a' len' cap'] 25)) 33 [.slice none 0 0, .slice none 0 0]).alloc (.cells #[.slice none 0 0, .slice none 0 0] 33)
  have r2 := Row.new ((w.alloc (.cells #[.slice a len cap, .slice a' len' cap'] 25)).alloc (.cells #[.slice none 0 0, .slice none 0 0] 33)) 33 [.slice none 0 0, .slice none 0 0]
  simp only [World.size_alloc] at r1 r2
  have R1 := hid r1
  have R2 := hid r2
  have hI := hid (h.below bel (Nat.le_refl _))
  have hJ := hid h'
  have hbel := hid bel
  clear h h' r1 r2
  go_enter Try.func6, Try.ntmps6
  go_wp2_with fail
  refine (toStackR_any a len cap zs _ hI.out hl).mono ?_
  rintro e w1 ⟨rfl, hB1, hS1, hz1⟩
  simp only [World.size_alloc] at hB1 hS1 hz1
  have q1 := R1.out.below hB1 (by omega)
  have q2 := R2.out.below hB1 (by omega)
  have qa := rA.out.below hB1 (by omega)
  have k0 := q2.cell 0; have f0 := q2.frozen 0; have p1 := qa.cell 1
  simp only [List.getElem?_cons_zero, List.getElem?_cons_succ] at k0 p1
  obtain ⟨V, hV⟩ : ∃ V, V = w1.setCell ⟨w.heap.size + 1 + 1, 0, none⟩ (.slice (some ⟨w.heap.size + 1 + 1 + 1, 0, none⟩) len len) := ⟨_, rfl⟩
  have bV : Below (w.heap.size + 1 + 1 + 1) w1 V ∨ True := .inr trivial
  have s1 : Row V (w.heap.size + 1) 33 [.slice none 0 0, .slice none 0 0] := by rw [hV]; exact q1.other (a := ⟨w.heap.size + 1 + 1, 0, none⟩) (by show w.heap.size + 1 + 1 ≠ w.heap.size + 1; omega) _
  have s2 : Row V (w.heap.size + 1 + 1) 33 [.slice (some ⟨w.heap.size + 1 + 1 + 1, 0, none⟩) len len, .slice none 0 0] := by rw [hV]; exact q2.set 0 _
  have sa : Row V w.heap.size 25 [.slice a len cap, .slice a' len' cap'] := by rw [hV]; exact qa.other (a := ⟨w.heap.size + 1 + 1, 0, none⟩) (by show w.heap.size + 1 + 1 ≠ w.heap.size; omega) _
  have szV : V.heap.size = w1.heap.size := by rw [hV]; simp
  have bw : Below w.heap.size w V := by rw [hV]; exact (hbel.out.trans (hB1.mono (by omega))).setCell (p := ⟨w.heap.size + 1 + 1, 0, none⟩) (by show w.heap.size ≤ w.heap.size + 1 + 1; omega) _
  have hSV : Row V (w.heap.size + 1 + 1 + 1) 5 (zs.map (Value.int .u8)) := by rw [hV]; exact hS1.other (a := ⟨w.heap.size + 1 + 1, 0, none⟩) (by show w.heap.size + 1 + 1 ≠ w.heap.size + 1 + 1 + 1; omega) _
  go_wp2_with fail
  rw [← hV]
  clear hV k0 f0 p1 bV q1 q2 qa
  refine (toJointsR_any a' len' cap' js V (hJ.out.below bw (Nat.le_refl _)) hl').mono ?_
  rintro e w2 ⟨rfl, hB2, hJ2, hz2⟩
  rw [szV] at hB2 hJ2 hz2 ⊢
  clear szV
  have t1 := s1.below hB2 (by omega)
  have t2 := s2.below hB2 (by omega)
  have hS2 := hid (hSV.below hB2 (by omega))
  have k0 := t2.cell 0; have k1 := t2.cell 1; have f1 := t2.frozen 1
  have g0 := t1.cell 0; have g1 := t1.cell 1; have h0 := t1.frozen 0; have h1 := t1.frozen 1
  simp only [List.getElem?_cons_zero, List.getElem?_cons_succ] at k0 k1 g0 g1
  obtain ⟨X, hX⟩ : ∃ X, X = w2.setCell ⟨w.heap.size + 1 + 1, 1, none⟩ (.slice (some ⟨w1.heap.size, 0, none⟩) len' len') := ⟨_, rfl⟩
  obtain ⟨Y, hY⟩ : ∃ Y, Y = (X.setCell ⟨w.heap.size + 1, 0, none⟩ (.slice (some ⟨w.heap.size + 1 + 1 + 1, 0, none⟩) len len)).setCell ⟨w.heap.size + 1, 1, none⟩ (.slice (some ⟨w1.heap.size, 0, none⟩) len' len') := ⟨_, rfl⟩
  have hzV : w1.heap.size ≤ w2.heap.size := by omega
  have fin : Row Y (w.heap.size + 1 + 1 + 1) 5 (zs.map (Value.int .u8)) ∧ Row Y w1.heap.size 75 (jcp js len' len') ∧ Below w.heap.size w Y ∧ Row Y (w.heap.size + 1) 33 [.slice (some ⟨w.heap.size + 1 + 1 + 1, 0, none⟩) len len, .slice (some ⟨w1.heap.size, 0, none⟩) len' len'] := by
    have bX : Below w.heap.size w X := by rw [hX]; exact (bw.trans (hB2.mono (by omega))).setCell (p := ⟨w.heap.size + 1 + 1, 1, none⟩) (by show w.heap.size ≤ w.heap.size + 1 + 1; omega) _
    have bY : Below w.heap.size w Y := by rw [hY]; exact (bX.setCell (p := ⟨w.heap.size + 1, 0, none⟩) (by show w.heap.size ≤ w.heap.size + 1; omega) _).setCell (p := ⟨w.heap.size + 1, 1, none⟩) (by show w.heap.size ≤ w.heap.size + 1; omega) _
    refine ⟨by rw [hY, hX]; exact ((hS2.out.other (a := ⟨w.heap.size + 1 + 1, 1, none⟩) (by show w.heap.size + 1 + 1 ≠ w.heap.size + 1 + 1 + 1; omega) _).other (a := ⟨w.heap.size + 1, 0, none⟩) (by show w.heap.size + 1 ≠ w.heap.size + 1 + 1 + 1; omega) _).other (a := ⟨w.heap.size + 1, 1, none⟩) (by show w.heap.size + 1 ≠ w.heap.size + 1 + 1 + 1; omega) _, by rw [hY, hX]; exact ((hJ2.other (a := ⟨w.heap.size + 1 + 1, 1, none⟩) (by show w.heap.size + 1 + 1 ≠ w1.heap.size; omega) _).other (a := ⟨w.heap.size + 1, 0, none⟩) (by show w.heap.size + 1 ≠ w1.heap.size; omega) _).other (a := ⟨w.heap.size + 1, 1, none⟩) (by show w.heap.size + 1 ≠ w1.heap.size; omega) _, bY, ?_⟩
    have t1' : Row X (w.heap.size + 1) 33 [.slice none 0 0, .slice none 0 0] := by rw [hX]; exact t1.other (a := ⟨w.heap.size + 1 + 1, 1, none⟩) (by show w.heap.size + 1 + 1 ≠ w.heap.size + 1; omega) _
    rw [hY]
    exact (t1'.set 0 _).set 1 _
  have FIN := hid fin
  clear fin t1 t2 hSV hJ2 s1 s2 sa
  go_wp2_with fail
  rw [← hX, ← hY]
  clear hX hY k0 k1 f1 g0 g1 h0 h1
  obtain ⟨fS, fJ, fB, fR⟩ := FIN.out
  have g0 := fR.cell 0; have g1 := fR.cell 1
  simp only [List.getElem?_cons_zero, List.getElem?_cons_succ] at g0 g1
  exact bodyPost_ret (v := .agg #[.slice (some ⟨w.heap.size + 1 + 1 + 1, 0, none⟩) len len, .slice (some ⟨w1.heap.size, 0, none⟩) len' len']) (by simp [results, Try.results6, go_sem, g0, g1]) rfl ⟨_, _, rfl, fB, fS, fJ, by omega, by omega⟩

set_option maxHeartbeats 1000000 in
theorem markJoints_any (g n cap : Nat) (xs : List Value) (hx : xs.length = n * 2) (hn : n ≤ 1048576) (k0 : Int) (hk0 : 0 ≤ k0 ∧ k0 ≤ 10000000) (w : World) (hR : Row w g 75 xs) :
    Calls Try.prog 29 #[.slice (some ⟨g, 0, none⟩) n cap, .int .i64 k0] w fun e w' => e = .returned (.int .i64 (k0 + 2 * (n : Int))) ∧ OnlyB g w w' := by
  go_enter Try.func29, Try.ntmps29
  go_wp2_with fail
  go_loopw [1, 5] (fun m i wr => ∃ (k : Nat) (ys : List Value) (z : Int), k ≤ n ∧ i = .int .i64 k ∧ m = .int .i64 z ∧ z = k0 + 2 * (k : Int) ∧ ys.length = n * 2 ∧ Row wr g 75 ys ∧ OnlyB g w wr) (fun _ i _ => n - (intOf i).toNat)
  case atStart => exact ⟨0, xs, k0, Nat.zero_le _, rfl, rfl, by simp, hx, hR, OnlyB.refl _ _⟩
  case round =>
    clear hR hx
    obtain ⟨k, ys, z, hk, rfl, rfl, hz, hy, hrow, hO⟩ := hrel
    by_cases hlt : k < n
    · have hlt' : (k : Int) < (n : Int) := by omega
      have hk1 : (0 : Int) ≤ (k : Int) := by omega
      have zb : 0 ≤ z ∧ z ≤ 20000000 := by omega
      have f0 := hrow.frozen (k * 2)
      have f1 := hrow.frozen (k * 2 + 1)
      obtain ⟨o0, h0⟩ : ∃ v, wr.cell? ⟨g, k * 2, none⟩ = some v := ⟨_, (hrow.cell (k * 2)).trans (List.getElem?_eq_getElem (by omega))⟩
      obtain ⟨o1, h1⟩ : ∃ v, wr.cell? ⟨g, k * 2 + 1, none⟩ = some v := ⟨_, (hrow.cell (k * 2 + 1)).trans (List.getElem?_eq_getElem (by omega))⟩
      have R3 := hid (fun u v => (hrow.set (k * 2) u).set (k * 2 + 1) v)
      have O3 := hid (fun u v => (hO.set (k * 2) u).set (k * 2 + 1) v)
      have HY := hid hy
      have HZ := hid hz
      have t1 : IntKind.i64.wrap (z + 1) = z + 1 := IntWalk.i64_in _ (by omega)
      have t2 : IntKind.i64.wrap (z + 1 + 1) = z + 1 + 1 := IntWalk.i64_in _ (by omega)
      clear hrow hO hy hz
      go_wp2_with fail
      go_roundw
      case rel => exact ⟨k + 1, _, z + 1 + 1, by omega, by go_num, rfl, by have := HZ.out; omega, by rw [List.length_set, List.length_set]; exact HY.out, R3.out _ _, O3.out _ _⟩
      case measure => simp [intOf]; omega
    · obtain rfl : k = n := by omega
      have O3 := hid hO
      have HZ := hid hz
      clear hrow hO hy hz
      go_wp2_with fail
      go_ret
      exact ⟨by rw [← HZ.out]; rfl, O3.out⟩
/-- two blocks alone have been written over -/
def Only2 (b g : Nat) (w w' : World) : Prop := w.heap.size ≤ w'.heap.size ∧ (∀ q, q < w.heap.size → q ≠ b → q ≠ g → w'.heap[q]? = w.heap[q]?) ∧ (∀ k, k ≤ b → k ≤ g → k ≤ w.heap.size → Below k w w')
theorem OwnI.only2 {b g base : Nat} {w w' : World} {v : Value} {zs : List Int} (h : OwnI w base v zs) (o : Only2 b g w w') (hb : b < base) (hg : g < base) : OwnI w' base v zs := by
  obtain ⟨a, cap, h1, h2, h3⟩ := h
  refine ⟨a, cap, h1, h2, ?_⟩
  rcases h3 with h0 | ⟨q, rest, e, hq, hr⟩
  · exact .inl h0
  · exact .inr ⟨q, rest, e, hq, (o.2.1 q hr.lt (by omega) (by omega)).trans hr⟩
set_option maxHeartbeats 1000000 in
theorem markMotion_any (b n cap g m cap' : Nat) (xs ys : List Value) (hx : xs.length = n) (hn : n ≤ 1048576) (hy : ys.length = m * 2) (hm : m ≤ 1048576) (hbg : b < g) (w : World) (hR : Row w b 5 xs) (hS : Row w g 75 ys) :
    Calls Try.prog 10 #[.agg #[.slice (some ⟨b, 0, none⟩) n cap, .slice (some ⟨g, 0, none⟩) m cap'], .int .i64 1] w fun e w' => e = .returned (.int .i64 (1 + (n : Int) + 2 * (m : Int))) ∧ Only2 b g w w' := by
  have hg := hS.lt
  have H1 := hid (markStack_any b n cap xs hx hn _ (hR.alloc (.cells #[.slice (some ⟨b, 0, none⟩) n cap, .slice (some ⟨g, 0, none⟩) m cap'] 33)))
  have rB := hid (Row.new w 33 [.slice (some ⟨b, 0, none⟩) n cap, .slice (some ⟨g, 0, none⟩) m cap'])
  have rS := hid (hS.alloc (.cells #[.slice (some ⟨b, 0, none⟩) n cap, .slice (some ⟨g, 0, none⟩) m cap'] 33))
  have b0 := hid (fun k (hk : k ≤ w.heap.size) => (Below.refl k w).alloc hk (.cells #[.slice (some ⟨b, 0, none⟩) n cap, .slice (some ⟨g, 0, none⟩) m cap'] 33))
  have hk := hid (fun q (hq : q < w.heap.size) => (show (w.alloc (.cells #[.slice (some ⟨b, 0, none⟩) n cap, .slice (some ⟨g, 0, none⟩) m cap'] 33)).heap[q]? = w.heap[q]? from (Below.refl (q + 1) w |>.alloc (by omega) (.cells #[.slice (some ⟨b, 0, none⟩) n cap, .slice (some ⟨g, 0, none⟩) m cap'] 33)).block q (by omega)))
  clear hR hS
  go_enter Try.func10, Try.ntmps10
  go_wp2_with fail
  refine H1.out.mono ?_
  rintro e w1 ⟨rfl, h1⟩
  have r1 := h1.row rB.out (by omega)
  have c1 := r1.cell 1
  simp only [List.getElem?_cons_zero, List.getElem?_cons_succ] at c1
  have H2 := hid (markJoints_any g m cap' ys hy hm (1 + (n : Int)) (by omega) w1 (h1.row rS.out (by omega)))
  have o1 := hid h1
  clear h1 r1
  go_wp2_with fail
  refine H2.out.mono ?_
  rintro e w2 ⟨rfl, h2⟩
  have o2 := hid h2
  clear h2
  go_wp2_with fail
  go_ret
  refine ⟨rfl, ?_, fun q hq hqb hqg => ?_, fun k hkb hkg hkw => ?_⟩
  · rw [o2.out.1, o1.out.1]; simp
  · exact (o2.out.2.1 q hqg).trans ((o1.out.2.1 q hqb).trans (hk.out q hq))
  · exact (b0.out k hkw).trans ((o1.out.2.2.mono hkb).trans (o2.out.2.2.mono hkg))
end Go.Proofs.Ytomhmkdfhhmenaa
