/- Devices that are copied to be written over. -/
import Derived.Test.YtangjgfjojfcaaaDev
import Derived.OwnWalk
import Derived.Deep.QuietTactic
namespace Go.Proofs.Ytangjgfjojfcaaa
open Go.RowKit
set_option linter.unusedVariables false
set_option linter.unusedSimpArgs false
set_option maxHeartbeats 400000 in
/-- laws.toStack at an argument with elements: a new block holds them. -/
theorem toStackR_some (b off len cap : Nat) (zs : List Int) (hl : len ≤ 1048576) (hz : len ≤ zs.length) (hb : ∀ z ∈ zs, 0 ≤ z ∧ z ≤ 255) (w : World) (hbs : b < w.heap.size) (hc : ∀ j, j < len → w.cell? ⟨b, off + j, none⟩ = some (.int .u8 (zs[j]?.getD 0))) :
    Calls Try.prog 22 #[.slice (some ⟨b, off, none⟩) len cap] w fun e w' => e = .returned (.slice (some ⟨w.heap.size, 0, none⟩) len len) ∧ Below w.heap.size w w' ∧ Row w' w.heap.size 5 ((zs.take len).map (Value.int .u8)) ∧ w.heap.size < w'.heap.size := by
  obtain ⟨i0, hi, hz0, hz1, hz2⟩ := info_parts Try.infoU8
  go_enter Try.func22, Try.ntmps22
  go_wp2_with (at_make; refine wpList_make_full _ rfl _ _ 28 rfl w.heap.size 5 i0 (.int .u8 0) 1 Try.underlying28 hi hz0 hz1 .i64 .i64 _ _ len rfl rfl rfl rfl (by rw [hz2]; omega) (by unfold maxLen; omega) (Nat.le_refl _) ?_; intro w1 hown hgrow)
  have hrow := Row.of_owns hown rfl
  rw [show (madeCells (Value.int .u8 0).cells (len * 1)).toList = cpy zs len 0 from by rw [cpy_zero, Nat.mul_one]; exact toList_madeCells_one _ _] at hrow
  have hB1 : Below w.heap.size w w1 := (Below.refl _ w).grown hgrow (Nat.le_refl _) (fun k e => by cases e)
  clear hown hgrow
  go_wp2
  go_loopw [4] (fun i wr => ∃ k : Nat, k ≤ len ∧ i = .int .i64 k ∧ Row wr w.heap.size 5 (cpy zs len k) ∧ Below w.heap.size w wr) (fun i _ => len - (intOf i).toNat)
  case atStart => exact ⟨0, Nat.zero_le _, rfl, hrow, hB1⟩
  case round =>
    clear hrow hB1
    obtain ⟨k, hk, rfl, hrow, hB⟩ := hrel
    by_cases hlt : k < len
    · have hcx : wr.cell? ⟨b, off + k, none⟩ = some (.int .u8 (zs[k]?.getD 0)) := (hB.cell (p := ⟨b, off + k, none⟩) hbs).trans (hc k hlt)
      have hfz := hrow.frozen k
      have hlen := cpy_len zs len k hk hz
      obtain ⟨old, hold⟩ : ∃ v, wr.cell? ⟨w.heap.size, k, none⟩ = some v := ⟨_, (hrow.cell k).trans (List.getElem?_eq_getElem (by omega))⟩
      have hR2 := hrow.set k (.int .u8 (zs[k]?.getD 0))
      rw [cpy_set zs len k hlt hz] at hR2
      have hB2 : Below w.heap.size w (wr.setCell ⟨w.heap.size, k, none⟩ (.int .u8 (zs[k]?.getD 0))) := hB.setCell (p := ⟨w.heap.size, k, none⟩) (Nat.le_refl _) _
      clear hlen
      go_wp2
      go_roundw
      case rel => exact ⟨k + 1, by omega, by go_num, hR2, hB2⟩
      case measure => simp [intOf]; omega
    · obtain rfl : k = len := by omega
      rw [cpy_all] at hrow
      go_wp2
      go_ret
      exact ⟨rfl, hB, hrow, hrow.lt⟩
set_option maxHeartbeats 400000 in
/-- .. at an argument without elements: a new block without cells. -/
theorem toStackR_none (a : Option Addr) (cap : Nat) (w : World) :
    Calls Try.prog 22 #[.slice a 0 cap] w fun e w' => e = .returned (.slice (some ⟨w.heap.size, 0, none⟩) 0 0) ∧ Below w.heap.size w w' ∧ Row w' w.heap.size 5 (([] : List Int).map (Value.int .u8)) ∧ w.heap.size < w'.heap.size := by
  obtain ⟨i0, hi, hz0, hz1, hz2⟩ := info_parts Try.infoU8
  go_enter Try.func22, Try.ntmps22
  go_wp2_with (at_make; refine wpList_make_full _ rfl _ _ 28 rfl w.heap.size 5 i0 (.int .u8 0) 1 Try.underlying28 hi hz0 hz1 .i64 .i64 _ _ 0 rfl rfl rfl rfl (by rw [hz2]; omega) (by unfold maxLen; omega) (Nat.le_refl _) ?_; intro w1 hown hgrow)
  have hrow := Row.of_owns hown rfl
  have hB : Below w.heap.size w w1 := (Below.refl _ w).grown hgrow (Nat.le_refl _) (fun k e => by cases e)
  clear hown hgrow
  go_wp2
  refine wp_loop_rounds 1 ?_
  rw [rounds_succ]
  go_wp2
  go_ret
  exact ⟨rfl, hB, by simpa [madeCells] using hrow, hrow.lt⟩

/-- laws.toStack at whatever argument. -/
theorem toStackR_any (a : Option Addr) (len cap : Nat) (zs : List Int) (w : World) (h : InB w a len zs) (hl : len ≤ 1048576) :
    Calls Try.prog 22 #[.slice a len cap] w fun e w' => e = .returned (.slice (some ⟨w.heap.size, 0, none⟩) len len) ∧ Below w.heap.size w w' ∧ Row w' w.heap.size 5 (zs.map (Value.int .u8)) ∧ w.heap.size < w'.heap.size := by
  by_cases h0 : len = 0
  · have hz := h.1
    subst h0
    obtain rfl : zs = [] := List.length_eq_zero_iff.1 hz
    exact toStackR_none a cap w
  · rcases h.2.2 with h0' | ⟨b, off, rfl, hb, hc⟩
    · exact absurd h0' h0
    · have := toStackR_some b off len cap zs hl (by rw [h.1]; exact Nat.le_refl _) h.2.1 w hb hc
      rwa [List.take_of_length_le (by rw [h.1]; exact Nat.le_refl _)] at this

/-- one block alone has been written over -/
def OnlyB (g : Nat) (w w' : World) : Prop := w'.heap.size = w.heap.size ∧ (∀ q, q ≠ g → w'.heap[q]? = w.heap[q]?) ∧ Below g w w'
theorem OnlyB.refl (g : Nat) (w : World) : OnlyB g w w := ⟨rfl, fun _ _ => rfl, Below.refl _ _⟩
theorem OnlyB.set {g : Nat} {w w' : World} (h : OnlyB g w w') (j : Nat) (u : Value) : OnlyB g w (w'.setCell ⟨g, j, none⟩ u) :=
  ⟨by simpa using h.1, fun q hq => (Below.heap_setCell w' ⟨g, j, none⟩ u q (fun e => hq e)).trans (h.2.1 q hq), h.2.2.setCell (p := ⟨g, j, none⟩) (Nat.le_refl _) _⟩
theorem OnlyB.row {g q : Nat} {w w' : World} {e : TypeId} {xs : List Value} (h : OnlyB g w w') (r : Row w q e xs) (hq : q ≠ g) : Row w' q e xs := (h.2.1 q hq).trans r
set_option maxHeartbeats 1000000 in
theorem markStack_any (g n cap : Nat) (xs : List Value) (hx : xs.length = n) (hn : n ≤ 1048576) (w : World) (hR : Row w g 5 xs) :
    Calls Try.prog 25 #[.slice (some ⟨g, 0, none⟩) n cap, .int .i64 1] w fun e w' => e = .returned (.int .i64 (1 + (n : Int))) ∧ OnlyB g w w' := by
  go_enter Try.func25, Try.ntmps25
  go_wp2_with fail
  go_loopw [1, 5] (fun m i wr => ∃ (k : Nat) (ys : List Value), k ≤ n ∧ i = .int .i64 k ∧ m = .int .i64 (1 + (k : Int)) ∧ ys.length = n ∧ Row wr g 5 ys ∧ OnlyB g w wr) (fun _ i _ => n - (intOf i).toNat)
  case atStart => exact ⟨0, xs, Nat.zero_le _, rfl, rfl, hx, hR, OnlyB.refl _ _⟩
  case round =>
    clear hR hx
    obtain ⟨k, ys, hk, rfl, rfl, hy, hrow, hO⟩ := hrel
    by_cases hlt : k < n
    · have hlt' : (k : Int) < (n : Int) := by omega
      have hk0 : (0 : Int) ≤ (k : Int) := by omega
      have hfz := hrow.frozen k
      obtain ⟨old, hold⟩ : ∃ u, wr.cell? ⟨g, k, none⟩ = some u := ⟨_, (hrow.cell k).trans (List.getElem?_eq_getElem (by omega))⟩
      have R3 := hid (fun u => hrow.set k u)
      have O3 := hid (fun u => hO.set k u)
      have HY := hid hy
      clear hrow hO hy
      go_wp2_with fail
      go_roundw
      case rel => exact ⟨k + 1, _, by omega, by go_num, by first | go_num | (congr 1; done) | (congr 1; omega), by rw [List.length_set]; exact HY.out, R3.out _, O3.out _⟩
      case measure => simp [intOf]; omega
    · obtain rfl : k = n := by omega
      have O3 := hid hO
      clear hrow hO hy
      go_wp2_with fail
      go_ret
      exact ⟨rfl, O3.out⟩
/-- a copy of a device, its stack's block whole -/
def DeW (w : World) (zs : List Int) (len : Nat) (d0 d1 d2 d3 d4 d5 d6 d7 : Int) (pr : Int) (st : Bool) (tk : Int) (e : Ending) (w' : World) : Prop :=
  ∃ B, e = .returned (.agg #[.slice (some ⟨B, 0, none⟩) len len, .int .u8 d0, .int .u8 d1, .int .u8 d2, .int .u8 d3, .int .u8 d4, .int .u8 d5, .int .u8 d6, .int .u8 d7, .int .i64 pr, .bool st, .int .i64 tk]) ∧ Below w.heap.size w w' ∧ Row w' B 5 (zs.map (Value.int .u8)) ∧ w.heap.size ≤ B
set_option maxRecDepth 100000 in
set_option maxHeartbeats 4000000 in
theorem toDeviceR_any (a : Option Addr) (len cap : Nat) (zs : List Int) (d0 d1 d2 d3 d4 d5 d6 d7 : Int) (pr : Int) (st : Bool) (tk : Int) (w : World) (h : InB w a len zs) (hl : len ≤ 1048576) :
    Calls Try.prog 13 #[.agg #[.slice a len cap, .int .u8 d0, .int .u8 d1, .int .u8 d2, .int .u8 d3, .int .u8 d4, .int .u8 d5, .int .u8 d6, .int .u8 d7, .int .i64 pr, .bool st, .int .i64 tk]] w (DeW w zs len d0 d1 d2 d3 d4 d5 d6 d7 pr st tk) := by
  obtain ⟨U, hU⟩ : ∃ U, U = (((w.alloc (.cells #[.slice a len cap, .int .u8 d0, .int .u8 d1, .int .u8 d2, .int .u8 d3, .int .u8 d4, .int .u8 d5, .int .u8 d6, .int .u8 d7, .int .i64 pr, .bool st, .int .i64 tk] 25)).alloc (.cells #[.slice none 0 0, .int .u8 0, .int .u8 0, .int .u8 0, .int .u8 0, .int .u8 0, .int .u8 0, .int .u8 0, .int .u8 0, .int .i64 0, .bool false, .int .i64 0] 31)).alloc (.cells #[.slice none 0 0, .int .u8 0, .int .u8 0, .int .u8 0, .int .u8 0, .int .u8 0, .int .u8 0, .int .u8 0, .int .u8 0, .int .i64 0, .bool false, .int .i64 0] 31)) := ⟨_, rfl⟩
  have bel : Below w.heap.size w U := by rw [hU]; exact (((Below.refl _ w).alloc (Nat.le_refl _) _).alloc (by simp) _).alloc (by simp; omega) _
  have rA : Row U w.heap.size 25 [.slice a len cap, .int .u8 d0, .int .u8 d1, .int .u8 d2, .int .u8 d3, .int .u8 d4, .int .u8 d5, .int .u8 d6, .int .u8 d7, .int .i64 pr, .bool st, .int .i64 tk] := by rw [hU]; exact ((Row.new w _ _).alloc _).alloc _
  have r1 : Row U (w.heap.size + 1) 31 [.slice none 0 0, .int .u8 0, .int .u8 0, .int .u8 0, .int .u8 0, .int .u8 0, .int .u8 0, .int .u8 0, .int .u8 0, .int .i64 0, .bool false, .int .i64 0] := by
    have h := (Row.new (w.alloc (.cells #[.slice a len cap, .int .u8 d0, .int .u8 d1, .int .u8 d2, .int .u8 d3, .int .u8 d4, .int .u8 d5, .int .u8 d6, .int .u8 d7, .int .i64 pr, .bool st, .int .i64 tk] 25)) 31 [.slice none 0 0, .int .u8 0, .int .u8 0, .int .u8 0, .int .u8 0, .int .u8 0, .int .u8 0, .int .u8 0, .int .u8 0, .int .i64 0, .bool false, .int .i64 0]).alloc (.cells #[.slice none 0 0, .int .u8 0, .int .u8 0, .int .u8 0, .int .u8 0, .int .u8 0, .int .u8 0, .int .u8 0, .int .u8 0, .int .i64 0, .bool false, .int .i64 0] 31)
    simp only [World.size_alloc] at h
    rw [hU]; exact h
  have r2 : Row U (w.heap.size + 1 + 1) 31 [.slice none 0 0, .int .u8 0, .int .u8 0, .int .u8 0, .int .u8 0, .int .u8 0, .int .u8 0, .int .u8 0, .int .u8 0, .int .i64 0, .bool false, .int .i64 0] := by
    have h := Row.new ((w.alloc (.cells #[.slice a len cap, .int .u8 d0, .int .u8 d1, .int .u8 d2, .int .u8 d3, .int .u8 d4, .int .u8 d5, .int .u8 d6, .int .u8 d7, .int .i64 pr, .bool st, .int .i64 tk] 25)).alloc (.cells #[.slice none 0 0, .int .u8 0, .int .u8 0, .int .u8 0, .int .u8 0, .int .u8 0, .int .u8 0, .int .u8 0, .int .u8 0, .int .i64 0, .bool false, .int .i64 0] 31)) 31 [.slice none 0 0, .int .u8 0, .int .u8 0, .int .u8 0, .int .u8 0, .int .u8 0, .int .u8 0, .int .u8 0, .int .u8 0, .int .i64 0, .bool false, .int .i64 0]
    simp only [World.size_alloc] at h
    rw [hU]; exact h
  have sU : U.heap.size = w.heap.size + 1 + 1 + 1 := by rw [hU]; simp
  have HU := hid hU
  have RA := hid rA
  have R1 := hid r1
  have R2 := hid r2
  have SU := hid sU
  have BE := hid bel
  have hI := hid (h.below bel (Nat.le_refl _))
  clear h r1 r2 rA bel sU hU
  go_enter Try.func13, Try.ntmps13
  go_wp2_with fail
  rw [← HU.out]
  refine (toStackR_any a len cap zs _ hI.out hl).mono ?_
  rintro e w1 ⟨rfl, hB1, hS1, hz1⟩
  rw [SU.out] at hB1 hS1 hz1 ⊢
  have q1 := R1.out.below hB1 (by omega)
  have q2 := R2.out.below hB1 (by omega)
  have qa := RA.out.below hB1 (by omega)
  have hbs : Below w.heap.size w w1 := BE.out.trans (hB1.mono (by omega))
  have HS := hid hS1
  obtain ⟨V0, hV0⟩ : ∃ V, V = w1.setCell ⟨w.heap.size + 1 + 1, 0, none⟩ (.slice (some ⟨w.heap.size + 1 + 1 + 1, 0, none⟩) len len) := ⟨_, rfl⟩
  have ne1 : w.heap.size + 1 + 1 ≠ w.heap.size + 1 := by omega
  have nea : w.heap.size + 1 + 1 ≠ w.heap.size := by omega
  have Q1 := hid (show Row V0 (w.heap.size + 1) 31 [.slice none 0 0, .int .u8 0, .int .u8 0, .int .u8 0, .int .u8 0, .int .u8 0, .int .u8 0, .int .u8 0, .int .u8 0, .int .i64 0, .bool false, .int .i64 0] by rw [hV0]; exact q1.other ne1 _)
  have Q2 := hid (show Row V0 (w.heap.size + 1 + 1) 31 [.slice (some ⟨w.heap.size + 1 + 1 + 1, 0, none⟩) len len, .int .u8 0, .int .u8 0, .int .u8 0, .int .u8 0, .int .u8 0, .int .u8 0, .int .u8 0, .int .u8 0, .int .i64 0, .bool false, .int .i64 0] by rw [hV0]; exact q2.set 0 _)
  have QA0 := (show Row V0 w.heap.size 25 [.slice a len cap, .int .u8 d0, .int .u8 d1, .int .u8 d2, .int .u8 d3, .int .u8 d4, .int .u8 d5, .int .u8 d6, .int .u8 d7, .int .i64 pr, .bool st, .int .i64 tk] by rw [hV0]; exact qa.other nea _)
  have QA := hid QA0
  have B0 := hid (show Below w.heap.size w V0 by rw [hV0]; exact hbs.setCell (p := ⟨w.heap.size + 1 + 1, 0, none⟩) (by show w.heap.size ≤ w.heap.size + 1 + 1; omega) _)
  have S0 := hid (show Row V0 (w.heap.size + 1 + 1 + 1) 5 (zs.map (Value.int .u8)) by rw [hV0]; exact HS.out.other (by show w.heap.size + 1 + 1 ≠ w.heap.size + 1 + 1 + 1; omega) _)
  have Z0 := hid (show V0.heap.size = w1.heap.size by rw [hV0]; simp)
  have HV0 := hid hV0
  have k0 := q2.cell 0
  have f0 := q2.frozen 0
  simp only [List.getElem?_cons_zero] at k0
  have p1 := QA0.cell 1; have p2 := QA0.cell 2; have p3 := QA0.cell 3; have p4 := QA0.cell 4; have p5 := QA0.cell 5; have p6 := QA0.cell 6; have p7 := QA0.cell 7; have p8 := QA0.cell 8
  simp only [List.getElem?_cons_zero, List.getElem?_cons_succ] at p1 p2 p3 p4 p5 p6 p7 p8
  clear q1 q2 qa hB1 hS1 hbs QA0
  go_upto_region 3 with fail
  rw [← HV0.out]
  clear k0 f0 hV0
  go_wp2_with fail
  refine (toDigits_any d0 d1 d2 d3 d4 d5 d6 d7 _).mono ?_
  rintro e w2 ⟨rfl, hB2⟩
  have hz2 := hB2.size
  rw [Z0.out] at hz2
  have q1 := Q1.out.below hB2 (by rw [Z0.out]; omega)
  have q2 := Q2.out.below hB2 (by rw [Z0.out]; omega)
  have qa := QA.out.below hB2 (by rw [Z0.out]; omega)
  have HB := hid (B0.out.trans (hB2.mono (by rw [Z0.out]; omega)))
  have HS2 := hid (S0.out.below hB2 S0.out.lt)
  obtain ⟨V, hV⟩ : ∃ V, V = (((((((((((w2.setCell ⟨w.heap.size + 1 + 1, 1, none⟩ (.int .u8 d0)).setCell ⟨w.heap.size + 1 + 1, 2, none⟩ (.int .u8 d1)).setCell ⟨w.heap.size + 1 + 1, 3, none⟩ (.int .u8 d2)).setCell ⟨w.heap.size + 1 + 1, 4, none⟩ (.int .u8 d3)).setCell ⟨w.heap.size + 1 + 1, 5, none⟩ (.int .u8 d4)).setCell ⟨w.heap.size + 1 + 1, 6, none⟩ (.int .u8 d5)).setCell ⟨w.heap.size + 1 + 1, 7, none⟩ (.int .u8 d6)).setCell ⟨w.heap.size + 1 + 1, 8, none⟩ (.int .u8 d7)).setCell ⟨w.heap.size + 1 + 1, 9, none⟩ (.int .i64 pr)).setCell ⟨w.heap.size + 1 + 1, 10, none⟩ (.bool st)).setCell ⟨w.heap.size + 1 + 1, 11, none⟩ (.int .i64 tk)) := ⟨_, rfl⟩
  have rV : Row V (w.heap.size + 1 + 1) 31 [.slice (some ⟨w.heap.size + 1 + 1 + 1, 0, none⟩) len len, .int .u8 d0, .int .u8 d1, .int .u8 d2, .int .u8 d3, .int .u8 d4, .int .u8 d5, .int .u8 d6, .int .u8 d7, .int .i64 pr, .bool st, .int .i64 tk] := by rw [hV]; exact (((((((((((q2.set 1 _).set 2 _).set 3 _).set 4 _).set 5 _).set 6 _).set 7 _).set 8 _).set 9 _).set 10 _).set 11 _)
  have rV1 : Row V (w.heap.size + 1) 31 [.slice none 0 0, .int .u8 0, .int .u8 0, .int .u8 0, .int .u8 0, .int .u8 0, .int .u8 0, .int .u8 0, .int .u8 0, .int .i64 0, .bool false, .int .i64 0] := by
    rw [hV]
    have ne : w.heap.size + 1 + 1 ≠ w.heap.size + 1 := by omega
    exact (((((((((((q1.other ne _).other ne _).other ne _).other ne _).other ne _).other ne _).other ne _).other ne _).other ne _).other ne _).other ne _)
  have HVV := hid hV
  have RV := hid rV
  have RV1 := hid rV1
  clear p1 p2 p3 p4 p5 p6 p7 p8
  have p9 := qa.cell 9; have p10 := qa.cell 10; have p11 := qa.cell 11
  have k1 := q2.cell 1; have k2 := q2.cell 2; have k3 := q2.cell 3; have k4 := q2.cell 4; have k5 := q2.cell 5; have k6 := q2.cell 6; have k7 := q2.cell 7; have k8 := q2.cell 8; have k9 := q2.cell 9; have k10 := q2.cell 10; have k11 := q2.cell 11
  have f1 := q2.frozen 1; have f2 := q2.frozen 2; have f3 := q2.frozen 3; have f4 := q2.frozen 4; have f5 := q2.frozen 5; have f6 := q2.frozen 6; have f7 := q2.frozen 7; have f8 := q2.frozen 8; have f9 := q2.frozen 9; have f10 := q2.frozen 10; have f11 := q2.frozen 11
  simp only [List.getElem?_cons_zero, List.getElem?_cons_succ] at p9 p10 p11 k1 k2 k3 k4 k5 k6 k7 k8 k9 k10 k11
  clear q1 q2 qa hV rV rV1 hB2
  go_upto_region 7 with fail
  rw [← HVV.out]
  have D0 := RV.out.cell 0; have D1 := RV.out.cell 1; have D2 := RV.out.cell 2; have D3 := RV.out.cell 3; have D4 := RV.out.cell 4; have D5 := RV.out.cell 5; have D6 := RV.out.cell 6; have D7 := RV.out.cell 7; have D8 := RV.out.cell 8; have D9 := RV.out.cell 9; have D10 := RV.out.cell 10; have D11 := RV.out.cell 11
  have E0 := RV1.out.cell 0; have E1 := RV1.out.cell 1; have E2 := RV1.out.cell 2; have E3 := RV1.out.cell 3; have E4 := RV1.out.cell 4; have E5 := RV1.out.cell 5; have E6 := RV1.out.cell 6; have E7 := RV1.out.cell 7; have E8 := RV1.out.cell 8; have E9 := RV1.out.cell 9; have E10 := RV1.out.cell 10; have E11 := RV1.out.cell 11
  have G0 := RV1.out.frozen 0; have G1 := RV1.out.frozen 1; have G2 := RV1.out.frozen 2; have G3 := RV1.out.frozen 3; have G4 := RV1.out.frozen 4; have G5 := RV1.out.frozen 5; have G6 := RV1.out.frozen 6; have G7 := RV1.out.frozen 7; have G8 := RV1.out.frozen 8; have G9 := RV1.out.frozen 9; have G10 := RV1.out.frozen 10; have G11 := RV1.out.frozen 11
  simp only [List.getElem?_cons_zero, List.getElem?_cons_succ] at D0 D1 D2 D3 D4 D5 D6 D7 D8 D9 D10 D11 E0 E1 E2 E3 E4 E5 E6 E7 E8 E9 E10 E11
  clear p9 p10 p11 k1 k2 k3 k4 k5 k6 k7 k8 k9 k10 k11 f1 f2 f3 f4 f5 f6 f7 f8 f9 f10 f11
  go_wp2_with fail
  clear D0 D1 D2 D3 D4 D5 D6 D7 D8 D9 D10 D11 E0 E1 E2 E3 E4 E5 E6 E7 E8 E9 E10 E11 G0 G1 G2 G3 G4 G5 G6 G7 G8 G9 G10 G11
  have le1 : w.heap.size ≤ w.heap.size + 1 := by omega
  have le2 : w.heap.size ≤ w.heap.size + 1 + 1 := by omega
  have bV : Below w.heap.size w V := by
    rw [HVV.out]
    exact (((((((((((HB.out.setCell (p := ⟨w.heap.size + 1 + 1, 1, none⟩) le2 _).setCell (p := ⟨w.heap.size + 1 + 1, 2, none⟩) le2 _).setCell (p := ⟨w.heap.size + 1 + 1, 3, none⟩) le2 _).setCell (p := ⟨w.heap.size + 1 + 1, 4, none⟩) le2 _).setCell (p := ⟨w.heap.size + 1 + 1, 5, none⟩) le2 _).setCell (p := ⟨w.heap.size + 1 + 1, 6, none⟩) le2 _).setCell (p := ⟨w.heap.size + 1 + 1, 7, none⟩) le2 _).setCell (p := ⟨w.heap.size + 1 + 1, 8, none⟩) le2 _).setCell (p := ⟨w.heap.size + 1 + 1, 9, none⟩) le2 _).setCell (p := ⟨w.heap.size + 1 + 1, 10, none⟩) le2 _).setCell (p := ⟨w.heap.size + 1 + 1, 11, none⟩) le2 _)
  obtain ⟨Y, hY⟩ : ∃ Y, Y = ((((((((((((V.setCell ⟨w.heap.size + 1, 0, none⟩ (.slice (some ⟨w.heap.size + 1 + 1 + 1, 0, none⟩) len len)).setCell ⟨w.heap.size + 1, 1, none⟩ (.int .u8 d0)).setCell ⟨w.heap.size + 1, 2, none⟩ (.int .u8 d1)).setCell ⟨w.heap.size + 1, 3, none⟩ (.int .u8 d2)).setCell ⟨w.heap.size + 1, 4, none⟩ (.int .u8 d3)).setCell ⟨w.heap.size + 1, 5, none⟩ (.int .u8 d4)).setCell ⟨w.heap.size + 1, 6, none⟩ (.int .u8 d5)).setCell ⟨w.heap.size + 1, 7, none⟩ (.int .u8 d6)).setCell ⟨w.heap.size + 1, 8, none⟩ (.int .u8 d7)).setCell ⟨w.heap.size + 1, 9, none⟩ (.int .i64 pr)).setCell ⟨w.heap.size + 1, 10, none⟩ (.bool st)).setCell ⟨w.heap.size + 1, 11, none⟩ (.int .i64 tk)) := ⟨_, rfl⟩
  rw [← hY]
  have rY : Row Y (w.heap.size + 1) 31 [.slice (some ⟨w.heap.size + 1 + 1 + 1, 0, none⟩) len len, .int .u8 d0, .int .u8 d1, .int .u8 d2, .int .u8 d3, .int .u8 d4, .int .u8 d5, .int .u8 d6, .int .u8 d7, .int .i64 pr, .bool st, .int .i64 tk] := by rw [hY]; exact ((((((((((((RV1.out.set 0 _).set 1 _).set 2 _).set 3 _).set 4 _).set 5 _).set 6 _).set 7 _).set 8 _).set 9 _).set 10 _).set 11 _)
  have bY : Below w.heap.size w Y := by
    rw [hY]
    exact ((((((((((((bV.setCell (p := ⟨w.heap.size + 1, 0, none⟩) le1 _).setCell (p := ⟨w.heap.size + 1, 1, none⟩) le1 _).setCell (p := ⟨w.heap.size + 1, 2, none⟩) le1 _).setCell (p := ⟨w.heap.size + 1, 3, none⟩) le1 _).setCell (p := ⟨w.heap.size + 1, 4, none⟩) le1 _).setCell (p := ⟨w.heap.size + 1, 5, none⟩) le1 _).setCell (p := ⟨w.heap.size + 1, 6, none⟩) le1 _).setCell (p := ⟨w.heap.size + 1, 7, none⟩) le1 _).setCell (p := ⟨w.heap.size + 1, 8, none⟩) le1 _).setCell (p := ⟨w.heap.size + 1, 9, none⟩) le1 _).setCell (p := ⟨w.heap.size + 1, 10, none⟩) le1 _).setCell (p := ⟨w.heap.size + 1, 11, none⟩) le1 _)
  have zY : Y.heap.size = w2.heap.size := by rw [hY, HVV.out]; simp
  have sY : Row Y (w.heap.size + 1 + 1 + 1) 5 (zs.map (Value.int .u8)) := by
    have n1 : w.heap.size + 1 ≠ w.heap.size + 1 + 1 + 1 := by omega
    have n2 : w.heap.size + 1 + 1 ≠ w.heap.size + 1 + 1 + 1 := by omega
    rw [hY, HVV.out]
    exact (((((((((((((((((((((((HS2.out.other n2 _).other n2 _).other n2 _).other n2 _).other n2 _).other n2 _).other n2 _).other n2 _).other n2 _).other n2 _).other n2 _).other n1 _).other n1 _).other n1 _).other n1 _).other n1 _).other n1 _).other n1 _).other n1 _).other n1 _).other n1 _).other n1 _).other n1 _)
  clear hY
  have g0 := rY.cell 0; have g1 := rY.cell 1; have g2 := rY.cell 2; have g3 := rY.cell 3; have g4 := rY.cell 4; have g5 := rY.cell 5; have g6 := rY.cell 6; have g7 := rY.cell 7; have g8 := rY.cell 8; have g9 := rY.cell 9; have g10 := rY.cell 10; have g11 := rY.cell 11
  simp only [List.getElem?_cons_zero, List.getElem?_cons_succ] at g0 g1 g2 g3 g4 g5 g6 g7 g8 g9 g10 g11
  exact bodyPost_ret (v := .agg #[.slice (some ⟨w.heap.size + 1 + 1 + 1, 0, none⟩) len len, .int .u8 d0, .int .u8 d1, .int .u8 d2, .int .u8 d3, .int .u8 d4, .int .u8 d5, .int .u8 d6, .int .u8 d7, .int .i64 pr, .bool st, .int .i64 tk]) (by simp [results, Try.results13, go_sem, g0, g1, g2, g3, g4, g5, g6, g7, g8, g9, g10, g11]) rfl ⟨_, rfl, bY, sY, by omega⟩
theorem markDevice_any (b n cap : Nat) (xs : List Value) (d0 d1 d2 d3 d4 d5 d6 d7 : Int) (pr : Int) (st : Bool) (tk : Int) (hx : xs.length = n) (hn : n ≤ 1048576) (w : World) (hR : Row w b 5 xs) :
    Calls Try.prog 26 #[.agg #[.slice (some ⟨b, 0, none⟩) n cap, .int .u8 d0, .int .u8 d1, .int .u8 d2, .int .u8 d3, .int .u8 d4, .int .u8 d5, .int .u8 d6, .int .u8 d7, .int .i64 pr, .bool st, .int .i64 tk], .int .i64 1] w fun e w' => e = .returned (.int .i64 (1 + (n : Int))) ∧ OnlyB b (w.alloc (.cells #[.slice (some ⟨b, 0, none⟩) n cap, .int .u8 d0, .int .u8 d1, .int .u8 d2, .int .u8 d3, .int .u8 d4, .int .u8 d5, .int .u8 d6, .int .u8 d7, .int .i64 pr, .bool st, .int .i64 tk] 31)) w' := by
  have H := hid (markStack_any b n cap xs hx hn _ (hR.alloc (.cells #[.slice (some ⟨b, 0, none⟩) n cap, .int .u8 d0, .int .u8 d1, .int .u8 d2, .int .u8 d3, .int .u8 d4, .int .u8 d5, .int .u8 d6, .int .u8 d7, .int .i64 pr, .bool st, .int .i64 tk] 31)))
  clear hR hx hn
  go_enter Try.func26, Try.ntmps26
  go_wp2_with fail
  refine H.out.mono ?_
  rintro e w1 ⟨rfl, hO⟩
  go_wp2_with fail
  go_ret
  exact ⟨rfl, hO⟩
end Go.Proofs.Ytangjgfjojfcaaa
