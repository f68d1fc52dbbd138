/- settle at impl.Parts. -/
import Derived.Test.YtjpiobcilpjfeaaTeeth
namespace Go.Proofs.Ytjpiobcilpjfeaa
open Go.RowKit

theorem settleCatch_pan_parts (p : Addr) (x turn : Int) (w : World) (hc : w.cell? p = some (.int .i64 x)) (hz : w.frozen? p = false) :
    CallsD Try.prog 88 #[.pointer (some p)] (.panicking ({ v := .iface 124 (.int .i64 turn), recovered := false } :: [])) w fun e u' w' =>
      e = .returned (.tuple #[]) ∧ u' = .panicking ({ v := .iface 124 (.int .i64 turn), recovered := true } :: []) ∧ w' = w.setCell p (.int .i64 2) := by
  have ta : ∀ w, (Instr.typeAssert (.iface 124 (.int .i64 turn)) 20 112 true).run Try.prog w = .ok (.tuple #[.iface 124 (.int .i64 turn), .bool true]) w := fun _ => by kernel_rfl
  have hm : ∀ w, (method 243 124 (.int .i64 turn) "loop.example/g01278/impl.code").run Try.prog w = .ok (119, .int .i64 turn) w := fun _ => by kernel_rfl
  refine callsD_of_wpS Try.func88 rfl fun c₀ cs hu => ?_
  apply wpS_seq
  apply wpS_region
  simp [wpOpsS, go_sem, recoverD, hu, Try.ntmps88, Exit.thenS, ta]
  simp only [Array.replicate_succ, Array.replicate_zero, List.push_toArray, List.append_toArray, List.nil_append, List.cons_append, List.setIfInBounds_toArray, List.set_cons_zero, List.set_cons_succ]
  apply wpS_seq
  apply wpS_region
  simp [wpOpsS, go_sem, Exit.thenS]
  refine wpS_cond (t := true) (by simp [Act.eval]) ?_
  simp only [if_true]
  refine wpS_of_wp ?_
  go_wp2
  simp [bodyPostS, results, Try.results88]
theorem settleCatch_idle_parts (p : Addr) (w : World) :
    CallsD Try.prog 88 #[.pointer (some p)] .returning w fun e u' w' => e = .returned (.tuple #[]) ∧ u' = .returning ∧ w' = w := by
  have ta : ∀ w, (Instr.typeAssert .nilIface 20 112 true).run Try.prog w = .ok (.tuple #[.nilIface, .bool false]) w := fun _ => by kernel_rfl
  refine callsD_of_wpS Try.func88 rfl fun c₀ cs hu => ?_
  apply wpS_seq
  apply wpS_region
  simp [wpOpsS, go_sem, recoverD, hu, Try.ntmps88, Exit.thenS, ta]
  simp only [Array.replicate_succ, Array.replicate_zero, List.push_toArray, List.append_toArray, List.nil_append, List.cons_append, List.setIfInBounds_toArray, List.set_cons_zero, List.set_cons_succ]
  apply wpS_seq
  apply wpS_region
  simp [wpOpsS, go_sem, Exit.thenS]
  refine wpS_cond (t := false) (by simp [Act.eval]) ?_
  simp only [Bool.false_eq_true, if_false]
  refine wpS_of_wp (wp_skip ?_)
  cases c₀
  simp_all [bodyPostS, results, Try.results88]
set_option maxRecDepth 100000 in
set_option maxHeartbeats 1000000 in
theorem settle_ok_parts (K : FuncId) (caps : Array Value) (x0 x1 x2 x3 x4 x5 x6 x7 : Int) (w : World) (hcf : ∀ w, Sem.run Try.prog (callFunc K caps) w = .ok (.enter K caps) w) (h : ∀ w1, Below w.heap.size w w1 → w.heap.size < w1.heap.size → Calls Try.prog K caps w1 fun e w' => e = .returned (.agg #[.int .i64 x0, .int .i64 x1, .int .i64 x2, .int .i64 x3, .int .i64 x4, .int .i64 x5, .int .i64 x6, .int .i64 x7]) ∧ Below w1.heap.size w1 w') :
    Calls Try.prog 55 #[.func (.func K) #[] caps] w fun e w' => e = .returned (.tuple #[.agg #[.int .i64 x0, .int .i64 x1, .int .i64 x2, .int .i64 x3, .int .i64 x4, .int .i64 x5, .int .i64 x6, .int .i64 x7], .int .i64 0]) ∧ Below w.heap.size w w' := by
  have bel : Below w.heap.size w ((w.alloc (.cells #[.int .i64 0, .int .i64 0, .int .i64 0, .int .i64 0, .int .i64 0, .int .i64 0, .int .i64 0, .int .i64 0] 39)).alloc (.cells #[.int .i64 1] 2)) := ((Below.refl _ w).alloc (Nat.le_refl _) _).alloc (by simp) _
  have H := hid (h ((w.alloc (.cells #[.int .i64 0, .int .i64 0, .int .i64 0, .int .i64 0, .int .i64 0, .int .i64 0, .int .i64 0, .int .i64 0] 39)).alloc (.cells #[.int .i64 1] 2)) bel (by simp; omega))
  have rR := hid ((Row.new w 39 [.int .i64 0, .int .i64 0, .int .i64 0, .int .i64 0, .int .i64 0, .int .i64 0, .int .i64 0, .int .i64 0]).alloc (.cells #[.int .i64 1] 2))
  have rB' := Row.new (w.alloc (.cells #[.int .i64 0, .int .i64 0, .int .i64 0, .int .i64 0, .int .i64 0, .int .i64 0, .int .i64 0, .int .i64 0] 39)) 2 [.int .i64 1]
  simp only [World.size_alloc] at rB'
  have rB := hid rB'
  clear h rB'
  have hmf : ∀ (fn : Fn) (first cap : Array Value) (w : World), (Instr.makeFunc fn first cap).run Try.prog w = .ok (.func fn first cap) w := fun _ _ _ _ => rfl
  go_enter_defers Try.func55, Try.ntmps55
  go_wp2_with fail
  refine H.out.mono ?_
  rintro e w1 ⟨rfl, hB⟩
  have hz := hB.size
  simp only [World.size_alloc] at hB hz
  have r1 := rB.out.below hB (by omega)
  have q1 := rR.out.below hB (by omega)
  have hc := r1.cell 0
  have hf := r1.frozen 0
  have g0 := q1.cell 0; have k0 := q1.frozen 0; have g1 := q1.cell 1; have k1 := q1.frozen 1; have g2 := q1.cell 2; have k2 := q1.frozen 2; have g3 := q1.cell 3; have k3 := q1.frozen 3; have g4 := q1.cell 4; have k4 := q1.frozen 4; have g5 := q1.cell 5; have k5 := q1.frozen 5; have g6 := q1.cell 6; have k6 := q1.frozen 6; have g7 := q1.cell 7; have k7 := q1.frozen 7
  simp only [List.getElem?_cons_zero, List.getElem?_cons_succ] at hc g0 g1 g2 g3 g4 g5 g6 g7
  obtain ⟨V, hV⟩ : ∃ V, V = ((((((((w1.setCell ⟨w.heap.size, 0, none⟩ (.int .i64 x0)).setCell ⟨w.heap.size, 1, none⟩ (.int .i64 x1)).setCell ⟨w.heap.size, 2, none⟩ (.int .i64 x2)).setCell ⟨w.heap.size, 3, none⟩ (.int .i64 x3)).setCell ⟨w.heap.size, 4, none⟩ (.int .i64 x4)).setCell ⟨w.heap.size, 5, none⟩ (.int .i64 x5)).setCell ⟨w.heap.size, 6, none⟩ (.int .i64 x6)).setCell ⟨w.heap.size, 7, none⟩ (.int .i64 x7)) := ⟨_, rfl⟩
  have vR : Row V w.heap.size 39 [.int .i64 x0, .int .i64 x1, .int .i64 x2, .int .i64 x3, .int .i64 x4, .int .i64 x5, .int .i64 x6, .int .i64 x7] := by rw [hV]; exact ((((((((q1.set 0 (.int .i64 x0)).set 1 (.int .i64 x1)).set 2 (.int .i64 x2)).set 3 (.int .i64 x3)).set 4 (.int .i64 x4)).set 5 (.int .i64 x5)).set 6 (.int .i64 x6)).set 7 (.int .i64 x7))
  have vB : Row V (w.heap.size + 1) 2 [.int .i64 1] := by rw [hV]; exact ((((((((r1.other (a := ⟨w.heap.size, 0, none⟩) (by show w.heap.size ≠ w.heap.size + 1; omega) (.int .i64 x0)).other (a := ⟨w.heap.size, 1, none⟩) (by show w.heap.size ≠ w.heap.size + 1; omega) (.int .i64 x1)).other (a := ⟨w.heap.size, 2, none⟩) (by show w.heap.size ≠ w.heap.size + 1; omega) (.int .i64 x2)).other (a := ⟨w.heap.size, 3, none⟩) (by show w.heap.size ≠ w.heap.size + 1; omega) (.int .i64 x3)).other (a := ⟨w.heap.size, 4, none⟩) (by show w.heap.size ≠ w.heap.size + 1; omega) (.int .i64 x4)).other (a := ⟨w.heap.size, 5, none⟩) (by show w.heap.size ≠ w.heap.size + 1; omega) (.int .i64 x5)).other (a := ⟨w.heap.size, 6, none⟩) (by show w.heap.size ≠ w.heap.size + 1; omega) (.int .i64 x6)).other (a := ⟨w.heap.size, 7, none⟩) (by show w.heap.size ≠ w.heap.size + 1; omega) (.int .i64 x7))
  have vb : Below w.heap.size w V := by rw [hV]; exact (((((((((bel.trans (hB.mono (by omega))).setCell (p := ⟨w.heap.size, 0, none⟩) (Nat.le_refl _) (.int .i64 x0)).setCell (p := ⟨w.heap.size, 1, none⟩) (Nat.le_refl _) (.int .i64 x1)).setCell (p := ⟨w.heap.size, 2, none⟩) (Nat.le_refl _) (.int .i64 x2)).setCell (p := ⟨w.heap.size, 3, none⟩) (Nat.le_refl _) (.int .i64 x3)).setCell (p := ⟨w.heap.size, 4, none⟩) (Nat.le_refl _) (.int .i64 x4)).setCell (p := ⟨w.heap.size, 5, none⟩) (Nat.le_refl _) (.int .i64 x5)).setCell (p := ⟨w.heap.size, 6, none⟩) (Nat.le_refl _) (.int .i64 x6)).setCell (p := ⟨w.heap.size, 7, none⟩) (Nat.le_refl _) (.int .i64 x7))
  obtain ⟨W, hW⟩ : ∃ W, W = V.setCell ⟨w.heap.size + 1, 0, none⟩ (.int .i64 0) := ⟨_, rfl⟩
  have fin : Row W w.heap.size 39 [.int .i64 x0, .int .i64 x1, .int .i64 x2, .int .i64 x3, .int .i64 x4, .int .i64 x5, .int .i64 x6, .int .i64 x7] ∧ Row W (w.heap.size + 1) 2 [.int .i64 0] ∧ Below w.heap.size w W := by
    rw [hW]
    exact ⟨vR.other (a := ⟨w.heap.size + 1, 0, none⟩) (by show w.heap.size + 1 ≠ w.heap.size; omega) _, vB.set 0 _, vb.setCell (p := ⟨w.heap.size + 1, 0, none⟩) (by show w.heap.size ≤ w.heap.size + 1; omega) _⟩
  have FIN := hid fin
  clear r1 q1 vR vB vb fin
  go_wp2_with fail
  rw [← hV, ← hW]
  clear hV hW hc hf g0 k0 g1 k1 g2 k2 g3 k3 g4 k4 g5 k5 g6 k6 g7 k7
  refine leaves_cons (f := 88) (args := #[.pointer (some ⟨w.heap.size + 1, 0, none⟩)]) (by simp) (by simp [go_sem]) ?_
  refine (settleCatch_idle_parts _ _).mono ?_
  rintro e u' w'' ⟨rfl, rfl, rfl⟩
  obtain ⟨fR, fB, fb⟩ := FIN.out
  have c0 := fB.cell 0
  have g0 := fR.cell 0; have g1 := fR.cell 1; have g2 := fR.cell 2; have g3 := fR.cell 3; have g4 := fR.cell 4; have g5 := fR.cell 5; have g6 := fR.cell 6; have g7 := fR.cell 7
  simp only [List.getElem?_cons_zero, List.getElem?_cons_succ] at c0 g0 g1 g2 g3 g4 g5 g6 g7
  simp [Leaves, settle, results, Try.results55, go_sem, c0, fb, g0, g1, g2, g3, g4, g5, g6, g7]
set_option maxRecDepth 100000 in
set_option maxHeartbeats 1000000 in
theorem settle_pan_parts (K : FuncId) (caps : Array Value) (x : Int) (w : World) (hcf : ∀ w, Sem.run Try.prog (callFunc K caps) w = .ok (.enter K caps) w)
    (h : ∀ w1, Below w.heap.size w w1 → w.heap.size < w1.heap.size → Calls Try.prog K caps w1 fun e w' => e = .panicked [{ v := .iface 124 (.int .i64 x), recovered := false }] ∧ Below w1.heap.size w1 w') :
    Calls Try.prog 55 #[.func (.func K) #[] caps] w fun e w' => e = .returned (.tuple #[.agg #[.int .i64 0, .int .i64 0, .int .i64 0, .int .i64 0, .int .i64 0, .int .i64 0, .int .i64 0, .int .i64 0], .int .i64 2]) ∧ Below w.heap.size w w' := by
  have bel : Below w.heap.size w ((w.alloc (.cells #[.int .i64 0, .int .i64 0, .int .i64 0, .int .i64 0, .int .i64 0, .int .i64 0, .int .i64 0, .int .i64 0] 39)).alloc (.cells #[.int .i64 1] 2)) := ((Below.refl _ w).alloc (Nat.le_refl _) _).alloc (by simp) _
  have H := hid (h ((w.alloc (.cells #[.int .i64 0, .int .i64 0, .int .i64 0, .int .i64 0, .int .i64 0, .int .i64 0, .int .i64 0, .int .i64 0] 39)).alloc (.cells #[.int .i64 1] 2)) bel (by simp; omega))
  have rR := hid ((Row.new w 39 [.int .i64 0, .int .i64 0, .int .i64 0, .int .i64 0, .int .i64 0, .int .i64 0, .int .i64 0, .int .i64 0]).alloc (.cells #[.int .i64 1] 2))
  have rB' := Row.new (w.alloc (.cells #[.int .i64 0, .int .i64 0, .int .i64 0, .int .i64 0, .int .i64 0, .int .i64 0, .int .i64 0, .int .i64 0] 39)) 2 [.int .i64 1]
  simp only [World.size_alloc] at rB'
  have rB := hid rB'
  clear h rB'
  have hmf : ∀ (fn : Fn) (first cap : Array Value) (w : World), (Instr.makeFunc fn first cap).run Try.prog w = .ok (.func fn first cap) w := fun _ _ _ _ => rfl
  go_enter_defers Try.func55, Try.ntmps55
  go_wp2_with fail
  refine H.out.mono ?_
  rintro e w1 ⟨rfl, hB⟩
  have hz := hB.size
  simp only [World.size_alloc] at hB hz
  have r1 := rB.out.below hB (by omega)
  have q1 := hid (rR.out.below hB (by omega))
  have hc := r1.cell 0
  have hf := r1.frozen 0
  simp only [List.getElem?_cons_zero] at hc
  go_wp2_with fail
  refine leaves_cons (f := 88) (args := #[.pointer (some ⟨w.heap.size + 1, 0, none⟩)]) (by simp) (by simp [go_sem]) ?_
  refine (settleCatch_pan_parts _ _ _ _ hc hf).mono ?_
  rintro e u' w'' ⟨rfl, rfl, rfl⟩
  obtain ⟨W, hW⟩ : ∃ W, W = w1.setCell ⟨w.heap.size + 1, 0, none⟩ (.int .i64 2) := ⟨_, rfl⟩
  have fR : Row W w.heap.size 39 [.int .i64 0, .int .i64 0, .int .i64 0, .int .i64 0, .int .i64 0, .int .i64 0, .int .i64 0, .int .i64 0] := by rw [hW]; exact q1.out.other (a := ⟨w.heap.size + 1, 0, none⟩) (by show w.heap.size + 1 ≠ w.heap.size; omega) _
  have fB : Row W (w.heap.size + 1) 2 [.int .i64 2] := by rw [hW]; exact r1.set 0 _
  have fb : Below w.heap.size w W := by rw [hW]; exact (bel.trans (hB.mono (by omega))).setCell (p := ⟨w.heap.size + 1, 0, none⟩) (by show w.heap.size ≤ w.heap.size + 1; omega) _
  rw [← hW]
  clear hW hc hf r1
  have c0 := fB.cell 0
  have g0 := fR.cell 0; have g1 := fR.cell 1; have g2 := fR.cell 2; have g3 := fR.cell 3; have g4 := fR.cell 4; have g5 := fR.cell 5; have g6 := fR.cell 6; have g7 := fR.cell 7
  simp only [List.getElem?_cons_zero, List.getElem?_cons_succ] at c0 g0 g1 g2 g3 g4 g5 g6 g7
  simp [Leaves, settle, results, Try.results55, go_sem, c0, fb, g0, g1, g2, g3, g4, g5, g6, g7]
end Go.Proofs.Ytjpiobcilpjfeaa
