/- settle at []int64. -/
import Derived.Test.YtomhmkdfhhmenaaTeeth
import Derived.Test.YtomhmkdfhhmenaaMwJ
namespace Go.Proofs.Ytomhmkdfhhmenaa
open Go.RowKit

theorem settleCatch_pan_ints (p : Addr) (x turn : Int) (w : World) (hc : w.cell? p = some (.int .i64 x)) (hz : w.frozen? p = false) :
    CallsD Try.prog 41 #[.pointer (some p)] (.panicking ({ v := .iface 99 (.int .i64 turn), recovered := false } :: [])) w fun e u' w' =>
      e = .returned (.tuple #[]) ∧ u' = .panicking ({ v := .iface 99 (.int .i64 turn), recovered := true } :: []) ∧ w' = w.setCell p (.int .i64 2) := by
  have ta : ∀ w, (Instr.typeAssert (.iface 99 (.int .i64 turn)) 20 83 true).run Try.prog w = .ok (.tuple #[.iface 99 (.int .i64 turn), .bool true]) w := fun _ => by kernel_rfl
  have hm : ∀ w, (method 225 99 (.int .i64 turn) "loop.example/g01278/impl.code").run Try.prog w = .ok (77, .int .i64 turn) w := fun _ => by kernel_rfl
  refine callsD_of_wpS Try.func41 rfl fun c₀ cs hu => ?_
  apply wpS_seq
  apply wpS_region
  simp [wpOpsS, go_sem, recoverD, hu, Try.ntmps41, Exit.thenS, ta]
  simp only [Array.replicate_succ, Array.replicate_zero, List.push_toArray, List.append_toArray, List.nil_append, List.cons_append, List.setIfInBounds_toArray, List.set_cons_zero, List.set_cons_succ]
  apply wpS_seq
  apply wpS_region
  simp [wpOpsS, go_sem, Exit.thenS]
  refine wpS_cond (t := true) (by simp [Act.eval]) ?_
  simp only [if_true]
  refine wpS_of_wp ?_
  go_wp2
  simp [bodyPostS, results, Try.results41]
theorem settleCatch_idle_ints (p : Addr) (w : World) :
    CallsD Try.prog 41 #[.pointer (some p)] .returning w fun e u' w' => e = .returned (.tuple #[]) ∧ u' = .returning ∧ w' = w := by
  have ta : ∀ w, (Instr.typeAssert .nilIface 20 83 true).run Try.prog w = .ok (.tuple #[.nilIface, .bool false]) w := fun _ => by kernel_rfl
  refine callsD_of_wpS Try.func41 rfl fun c₀ cs hu => ?_
  apply wpS_seq
  apply wpS_region
  simp [wpOpsS, go_sem, recoverD, hu, Try.ntmps41, Exit.thenS, ta]
  simp only [Array.replicate_succ, Array.replicate_zero, List.push_toArray, List.append_toArray, List.nil_append, List.cons_append, List.setIfInBounds_toArray, List.set_cons_zero, List.set_cons_succ]
  apply wpS_seq
  apply wpS_region
  simp [wpOpsS, go_sem, Exit.thenS]
  refine wpS_cond (t := false) (by simp [Act.eval]) ?_
  simp only [Bool.false_eq_true, if_false]
  refine wpS_of_wp (wp_skip ?_)
  cases c₀
  simp_all [bodyPostS, results, Try.results41]
theorem settle_ok_ints (K : FuncId) (caps : Array Value) (E : List Int) (w : World) (hcf : ∀ w, Sem.run Try.prog (callFunc K caps) w = .ok (.enter K caps) w)
    (h : Calls Try.prog K caps (w.alloc (.cells #[.int .i64 1] 2)) fun e w' => ∃ x, e = .returned x ∧ OwnI w' (w.heap.size + 1) x E ∧ Below (w.heap.size + 1) (w.alloc (.cells #[.int .i64 1] 2)) w') :
    Calls Try.prog 22 #[.func (.func K) #[] caps] w fun e w' => ∃ x, e = .returned (.tuple #[x, .int .i64 0]) ∧ OwnI w' w.heap.size x E ∧ Below w.heap.size w w' := by
  have H := hid h
  have rB := hid (Row.new w 2 [.int .i64 1])
  clear h
  have hmf : ∀ (fn : Fn) (first cap : Array Value) (w : World), (Instr.makeFunc fn first cap).run Try.prog w = .ok (.func fn first cap) w := fun _ _ _ _ => rfl
  go_enter_defers Try.func22, Try.ntmps22
  go_wp2_with fail
  refine H.out.mono ?_
  rintro e w1 ⟨x, rfl, hO, hB⟩
  have hz := hB.size
  have r1 := rB.out.below hB (by omega)
  have hc := r1.cell 0
  have hf := r1.frozen 0
  simp only [List.getElem?_cons_zero] at hc
  have r2 := hid (r1.set 0 (.int .i64 0))
  have b2 := hid ((((Below.refl w.heap.size w).alloc (Nat.le_refl _) (.cells #[.int .i64 1] 2)).trans (hB.mono (by omega))).setCell (p := ⟨w.heap.size, 0, none⟩) (Nat.le_refl _) (.int .i64 0))
  have q2 := hid ((hO.only ((OnlyB.refl w.heap.size w1).set 0 (.int .i64 0)) (by omega)).base (b' := w.heap.size) (by omega))
  clear r1 hO
  go_wp2_with fail
  obtain ⟨W, hW⟩ : ∃ W, W = w1.setCell ⟨w.heap.size, 0, none⟩ (.int .i64 0) := ⟨_, rfl⟩
  rw [← hW] at r2 b2 q2 ⊢
  clear hW hc hf
  have g := r2.out.cell 0
  simp only [List.set_cons_zero, List.getElem?_cons_zero] at g
  refine leaves_cons (f := 41) (args := #[.pointer (some ⟨w.heap.size, 0, none⟩)]) (by simp) (by simp [go_sem]) ?_
  refine (settleCatch_idle_ints _ _).mono ?_
  rintro e u' w'' ⟨rfl, rfl, rfl⟩
  simp [Leaves, settle, results, Try.results22, go_sem, g, b2.out, q2.out]
theorem settle_pan_ints (K : FuncId) (caps : Array Value) (x : Int) (w : World) (hcf : ∀ w, Sem.run Try.prog (callFunc K caps) w = .ok (.enter K caps) w)
    (h : ∀ w1, Below w.heap.size w w1 → w.heap.size < w1.heap.size → Calls Try.prog K caps w1 fun e w' => e = .panicked [{ v := .iface 99 (.int .i64 x), recovered := false }] ∧ Below w1.heap.size w1 w') :
    Calls Try.prog 22 #[.func (.func K) #[] caps] w fun e w' => e = .returned (.tuple #[.slice none 0 0, .int .i64 2]) ∧ Below w.heap.size w w' := by
  have H := hid (h (w.alloc (.cells #[.int .i64 1] 2)) ((Below.refl _ w).alloc (Nat.le_refl _) _) (by simp))
  have rB := hid (Row.new w 2 [.int .i64 1])
  clear h
  have hmf : ∀ (fn : Fn) (first cap : Array Value) (w : World), (Instr.makeFunc fn first cap).run Try.prog w = .ok (.func fn first cap) w := fun _ _ _ _ => rfl
  go_enter_defers Try.func22, Try.ntmps22
  go_wp2_with fail
  refine H.out.mono ?_
  rintro e w1 ⟨rfl, hB⟩
  have hz := hB.size
  simp only [World.size_alloc] at hB hz
  have r1 := rB.out.below hB (by omega)
  have hc := r1.cell 0
  have hf := r1.frozen 0
  simp only [List.getElem?_cons_zero] at hc
  have r2 := hid (r1.set 0 (.int .i64 2))
  have b2 := hid ((((Below.refl w.heap.size w).alloc (Nat.le_refl _) (.cells #[.int .i64 1] 2)).trans (hB.mono (by omega))).setCell (p := ⟨w.heap.size, 0, none⟩) (Nat.le_refl _) (.int .i64 2))
  clear r1
  go_wp2_with fail
  refine leaves_cons (f := 41) (args := #[.pointer (some ⟨w.heap.size, 0, none⟩)]) (by simp) (by simp [go_sem]) ?_
  refine (settleCatch_pan_ints _ _ _ _ hc hf).mono ?_
  rintro e u' w'' ⟨rfl, rfl, rfl⟩
  obtain ⟨W, hW⟩ : ∃ W, W = w1.setCell ⟨w.heap.size, 0, none⟩ (.int .i64 2) := ⟨_, rfl⟩
  rw [← hW] at r2 b2 ⊢
  clear hW hc hf
  have g := r2.out.cell 0
  simp only [List.set_cons_zero, List.getElem?_cons_zero] at g
  simp [Leaves, settle, results, Try.results22, go_sem, g, b2.out]
end Go.Proofs.Ytomhmkdfhhmenaa
