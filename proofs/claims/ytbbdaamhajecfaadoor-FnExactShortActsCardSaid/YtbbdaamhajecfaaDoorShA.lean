/- Acts without a pulse; acts that join. -/
import Derived.Test.YtbbdaamhajecfaaDoorShM
import Derived.Deep.QuietTactic
namespace Go.Proofs.YtbbdaamhajecfaaDoor
open Go.RowKit
set_option linter.unusedVariables false
set_option linter.unusedSimpArgs false
set_option maxRecDepth 100000 in
set_option maxHeartbeats 1000000 in
theorem idle_1 (n : Int) (w : World) : Calls Tryd.prog 22 #[.agg #[.int .i8 1, .int .i64 n]] w (GivesB w (.bool (decide (n = 0)))) := by
  have HD := hid (fun W => deed_1 n W)
  unfold deedV at HD
  rw [if_pos rfl] at HD
  have ta : ∀ w, (Instr.typeAssert (.iface 56 (.agg #[.int .i64 n, .int .i64 1])) 59 56 true).run Tryd.prog w = .ok (.tuple #[(.agg #[.int .i64 n, .int .i64 1]), .bool true]) w := fun _ => by kernel_rfl
  by_cases h0 : n = 0
  · subst h0
    go_enter Tryd.func22, Tryd.ntmps22
    go_wp2_with fail
    refine (HD.out _).mono ?_
    rintro e w1 ⟨rfl, hB1⟩
    go_wp2_with fail
    go_ret
    exact ⟨rfl, by first | exact hB1 | exact (Below.refl _ _).trans hB1 | (have hb := ((Below.refl w.heap.size w).alloc (Nat.le_refl _) _).trans (hB1.mono (by simp)); first | exact hb | exact hb.alloc (by have := hb.size; omega) _)⟩
  · have d0 : (n == 0) = false := by simpa using h0
    have d1 : decide (n = 0) = false := decide_eq_false h0
    rw [d1]
    go_enter Tryd.func22, Tryd.ntmps22
    go_wp2_with fail
    refine (HD.out _).mono ?_
    rintro e w1 ⟨rfl, hB1⟩
    go_wp2_with fail
    go_ret
    exact ⟨rfl, by first | exact hB1 | exact (Below.refl _ _).trans hB1 | (have hb := ((Below.refl w.heap.size w).alloc (Nat.le_refl _) _).trans (hB1.mono (by simp)); first | exact hb | exact hb.alloc (by have := hb.size; omega) _)⟩
set_option maxRecDepth 100000 in
set_option maxHeartbeats 1000000 in
theorem idle_2 (n : Int) (w : World) : Calls Tryd.prog 22 #[.agg #[.int .i8 2, .int .i64 n]] w (GivesB w (.bool (decide (n = 0)))) := by
  have HD := hid (fun W => deed_2 n W)
  unfold deedV at HD
  rw [if_neg (by decide)] at HD;rw [if_pos rfl] at HD
  have ta : ∀ w, (Instr.typeAssert (.iface 56 (.agg #[.int .i64 n, .int .i64 (-1)])) 59 56 true).run Tryd.prog w = .ok (.tuple #[(.agg #[.int .i64 n, .int .i64 (-1)]), .bool true]) w := fun _ => by kernel_rfl
  by_cases h0 : n = 0
  · subst h0
    go_enter Tryd.func22, Tryd.ntmps22
    go_wp2_with fail
    refine (HD.out _).mono ?_
    rintro e w1 ⟨rfl, hB1⟩
    go_wp2_with fail
    go_ret
    exact ⟨rfl, by first | exact hB1 | exact (Below.refl _ _).trans hB1 | (have hb := ((Below.refl w.heap.size w).alloc (Nat.le_refl _) _).trans (hB1.mono (by simp)); first | exact hb | exact hb.alloc (by have := hb.size; omega) _)⟩
  · have d0 : (n == 0) = false := by simpa using h0
    have d1 : decide (n = 0) = false := decide_eq_false h0
    rw [d1]
    go_enter Tryd.func22, Tryd.ntmps22
    go_wp2_with fail
    refine (HD.out _).mono ?_
    rintro e w1 ⟨rfl, hB1⟩
    go_wp2_with fail
    go_ret
    exact ⟨rfl, by first | exact hB1 | exact (Below.refl _ _).trans hB1 | (have hb := ((Below.refl w.heap.size w).alloc (Nat.le_refl _) _).trans (hB1.mono (by simp)); first | exact hb | exact hb.alloc (by have := hb.size; omega) _)⟩
set_option maxRecDepth 100000 in
set_option maxHeartbeats 1000000 in
theorem idle_3 (n : Int) (w : World) : Calls Tryd.prog 22 #[.agg #[.int .i8 3, .int .i64 n]] w (GivesB w (.bool (false))) := by
  have HD := hid (fun W => deed_3 n W)
  unfold deedV at HD
  rw [if_neg (by decide)] at HD; rw [if_neg (by decide)] at HD;rw [if_pos rfl] at HD
  have ta : ∀ w, (Instr.typeAssert (.iface 61 (.int .i64 n)) 59 56 true).run Tryd.prog w = .ok (.tuple #[(.agg #[.int .i64 0, .int .i64 0]), .bool false]) w := fun _ => by kernel_rfl
  go_enter Tryd.func22, Tryd.ntmps22
  go_wp2_with fail
  refine (HD.out _).mono ?_
  rintro e w1 ⟨rfl, hB1⟩
  go_wp2_with fail
  go_ret
  exact ⟨rfl, by first | exact hB1 | exact (Below.refl _ _).trans hB1 | (have hb := ((Below.refl w.heap.size w).alloc (Nat.le_refl _) _).trans (hB1.mono (by simp)); first | exact hb | exact hb.alloc (by have := hb.size; omega) _)⟩
set_option maxRecDepth 100000 in
set_option maxHeartbeats 1000000 in
theorem idle_4 (n : Int) (w : World) : Calls Tryd.prog 22 #[.agg #[.int .i8 4, .int .i64 n]] w (GivesB w (.bool (false))) := by
  have HD := hid (fun W => deed_4 n W)
  unfold deedV at HD
  rw [if_neg (by decide)] at HD; rw [if_neg (by decide)] at HD; rw [if_neg (by decide)] at HD;rw [if_pos rfl] at HD
  have ta : ∀ w, (Instr.typeAssert (.iface 63 (.agg #[])) 59 56 true).run Tryd.prog w = .ok (.tuple #[(.agg #[.int .i64 0, .int .i64 0]), .bool false]) w := fun _ => by kernel_rfl
  go_enter Tryd.func22, Tryd.ntmps22
  go_wp2_with fail
  refine (HD.out _).mono ?_
  rintro e w1 ⟨rfl, hB1⟩
  go_wp2_with fail
  go_ret
  exact ⟨rfl, by first | exact hB1 | exact (Below.refl _ _).trans hB1 | (have hb := ((Below.refl w.heap.size w).alloc (Nat.le_refl _) _).trans (hB1.mono (by simp)); first | exact hb | exact hb.alloc (by have := hb.size; omega) _)⟩
set_option maxRecDepth 100000 in
set_option maxHeartbeats 1000000 in
theorem idle_5 (n : Int) (w : World) : Calls Tryd.prog 22 #[.agg #[.int .i8 5, .int .i64 n]] w (GivesB w (.bool (false))) := by
  have HD := hid (fun W => deed_5 n W)
  unfold deedV at HD
  rw [if_neg (by decide)] at HD; rw [if_neg (by decide)] at HD; rw [if_neg (by decide)] at HD; rw [if_neg (by decide)] at HD;skip
  have ta : ∀ w, (Instr.typeAssert (.iface 76 (.agg #[])) 59 56 true).run Tryd.prog w = .ok (.tuple #[(.agg #[.int .i64 0, .int .i64 0]), .bool false]) w := fun _ => by kernel_rfl
  go_enter Tryd.func22, Tryd.ntmps22
  go_wp2_with fail
  refine (HD.out _).mono ?_
  rintro e w1 ⟨rfl, hB1⟩
  go_wp2_with fail
  go_ret
  exact ⟨rfl, by first | exact hB1 | exact (Below.refl _ _).trans hB1 | (have hb := ((Below.refl w.heap.size w).alloc (Nat.le_refl _) _).trans (hB1.mono (by simp)); first | exact hb | exact hb.alloc (by have := hb.size; omega) _)⟩
set_option maxRecDepth 100000 in
set_option maxHeartbeats 1000000 in
theorem idle_any (k n : Int) (h : okAct k n = true) (w : World) : Calls Tryd.prog 22 #[.agg #[.int .i8 k, .int .i64 n]] w (GivesB w (.bool (isCnt k && n == 0))) := by
  rcases okAct_kind h with rfl | rfl | rfl | rfl | rfl
  · have e : (isCnt 1 && n == 0) = decide (n = 0) := by simp [isCnt]; by_cases c : n = 0 <;> simp [c]
    rw [e]; exact idle_1 n w
  · have e : (isCnt 2 && n == 0) = decide (n = 0) := by simp [isCnt]; by_cases c : n = 0 <;> simp [c]
    rw [e]; exact idle_2 n w
  · exact idle_3 n w
  · exact idle_4 n w
  · exact idle_5 n w
set_option maxRecDepth 100000 in
set_option maxHeartbeats 1000000 in
theorem joined_ne (k n k2 n2 : Int) (h : k ≠ k2) (w : World) : Calls Tryd.prog 23 #[.agg #[.int .i8 k, .int .i64 n], .agg #[.int .i8 k2, .int .i64 n2]] w (GivesB w (.tuple #[.agg #[.int .i8 0, .int .i64 0], .bool false])) := by
  have dk : (k != k2) = true := by simpa using h
  go_enter Tryd.func23, Tryd.ntmps23
  go_wp2_with fail
  exact bodyPost_ret (v := .tuple #[.agg #[.int .i8 0, .int .i64 0], .bool false]) (by simp [results, Tryd.results23, go_sem]) rfl ⟨rfl, by have hb0 := Below.refl w.heap.size w; (repeat (first | assumption | refine Below.setCell ?_ (by first | omega | (simp; done) | (simp; omega)) _ | refine Below.alloc ?_ (by first | omega | (simp; done) | (simp; omega)) _))⟩
set_option maxRecDepth 100000 in
set_option maxHeartbeats 1000000 in
theorem joined_1 (n n2 : Int) (hn : 0 ≤ n ∧ n ≤ 1000000000000000) (hn2 : 0 ≤ n2 ∧ n2 ≤ 1000000000000) (w : World) : Calls Tryd.prog 23 #[.agg #[.int .i8 1, .int .i64 n], .agg #[.int .i8 1, .int .i64 n2]] w (GivesB w (.tuple #[.agg #[.int .i8 1, .int .i64 (n + n2)], .bool true])) := by
  have HD := hid (fun W => deed_1 n W)
  unfold deedV at HD
  rw [if_pos rfl] at HD
  have ta : ∀ w, (Instr.typeAssert (.iface 56 (.agg #[.int .i64 n, .int .i64 1])) 59 56 true).run Tryd.prog w = .ok (.tuple #[(.agg #[.int .i64 n, .int .i64 1]), .bool true]) w := fun _ => by kernel_rfl
  have tb : ∀ w, (Instr.typeAssert (.iface 56 (.agg #[.int .i64 n, .int .i64 1])) 59 61 true).run Tryd.prog w = .ok (.tuple #[(.int .i64 0), .bool false]) w := fun _ => by kernel_rfl
  have tc : ∀ w, (Instr.typeAssert (.iface 56 (.agg #[.int .i64 n, .int .i64 1])) 59 63 true).run Tryd.prog w = .ok (.tuple #[(.agg #[]), .bool false]) w := fun _ => by kernel_rfl
  have wn : IntKind.i64.wrap (n + n2) = n + n2 := IntWalk.i64_in _ (by omega)
  obtain ⟨V, hV⟩ : ∃ y, y = (((w.alloc (.cells #[.int .i8 1, .int .i64 n] 34)).alloc (.cells #[.int .i8 1, .int .i64 n2] 34)).alloc (.cells #[.int .i8 0, .int .i64 0] 34)) := ⟨_, rfl⟩
  have rA : Row V w.heap.size 34 [.int .i8 1, .int .i64 n] := by rw [hV]; exact ((Row.new w _ _).alloc _).alloc _
  have rB : Row V (w.heap.size + 1) 34 [.int .i8 1, .int .i64 n2] := by
    have h := (Row.new (w.alloc (.cells #[.int .i8 1, .int .i64 n] 34)) 34 [.int .i8 1, .int .i64 n2]).alloc (.cells #[.int .i8 0, .int .i64 0] 34)
    simp only [World.size_alloc] at h
    rw [hV]; exact h
  have rR : Row V (w.heap.size + 1 + 1) 34 [.int .i8 0, .int .i64 0] := by
    have h := Row.new ((w.alloc (.cells #[.int .i8 1, .int .i64 n] 34)).alloc (.cells #[.int .i8 1, .int .i64 n2] 34)) 34 [.int .i8 0, .int .i64 0]
    simp only [World.size_alloc] at h
    rw [hV]; exact h
  have bV : Below w.heap.size w V := by rw [hV]; exact (((Below.refl _ _).alloc (Nat.le_refl _) _).alloc (by simp) _).alloc (by simp; omega) _
  have HV := hid hV
  clear hV
  go_enter Tryd.func23, Tryd.ntmps23
  go_wp2_with fail
  rw [← HV.out]
  refine (HD.out _).mono ?_
  rintro e w1 ⟨rfl, hB1⟩
  replace rA := rA.below hB1 rA.lt; replace rB := rB.below hB1 rB.lt; replace rR := rR.below hB1 rR.lt
  have hb0 := bV.trans (hB1.mono bV.size)
  have x0 := rA.cell 0; have x1 := rA.cell 1; have y0 := rB.cell 0; have y1 := rB.cell 1; have z0 := rR.cell 0; have z1 := rR.cell 1
  simp only [List.getElem?_cons_zero, List.getElem?_cons_succ] at x0 x1 y0 y1 z0 z1
  have u0 := rR.frozen 0; have u1 := rR.frozen 1
  clear rA rB rR bV hB1
  go_wp2_with fail
  exact bodyPost_ret (v := .tuple #[.agg #[.int .i8 1, .int .i64 (n + n2)], .bool true]) (by simp [results, Tryd.results23, go_sem, z0, z1]) rfl ⟨rfl, by (repeat (first | assumption | refine Below.setCell ?_ (by first | omega | (simp; done) | (simp; omega)) _ | refine Below.alloc ?_ (by first | omega | (simp; done) | (simp; omega)) _))⟩
set_option maxRecDepth 100000 in
set_option maxHeartbeats 1000000 in
theorem joined_2 (n n2 : Int) (hn : 0 ≤ n ∧ n ≤ 1000000000000000) (hn2 : 0 ≤ n2 ∧ n2 ≤ 1000000000000) (w : World) : Calls Tryd.prog 23 #[.agg #[.int .i8 2, .int .i64 n], .agg #[.int .i8 2, .int .i64 n2]] w (GivesB w (.tuple #[.agg #[.int .i8 2, .int .i64 (n + n2)], .bool true])) := by
  have HD := hid (fun W => deed_2 n W)
  unfold deedV at HD
  rw [if_neg (by decide)] at HD;rw [if_pos rfl] at HD
  have ta : ∀ w, (Instr.typeAssert (.iface 56 (.agg #[.int .i64 n, .int .i64 (-1)])) 59 56 true).run Tryd.prog w = .ok (.tuple #[(.agg #[.int .i64 n, .int .i64 (-1)]), .bool true]) w := fun _ => by kernel_rfl
  have tb : ∀ w, (Instr.typeAssert (.iface 56 (.agg #[.int .i64 n, .int .i64 (-1)])) 59 61 true).run Tryd.prog w = .ok (.tuple #[(.int .i64 0), .bool false]) w := fun _ => by kernel_rfl
  have tc : ∀ w, (Instr.typeAssert (.iface 56 (.agg #[.int .i64 n, .int .i64 (-1)])) 59 63 true).run Tryd.prog w = .ok (.tuple #[(.agg #[]), .bool false]) w := fun _ => by kernel_rfl
  have wn : IntKind.i64.wrap (n + n2) = n + n2 := IntWalk.i64_in _ (by omega)
  obtain ⟨V, hV⟩ : ∃ y, y = (((w.alloc (.cells #[.int .i8 2, .int .i64 n] 34)).alloc (.cells #[.int .i8 2, .int .i64 n2] 34)).alloc (.cells #[.int .i8 0, .int .i64 0] 34)) := ⟨_, rfl⟩
  have rA : Row V w.heap.size 34 [.int .i8 2, .int .i64 n] := by rw [hV]; exact ((Row.new w _ _).alloc _).alloc _
  have rB : Row V (w.heap.size + 1) 34 [.int .i8 2, .int .i64 n2] := by
    have h := (Row.new (w.alloc (.cells #[.int .i8 2, .int .i64 n] 34)) 34 [.int .i8 2, .int .i64 n2]).alloc (.cells #[.int .i8 0, .int .i64 0] 34)
    simp only [World.size_alloc] at h
    rw [hV]; exact h
  have rR : Row V (w.heap.size + 1 + 1) 34 [.int .i8 0, .int .i64 0] := by
    have h := Row.new ((w.alloc (.cells #[.int .i8 2, .int .i64 n] 34)).alloc (.cells #[.int .i8 2, .int .i64 n2] 34)) 34 [.int .i8 0, .int .i64 0]
    simp only [World.size_alloc] at h
    rw [hV]; exact h
  have bV : Below w.heap.size w V := by rw [hV]; exact (((Below.refl _ _).alloc (Nat.le_refl _) _).alloc (by simp) _).alloc (by simp; omega) _
  have HV := hid hV
  clear hV
  go_enter Tryd.func23, Tryd.ntmps23
  go_wp2_with fail
  rw [← HV.out]
  refine (HD.out _).mono ?_
  rintro e w1 ⟨rfl, hB1⟩
  replace rA := rA.below hB1 rA.lt; replace rB := rB.below hB1 rB.lt; replace rR := rR.below hB1 rR.lt
  have hb0 := bV.trans (hB1.mono bV.size)
  have x0 := rA.cell 0; have x1 := rA.cell 1; have y0 := rB.cell 0; have y1 := rB.cell 1; have z0 := rR.cell 0; have z1 := rR.cell 1
  simp only [List.getElem?_cons_zero, List.getElem?_cons_succ] at x0 x1 y0 y1 z0 z1
  have u0 := rR.frozen 0; have u1 := rR.frozen 1
  clear rA rB rR bV hB1
  go_wp2_with fail
  exact bodyPost_ret (v := .tuple #[.agg #[.int .i8 2, .int .i64 (n + n2)], .bool true]) (by simp [results, Tryd.results23, go_sem, z0, z1]) rfl ⟨rfl, by (repeat (first | assumption | refine Below.setCell ?_ (by first | omega | (simp; done) | (simp; omega)) _ | refine Below.alloc ?_ (by first | omega | (simp; done) | (simp; omega)) _))⟩
set_option maxRecDepth 100000 in
set_option maxHeartbeats 1000000 in
theorem joined_3 (n n2 : Int) (w : World) : Calls Tryd.prog 23 #[.agg #[.int .i8 3, .int .i64 n], .agg #[.int .i8 3, .int .i64 n2]] w (GivesB w (.tuple #[.agg #[.int .i8 3, .int .i64 n2], .bool true])) := by
  have HD := hid (fun W => deed_3 n W)
  unfold deedV at HD
  rw [if_neg (by decide)] at HD; rw [if_neg (by decide)] at HD;rw [if_pos rfl] at HD
  have ta : ∀ w, (Instr.typeAssert (.iface 61 (.int .i64 n)) 59 56 true).run Tryd.prog w = .ok (.tuple #[(.agg #[.int .i64 0, .int .i64 0]), .bool false]) w := fun _ => by kernel_rfl
  have tb : ∀ w, (Instr.typeAssert (.iface 61 (.int .i64 n)) 59 61 true).run Tryd.prog w = .ok (.tuple #[(.int .i64 n), .bool true]) w := fun _ => by kernel_rfl
  have tc : ∀ w, (Instr.typeAssert (.iface 61 (.int .i64 n)) 59 63 true).run Tryd.prog w = .ok (.tuple #[(.agg #[]), .bool false]) w := fun _ => by kernel_rfl
  skip
  obtain ⟨V, hV⟩ : ∃ y, y = (((w.alloc (.cells #[.int .i8 3, .int .i64 n] 34)).alloc (.cells #[.int .i8 3, .int .i64 n2] 34)).alloc (.cells #[.int .i8 0, .int .i64 0] 34)) := ⟨_, rfl⟩
  have rA : Row V w.heap.size 34 [.int .i8 3, .int .i64 n] := by rw [hV]; exact ((Row.new w _ _).alloc _).alloc _
  have rB : Row V (w.heap.size + 1) 34 [.int .i8 3, .int .i64 n2] := by
    have h := (Row.new (w.alloc (.cells #[.int .i8 3, .int .i64 n] 34)) 34 [.int .i8 3, .int .i64 n2]).alloc (.cells #[.int .i8 0, .int .i64 0] 34)
    simp only [World.size_alloc] at h
    rw [hV]; exact h
  have rR : Row V (w.heap.size + 1 + 1) 34 [.int .i8 0, .int .i64 0] := by
    have h := Row.new ((w.alloc (.cells #[.int .i8 3, .int .i64 n] 34)).alloc (.cells #[.int .i8 3, .int .i64 n2] 34)) 34 [.int .i8 0, .int .i64 0]
    simp only [World.size_alloc] at h
    rw [hV]; exact h
  have bV : Below w.heap.size w V := by rw [hV]; exact (((Below.refl _ _).alloc (Nat.le_refl _) _).alloc (by simp) _).alloc (by simp; omega) _
  have HV := hid hV
  clear hV
  go_enter Tryd.func23, Tryd.ntmps23
  go_wp2_with fail
  rw [← HV.out]
  refine (HD.out _).mono ?_
  rintro e w1 ⟨rfl, hB1⟩
  replace rA := rA.below hB1 rA.lt; replace rB := rB.below hB1 rB.lt; replace rR := rR.below hB1 rR.lt
  have hb0 := bV.trans (hB1.mono bV.size)
  have x0 := rA.cell 0; have x1 := rA.cell 1; have y0 := rB.cell 0; have y1 := rB.cell 1; have z0 := rR.cell 0; have z1 := rR.cell 1
  simp only [List.getElem?_cons_zero, List.getElem?_cons_succ] at x0 x1 y0 y1 z0 z1
  have u0 := rR.frozen 0; have u1 := rR.frozen 1
  clear rA rB rR bV hB1
  go_wp2_with fail
  exact bodyPost_ret (v := .tuple #[.agg #[.int .i8 3, .int .i64 n2], .bool true]) (by simp [results, Tryd.results23, go_sem, z0, z1]) rfl ⟨rfl, by (repeat (first | assumption | refine Below.setCell ?_ (by first | omega | (simp; done) | (simp; omega)) _ | refine Below.alloc ?_ (by first | omega | (simp; done) | (simp; omega)) _))⟩
set_option maxRecDepth 100000 in
set_option maxHeartbeats 1000000 in
theorem joined_4 (n n2 : Int) (w : World) : Calls Tryd.prog 23 #[.agg #[.int .i8 4, .int .i64 n], .agg #[.int .i8 4, .int .i64 n2]] w (GivesB w (.tuple #[.agg #[.int .i8 4, .int .i64 n], .bool true])) := by
  have HD := hid (fun W => deed_4 n W)
  unfold deedV at HD
  rw [if_neg (by decide)] at HD; rw [if_neg (by decide)] at HD; rw [if_neg (by decide)] at HD;rw [if_pos rfl] at HD
  have ta : ∀ w, (Instr.typeAssert (.iface 63 (.agg #[])) 59 56 true).run Tryd.prog w = .ok (.tuple #[(.agg #[.int .i64 0, .int .i64 0]), .bool false]) w := fun _ => by kernel_rfl
  have tb : ∀ w, (Instr.typeAssert (.iface 63 (.agg #[])) 59 61 true).run Tryd.prog w = .ok (.tuple #[(.int .i64 0), .bool false]) w := fun _ => by kernel_rfl
  have tc : ∀ w, (Instr.typeAssert (.iface 63 (.agg #[])) 59 63 true).run Tryd.prog w = .ok (.tuple #[(.agg #[]), .bool true]) w := fun _ => by kernel_rfl
  skip
  obtain ⟨V, hV⟩ : ∃ y, y = (((w.alloc (.cells #[.int .i8 4, .int .i64 n] 34)).alloc (.cells #[.int .i8 4, .int .i64 n2] 34)).alloc (.cells #[.int .i8 0, .int .i64 0] 34)) := ⟨_, rfl⟩
  have rA : Row V w.heap.size 34 [.int .i8 4, .int .i64 n] := by rw [hV]; exact ((Row.new w _ _).alloc _).alloc _
  have rB : Row V (w.heap.size + 1) 34 [.int .i8 4, .int .i64 n2] := by
    have h := (Row.new (w.alloc (.cells #[.int .i8 4, .int .i64 n] 34)) 34 [.int .i8 4, .int .i64 n2]).alloc (.cells #[.int .i8 0, .int .i64 0] 34)
    simp only [World.size_alloc] at h
    rw [hV]; exact h
  have rR : Row V (w.heap.size + 1 + 1) 34 [.int .i8 0, .int .i64 0] := by
    have h := Row.new ((w.alloc (.cells #[.int .i8 4, .int .i64 n] 34)).alloc (.cells #[.int .i8 4, .int .i64 n2] 34)) 34 [.int .i8 0, .int .i64 0]
    simp only [World.size_alloc] at h
    rw [hV]; exact h
  have bV : Below w.heap.size w V := by rw [hV]; exact (((Below.refl _ _).alloc (Nat.le_refl _) _).alloc (by simp) _).alloc (by simp; omega) _
  have HV := hid hV
  clear hV
  go_enter Tryd.func23, Tryd.ntmps23
  go_wp2_with fail
  rw [← HV.out]
  refine (HD.out _).mono ?_
  rintro e w1 ⟨rfl, hB1⟩
  replace rA := rA.below hB1 rA.lt; replace rB := rB.below hB1 rB.lt; replace rR := rR.below hB1 rR.lt
  have hb0 := bV.trans (hB1.mono bV.size)
  have x0 := rA.cell 0; have x1 := rA.cell 1; have y0 := rB.cell 0; have y1 := rB.cell 1; have z0 := rR.cell 0; have z1 := rR.cell 1
  simp only [List.getElem?_cons_zero, List.getElem?_cons_succ] at x0 x1 y0 y1 z0 z1
  have u0 := rR.frozen 0; have u1 := rR.frozen 1
  clear rA rB rR bV hB1
  go_wp2_with fail
  exact bodyPost_ret (v := .tuple #[.agg #[.int .i8 4, .int .i64 n], .bool true]) (by simp [results, Tryd.results23, go_sem, z0, z1]) rfl ⟨rfl, by (repeat (first | assumption | refine Below.setCell ?_ (by first | omega | (simp; done) | (simp; omega)) _ | refine Below.alloc ?_ (by first | omega | (simp; done) | (simp; omega)) _))⟩
set_option maxRecDepth 100000 in
set_option maxHeartbeats 1000000 in
theorem joined_5 (n n2 : Int) (w : World) : Calls Tryd.prog 23 #[.agg #[.int .i8 5, .int .i64 n], .agg #[.int .i8 5, .int .i64 n2]] w (GivesB w (.tuple #[.agg #[.int .i8 0, .int .i64 0], .bool false])) := by
  have HD := hid (fun W => deed_5 n W)
  unfold deedV at HD
  rw [if_neg (by decide)] at HD; rw [if_neg (by decide)] at HD; rw [if_neg (by decide)] at HD; rw [if_neg (by decide)] at HD;skip
  have ta : ∀ w, (Instr.typeAssert (.iface 76 (.agg #[])) 59 56 true).run Tryd.prog w = .ok (.tuple #[(.agg #[.int .i64 0, .int .i64 0]), .bool false]) w := fun _ => by kernel_rfl
  have tb : ∀ w, (Instr.typeAssert (.iface 76 (.agg #[])) 59 61 true).run Tryd.prog w = .ok (.tuple #[(.int .i64 0), .bool false]) w := fun _ => by kernel_rfl
  have tc : ∀ w, (Instr.typeAssert (.iface 76 (.agg #[])) 59 63 true).run Tryd.prog w = .ok (.tuple #[(.agg #[]), .bool false]) w := fun _ => by kernel_rfl
  skip
  obtain ⟨V, hV⟩ : ∃ y, y = (((w.alloc (.cells #[.int .i8 5, .int .i64 n] 34)).alloc (.cells #[.int .i8 5, .int .i64 n2] 34)).alloc (.cells #[.int .i8 0, .int .i64 0] 34)) := ⟨_, rfl⟩
  have rA : Row V w.heap.size 34 [.int .i8 5, .int .i64 n] := by rw [hV]; exact ((Row.new w _ _).alloc _).alloc _
  have rB : Row V (w.heap.size + 1) 34 [.int .i8 5, .int .i64 n2] := by
    have h := (Row.new (w.alloc (.cells #[.int .i8 5, .int .i64 n] 34)) 34 [.int .i8 5, .int .i64 n2]).alloc (.cells #[.int .i8 0, .int .i64 0] 34)
    simp only [World.size_alloc] at h
    rw [hV]; exact h
  have rR : Row V (w.heap.size + 1 + 1) 34 [.int .i8 0, .int .i64 0] := by
    have h := Row.new ((w.alloc (.cells #[.int .i8 5, .int .i64 n] 34)).alloc (.cells #[.int .i8 5, .int .i64 n2] 34)) 34 [.int .i8 0, .int .i64 0]
    simp only [World.size_alloc] at h
    rw [hV]; exact h
  have bV : Below w.heap.size w V := by rw [hV]; exact (((Below.refl _ _).alloc (Nat.le_refl _) _).alloc (by simp) _).alloc (by simp; omega) _
  have HV := hid hV
  clear hV
  go_enter Tryd.func23, Tryd.ntmps23
  go_wp2_with fail
  rw [← HV.out]
  refine (HD.out _).mono ?_
  rintro e w1 ⟨rfl, hB1⟩
  replace rA := rA.below hB1 rA.lt; replace rB := rB.below hB1 rB.lt; replace rR := rR.below hB1 rR.lt
  have hb0 := bV.trans (hB1.mono bV.size)
  have x0 := rA.cell 0; have x1 := rA.cell 1; have y0 := rB.cell 0; have y1 := rB.cell 1; have z0 := rR.cell 0; have z1 := rR.cell 1
  simp only [List.getElem?_cons_zero, List.getElem?_cons_succ] at x0 x1 y0 y1 z0 z1
  have u0 := rR.frozen 0; have u1 := rR.frozen 1
  clear rA rB rR bV hB1
  go_wp2_with fail
  exact bodyPost_ret (v := .tuple #[.agg #[.int .i8 0, .int .i64 0], .bool false]) (by simp [results, Tryd.results23, go_sem, z0, z1]) rfl ⟨rfl, by (repeat (first | assumption | refine Below.setCell ?_ (by first | omega | (simp; done) | (simp; omega)) _ | refine Below.alloc ?_ (by first | omega | (simp; done) | (simp; omega)) _))⟩
end Go.Proofs.YtbbdaamhajecfaaDoor
