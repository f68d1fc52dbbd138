/- Devices that are valid: the program's and the model's answers. -/
import Derived.Test.YtangjgfjojfcaaaDev
import Derived.Test.YtangjgfjojfcaaaCount
import Derived.Test.YtangjgfjojfcaaaVals
import Derived.Deep.QuietTactic
import Derived.Test.YtangjgfjojfcaaaHeld
namespace Go.Proofs.Ytangjgfjojfcaaa
open Go.RowKit
/-- a device that is valid -/
def okDev (zs ds : List Int) (pr : Int) (st : Bool) (tk : Int) : Bool := okV zs ds && ((decide (-1 ≤ pr) && decide (pr ≤ szL zs - 1)) && ((decide (0 ≤ tk) && decide (tk ≤ 1000000)) && (!st || pr == valL zs ds zs.length)))
theorem okDev_digits {zs ds : List Int} {pr : Int} {st : Bool} {tk : Int} (h : okV zs ds = false) : okDev zs ds pr st tk = false := by rw [okDev, h]; rfl
theorem okDev_preset {zs ds : List Int} {pr : Int} {st : Bool} {tk : Int} (h : ¬ (-1 ≤ pr ∧ pr < szL zs)) : okDev zs ds pr st tk = false := by
  have e : (decide (-1 ≤ pr) && decide (pr ≤ szL zs - 1)) = false := by simpa using fun a => by omega
  rw [okDev, e, Bool.false_and, Bool.and_false]
theorem okDev_tickets {zs ds : List Int} {pr : Int} {st : Bool} {tk : Int} (h : ¬ (0 ≤ tk ∧ tk ≤ 1000000)) : okDev zs ds pr st tk = false := by
  have e : (decide (0 ≤ tk) && decide (tk ≤ 1000000)) = false := by simpa using fun a => by omega
  rw [okDev, e, Bool.false_and, Bool.and_false, Bool.and_false]
theorem okDev_rest {zs ds : List Int} {pr : Int} {st : Bool} {tk : Int} (h0 : okV zs ds = true) (h1 : -1 ≤ pr ∧ pr < szL zs) (h2 : 0 ≤ tk ∧ tk ≤ 1000000) : okDev zs ds pr st tk = (!st || pr == valL zs ds zs.length) := by
  have e1 : (decide (-1 ≤ pr) && decide (pr ≤ szL zs - 1)) = true := by simp; omega
  have e2 : (decide (0 ≤ tk) && decide (tk ≤ 1000000)) = true := by simp; omega
  rw [okDev, h0, e1, e2, Bool.true_and, Bool.true_and, Bool.true_and]
theorem okDev_out {zs ds : List Int} {pr : Int} {st : Bool} {tk : Int} (h : okDev zs ds pr st tk = true) : okV zs ds = true ∧ (-1 ≤ pr ∧ pr < szL zs) ∧ (0 ≤ tk ∧ tk ≤ 1000000) ∧ (st = true → pr = valL zs ds zs.length) := by
  simp only [okDev, Bool.and_eq_true, decide_eq_true_eq, Bool.or_eq_true, Bool.not_eq_true', beq_iff_eq] at h
  obtain ⟨h0, ⟨h1, h2⟩, ⟨h3, h4⟩, h5⟩ := h
  refine ⟨h0, ⟨h1, by omega⟩, ⟨h3, h4⟩, fun e => ?_⟩
  rcases h5 with h5 | h5
  · rw [e] at h5; cases h5
  · exact h5
theorem heldDev {W : World} {g : Nat} {T : TypeId} {v0 v1 v2 v3 v4 v5 v6 v7 v8 v9 v10 v11 : Value} (h : Row W g T [v0, v1, v2, v3, v4, v5, v6, v7, v8, v9, v10, v11]) {w' : World} (hb : Below W.heap.size W w') :
    Below W.heap.size W w' ∧ w'.cell? ⟨g, 0, none⟩ = some v0 ∧ w'.cell? ⟨g, 1, none⟩ = some v1 ∧ w'.cell? ⟨g, 2, none⟩ = some v2 ∧ w'.cell? ⟨g, 3, none⟩ = some v3 ∧ w'.cell? ⟨g, 4, none⟩ = some v4 ∧ w'.cell? ⟨g, 5, none⟩ = some v5 ∧ w'.cell? ⟨g, 6, none⟩ = some v6 ∧ w'.cell? ⟨g, 7, none⟩ = some v7 ∧ w'.cell? ⟨g, 8, none⟩ = some v8 ∧ w'.cell? ⟨g, 9, none⟩ = some v9 ∧ w'.cell? ⟨g, 10, none⟩ = some v10 ∧ w'.cell? ⟨g, 11, none⟩ = some v11 := by
  have r := h.below hb h.lt
  exact ⟨hb, r.cell 0, r.cell 1, r.cell 2, r.cell 3, r.cell 4, r.cell 5, r.cell 6, r.cell 7, r.cell 8, r.cell 9, r.cell 10, r.cell 11⟩
theorem l01Size_dev (b n cap : Nat) (zs : List Int) (hn : n = zs.length) (hv : okL zs = true) (w : World) (h : Stk w b zs) :
    Calls Try.prog 64 #[.slice (some ⟨b, 0, none⟩) n cap] w fun e w' => e = .returned (.int .i64 (szL zs)) ∧ w = w' := by
  obtain ⟨_, _, hin, _, hs⟩ := okL_out hv
  have := l01Size_any b n cap zs w h (by omega) (by rw [hn]; exact hin)
  rwa [hn, List.take_length, show szC zs = szL zs from by unfold szC; omega, ← hn] at this
set_option maxRecDepth 100000 in
set_option maxHeartbeats 4000000 in
theorem l07Ok_any (g B n cap : Nat) (zs : List Int) (d0 d1 d2 d3 d4 d5 d6 d7 : Int) (pr : Int) (st : Bool) (tk : Int) (w : World) (hS : Stk w B zs) (hn : n = zs.length) (ho : Oct d0 d1 d2 d3 d4 d5 d6 d7) (hR : Row w g 31 [.slice (some ⟨B, 0, none⟩) n cap, .int .u8 d0, .int .u8 d1, .int .u8 d2, .int .u8 d3, .int .u8 d4, .int .u8 d5, .int .u8 d6, .int .u8 d7, .int .i64 pr, .bool st, .int .i64 tk]) :
    Calls Try.prog 42 #[.pointer (some ⟨g, 0, none⟩)] w (GivesB w (.bool (okDev zs [d0, d1, d2, d3, d4, d5, d6, d7] pr st tk))) := by
  have HS0 := hid (heldDev hR (Below.refl _ _).drew)
  have HSD := hid (fun (v : World) (hv : (fun w' : World => Below w.heap.size w w' ∧ w'.cell? ⟨g, 0, none⟩ = some (.slice (some ⟨B, 0, none⟩) n cap) ∧ w'.cell? ⟨g, 1, none⟩ = some (.int .u8 d0) ∧ w'.cell? ⟨g, 2, none⟩ = some (.int .u8 d1) ∧ w'.cell? ⟨g, 3, none⟩ = some (.int .u8 d2) ∧ w'.cell? ⟨g, 4, none⟩ = some (.int .u8 d3) ∧ w'.cell? ⟨g, 5, none⟩ = some (.int .u8 d4) ∧ w'.cell? ⟨g, 6, none⟩ = some (.int .u8 d5) ∧ w'.cell? ⟨g, 7, none⟩ = some (.int .u8 d6) ∧ w'.cell? ⟨g, 8, none⟩ = some (.int .u8 d7) ∧ w'.cell? ⟨g, 9, none⟩ = some (.int .i64 pr) ∧ w'.cell? ⟨g, 10, none⟩ = some (.bool st) ∧ w'.cell? ⟨g, 11, none⟩ = some (.int .i64 tk)) v) => heldDev hR (hv.1.drew))
  have HV := hid (fun (w' : World) (h : (fun w' : World => Below w.heap.size w w' ∧ w'.cell? ⟨g, 0, none⟩ = some (.slice (some ⟨B, 0, none⟩) n cap) ∧ w'.cell? ⟨g, 1, none⟩ = some (.int .u8 d0) ∧ w'.cell? ⟨g, 2, none⟩ = some (.int .u8 d1) ∧ w'.cell? ⟨g, 3, none⟩ = some (.int .u8 d2) ∧ w'.cell? ⟨g, 4, none⟩ = some (.int .u8 d3) ∧ w'.cell? ⟨g, 5, none⟩ = some (.int .u8 d4) ∧ w'.cell? ⟨g, 6, none⟩ = some (.int .u8 d5) ∧ w'.cell? ⟨g, 7, none⟩ = some (.int .u8 d6) ∧ w'.cell? ⟨g, 8, none⟩ = some (.int .u8 d7) ∧ w'.cell? ⟨g, 9, none⟩ = some (.int .i64 pr) ∧ w'.cell? ⟨g, 10, none⟩ = some (.bool st) ∧ w'.cell? ⟨g, 11, none⟩ = some (.int .i64 tk)) w') => (specValidDigits_any B n cap zs d0 d1 d2 d3 d4 d5 d6 d7 w' (hS.below h.1 hS.1) hn ho).mono fun e w'' ⟨he, hB⟩ => And.intro (show e = Ending.returned (.bool (okV zs [d0, d1, d2, d3, d4, d5, d6, d7])) from he) (heldDev hR (h.1.trans (hB.mono h.1.size))))
  have HZ := hid (fun hv (w' : World) (h : (fun w' : World => Below w.heap.size w w' ∧ w'.cell? ⟨g, 0, none⟩ = some (.slice (some ⟨B, 0, none⟩) n cap) ∧ w'.cell? ⟨g, 1, none⟩ = some (.int .u8 d0) ∧ w'.cell? ⟨g, 2, none⟩ = some (.int .u8 d1) ∧ w'.cell? ⟨g, 3, none⟩ = some (.int .u8 d2) ∧ w'.cell? ⟨g, 4, none⟩ = some (.int .u8 d3) ∧ w'.cell? ⟨g, 5, none⟩ = some (.int .u8 d4) ∧ w'.cell? ⟨g, 6, none⟩ = some (.int .u8 d5) ∧ w'.cell? ⟨g, 7, none⟩ = some (.int .u8 d6) ∧ w'.cell? ⟨g, 8, none⟩ = some (.int .u8 d7) ∧ w'.cell? ⟨g, 9, none⟩ = some (.int .i64 pr) ∧ w'.cell? ⟨g, 10, none⟩ = some (.bool st) ∧ w'.cell? ⟨g, 11, none⟩ = some (.int .i64 tk)) w') => (l01Size_dev B n cap zs hn hv w' (hS.below h.1 hS.1)).mono fun e w'' ⟨he, hB⟩ => And.intro (show e = Ending.returned (.int .i64 (szL zs)) from he) (hB ▸ h))
  have H1 := hid (fun (w' : World) (h : (fun w' : World => Below w.heap.size w w' ∧ w'.cell? ⟨g, 0, none⟩ = some (.slice (some ⟨B, 0, none⟩) n cap) ∧ w'.cell? ⟨g, 1, none⟩ = some (.int .u8 d0) ∧ w'.cell? ⟨g, 2, none⟩ = some (.int .u8 d1) ∧ w'.cell? ⟨g, 3, none⟩ = some (.int .u8 d2) ∧ w'.cell? ⟨g, 4, none⟩ = some (.int .u8 d3) ∧ w'.cell? ⟨g, 5, none⟩ = some (.int .u8 d4) ∧ w'.cell? ⟨g, 6, none⟩ = some (.int .u8 d5) ∧ w'.cell? ⟨g, 7, none⟩ = some (.int .u8 d6) ∧ w'.cell? ⟨g, 8, none⟩ = some (.int .u8 d7) ∧ w'.cell? ⟨g, 9, none⟩ = some (.int .i64 pr) ∧ w'.cell? ⟨g, 10, none⟩ = some (.bool st) ∧ w'.cell? ⟨g, 11, none⟩ = some (.int .i64 tk)) w') => (inr_any pr (-1) (szL zs - 1) w').mono fun e w'' ⟨he, hB⟩ => And.intro (show e = Ending.returned (.bool (decide (-1 ≤ pr) && decide (pr ≤ szL zs - 1))) from he) (hB ▸ h))
  have H2 := hid (fun (w' : World) (h : (fun w' : World => Below w.heap.size w w' ∧ w'.cell? ⟨g, 0, none⟩ = some (.slice (some ⟨B, 0, none⟩) n cap) ∧ w'.cell? ⟨g, 1, none⟩ = some (.int .u8 d0) ∧ w'.cell? ⟨g, 2, none⟩ = some (.int .u8 d1) ∧ w'.cell? ⟨g, 3, none⟩ = some (.int .u8 d2) ∧ w'.cell? ⟨g, 4, none⟩ = some (.int .u8 d3) ∧ w'.cell? ⟨g, 5, none⟩ = some (.int .u8 d4) ∧ w'.cell? ⟨g, 6, none⟩ = some (.int .u8 d5) ∧ w'.cell? ⟨g, 7, none⟩ = some (.int .u8 d6) ∧ w'.cell? ⟨g, 8, none⟩ = some (.int .u8 d7) ∧ w'.cell? ⟨g, 9, none⟩ = some (.int .i64 pr) ∧ w'.cell? ⟨g, 10, none⟩ = some (.bool st) ∧ w'.cell? ⟨g, 11, none⟩ = some (.int .i64 tk)) w') => (inr_any tk 0 1000000 w').mono fun e w'' ⟨he, hB⟩ => And.intro (show e = Ending.returned (.bool (decide (0 ≤ tk) && decide (tk ≤ 1000000))) from he) (hB ▸ h))
  have HL := hid (fun hv (w' : World) (h : (fun w' : World => Below w.heap.size w w' ∧ w'.cell? ⟨g, 0, none⟩ = some (.slice (some ⟨B, 0, none⟩) n cap) ∧ w'.cell? ⟨g, 1, none⟩ = some (.int .u8 d0) ∧ w'.cell? ⟨g, 2, none⟩ = some (.int .u8 d1) ∧ w'.cell? ⟨g, 3, none⟩ = some (.int .u8 d2) ∧ w'.cell? ⟨g, 4, none⟩ = some (.int .u8 d3) ∧ w'.cell? ⟨g, 5, none⟩ = some (.int .u8 d4) ∧ w'.cell? ⟨g, 6, none⟩ = some (.int .u8 d5) ∧ w'.cell? ⟨g, 7, none⟩ = some (.int .u8 d6) ∧ w'.cell? ⟨g, 8, none⟩ = some (.int .u8 d7) ∧ w'.cell? ⟨g, 9, none⟩ = some (.int .i64 pr) ∧ w'.cell? ⟨g, 10, none⟩ = some (.bool st) ∧ w'.cell? ⟨g, 11, none⟩ = some (.int .i64 tk)) w') => (l01Value_ok B n cap zs d0 d1 d2 d3 d4 d5 d6 d7 ho hv (by omega) w' (hS.below h.1 hS.1)).mono fun e w'' ⟨he, hB⟩ => And.intro (show e = Ending.returned (.int .i64 (valL zs [d0, d1, d2, d3, d4, d5, d6, d7] n)) from he) (heldDev hR (h.1.trans (hB.mono h.1.size))))
  have HN := hid hn
  clear hR hS hn ho
  cases hv : okV zs [d0, d1, d2, d3, d4, d5, d6, d7] with
  | false =>
    rw [okDev_digits hv]
    rw [hv] at HV
    clear hv HZ H1 H2 HL
    go_enter Try.func42, Try.ntmps42
    go_wp2_with fail
    
    refine wp_region_held (S := (fun w' : World => Below w.heap.size w w' ∧ w'.cell? ⟨g, 0, none⟩ = some (.slice (some ⟨B, 0, none⟩) n cap) ∧ w'.cell? ⟨g, 1, none⟩ = some (.int .u8 d0) ∧ w'.cell? ⟨g, 2, none⟩ = some (.int .u8 d1) ∧ w'.cell? ⟨g, 3, none⟩ = some (.int .u8 d2) ∧ w'.cell? ⟨g, 4, none⟩ = some (.int .u8 d3) ∧ w'.cell? ⟨g, 5, none⟩ = some (.int .u8 d4) ∧ w'.cell? ⟨g, 6, none⟩ = some (.int .u8 d5) ∧ w'.cell? ⟨g, 7, none⟩ = some (.int .u8 d6) ∧ w'.cell? ⟨g, 8, none⟩ = some (.int .u8 d7) ∧ w'.cell? ⟨g, 9, none⟩ = some (.int .i64 pr) ∧ w'.cell? ⟨g, 10, none⟩ = some (.bool st) ∧ w'.cell? ⟨g, 11, none⟩ = some (.int .i64 tk))) (by kernel_rfl) ?_
    change wpAnyH _ _ _ _ _ _ _ _ (World.drew _)
    have s0 : ((fun w' : World => Below w.heap.size w w' ∧ w'.cell? ⟨g, 0, none⟩ = some (.slice (some ⟨B, 0, none⟩) n cap) ∧ w'.cell? ⟨g, 1, none⟩ = some (.int .u8 d0) ∧ w'.cell? ⟨g, 2, none⟩ = some (.int .u8 d1) ∧ w'.cell? ⟨g, 3, none⟩ = some (.int .u8 d2) ∧ w'.cell? ⟨g, 4, none⟩ = some (.int .u8 d3) ∧ w'.cell? ⟨g, 5, none⟩ = some (.int .u8 d4) ∧ w'.cell? ⟨g, 6, none⟩ = some (.int .u8 d5) ∧ w'.cell? ⟨g, 7, none⟩ = some (.int .u8 d6) ∧ w'.cell? ⟨g, 8, none⟩ = some (.int .u8 d7) ∧ w'.cell? ⟨g, 9, none⟩ = some (.int .i64 pr) ∧ w'.cell? ⟨g, 10, none⟩ = some (.bool st) ∧ w'.cell? ⟨g, 11, none⟩ = some (.int .i64 tk))) _ := HS0.out
    refine wpAnyH_takeD (some 3) (i := 0) (v := ?_) rfl rfl (by kernel_rfl) (by kernel_rfl) (by kernel_rfl) (fun _ _ _ h => h) (.inl ⟨by kernel_rfl, ?_⟩) s0 ?_
    rotate_left
    · intro w' hw'; obtain ⟨hw1, hw2, hw3, hw4, hw5, hw6, hw7, hw8, hw9, hw10, hw11, hw12, hw13⟩ := hw'; go_simp; try with_reducible rfl
    try simp only [Act.put, List.setIfInBounds_toArray, List.set_cons_zero, List.set_cons_succ]
    refine wpAnyH_takeD (some 4) (i := 1) (v := ?_) rfl rfl (by kernel_rfl) (by kernel_rfl) (by kernel_rfl) (fun _ _ _ h => h) (.inl ⟨by kernel_rfl, ?_⟩) s0 ?_
    rotate_left
    · intro w' hw'; obtain ⟨hw1, hw2, hw3, hw4, hw5, hw6, hw7, hw8, hw9, hw10, hw11, hw12, hw13⟩ := hw'; go_simp; try with_reducible rfl
    try simp only [Act.put, List.setIfInBounds_toArray, List.set_cons_zero, List.set_cons_succ]
    refine wpAnyH_takeD (some 5) (i := 2) (v := ?_) rfl rfl (by kernel_rfl) (by kernel_rfl) (by kernel_rfl) (fun _ _ _ h => h) (.inl ⟨by kernel_rfl, ?_⟩) s0 ?_
    rotate_left
    · intro w' hw'; obtain ⟨hw1, hw2, hw3, hw4, hw5, hw6, hw7, hw8, hw9, hw10, hw11, hw12, hw13⟩ := hw'; go_simp; try with_reducible rfl
    try simp only [Act.put, List.setIfInBounds_toArray, List.set_cons_zero, List.set_cons_succ]
    refine wpAnyH_takeD (some 6) (i := 3) (v := ?_) rfl rfl (by kernel_rfl) (by kernel_rfl) (by kernel_rfl) (fun _ _ _ h => h) (.inl ⟨by kernel_rfl, ?_⟩) s0 ?_
    rotate_left
    · intro w' hw'; obtain ⟨hw1, hw2, hw3, hw4, hw5, hw6, hw7, hw8, hw9, hw10, hw11, hw12, hw13⟩ := hw'; go_simp; try with_reducible rfl
    try simp only [Act.put, List.setIfInBounds_toArray, List.set_cons_zero, List.set_cons_succ]
    refine wpAnyH_takeD (some 7) (i := 4) (v := ?_) rfl rfl (by kernel_rfl) (by kernel_rfl) (by kernel_rfl) (fun _ _ _ h => h) (.inl ⟨by kernel_rfl, ?_⟩) s0 ?_
    rotate_left
    · intro w' hw'; obtain ⟨hw1, hw2, hw3, hw4, hw5, hw6, hw7, hw8, hw9, hw10, hw11, hw12, hw13⟩ := hw'; go_simp; try with_reducible rfl
    try simp only [Act.put, List.setIfInBounds_toArray, List.set_cons_zero, List.set_cons_succ]
    refine wpAnyH_takeD (some 8) (i := 5) (v := ?_) rfl rfl (by kernel_rfl) (by kernel_rfl) (by kernel_rfl) (fun _ _ _ h => h) (.inl ⟨by kernel_rfl, ?_⟩) s0 ?_
    rotate_left
    · intro w' hw'; obtain ⟨hw1, hw2, hw3, hw4, hw5, hw6, hw7, hw8, hw9, hw10, hw11, hw12, hw13⟩ := hw'; go_simp; try with_reducible rfl
    try simp only [Act.put, List.setIfInBounds_toArray, List.set_cons_zero, List.set_cons_succ]
    refine wpAnyH_takeD (some 9) (i := 6) (v := ?_) rfl rfl (by kernel_rfl) (by kernel_rfl) (by kernel_rfl) (fun _ _ _ h => h) (.inl ⟨by kernel_rfl, ?_⟩) s0 ?_
    rotate_left
    · intro w' hw'; obtain ⟨hw1, hw2, hw3, hw4, hw5, hw6, hw7, hw8, hw9, hw10, hw11, hw12, hw13⟩ := hw'; go_simp; try with_reducible rfl
    try simp only [Act.put, List.setIfInBounds_toArray, List.set_cons_zero, List.set_cons_succ]
    refine wpAnyH_takeD (some 10) (i := 7) (v := ?_) rfl rfl (by kernel_rfl) (by kernel_rfl) (by kernel_rfl) (fun _ _ _ h => h) (.inl ⟨by kernel_rfl, ?_⟩) s0 ?_
    rotate_left
    · intro w' hw'; obtain ⟨hw1, hw2, hw3, hw4, hw5, hw6, hw7, hw8, hw9, hw10, hw11, hw12, hw13⟩ := hw'; go_simp; try with_reducible rfl
    try simp only [Act.put, List.setIfInBounds_toArray, List.set_cons_zero, List.set_cons_succ]
    refine wpAnyH_all (rs := [8]) (by kernel_rfl) (by simp) ?_
    intro i hi; simp only [List.mem_singleton] at hi; subst hi
    refine wpOp_step rfl (fun K hK => ?_)
    go_simp
    with_reducible refine (HV.out _ s0).mono ?_
    rintro e vs1 ⟨rfl, hvs1⟩
    have s1 := hvs1
    refine hK _ _ ⟨s1, ?_⟩
    try simp only [Act.put, List.setIfInBounds_toArray, List.set_cons_zero, List.set_cons_succ]
    refine wpAnyH_takeD (some 12) (i := 9) (v := ?_) rfl rfl (by kernel_rfl) (by kernel_rfl) (by kernel_rfl) (fun _ _ _ h => h) (.inl ⟨by kernel_rfl, ?_⟩) s1 ?_
    rotate_left
    · intro w' hw'; obtain ⟨hw1, hw2, hw3, hw4, hw5, hw6, hw7, hw8, hw9, hw10, hw11, hw12, hw13⟩ := hw'; go_simp; try with_reducible rfl
    try simp only [Act.put, List.setIfInBounds_toArray, List.set_cons_zero, List.set_cons_succ]
    refine wpAnyH_takeD (some 13) (i := 10) (v := ?_) rfl rfl (by kernel_rfl) (by kernel_rfl) (by kernel_rfl) (fun _ _ _ h => h) (.inl ⟨by kernel_rfl, ?_⟩) s1 ?_
    rotate_left
    · intro w' hw'; obtain ⟨hw1, hw2, hw3, hw4, hw5, hw6, hw7, hw8, hw9, hw10, hw11, hw12, hw13⟩ := hw'; go_simp; try with_reducible rfl
    try simp only [Act.put, List.setIfInBounds_toArray, List.set_cons_zero, List.set_cons_succ]
    refine wpAnyH_takeD (some 14) (i := 11) (v := undef) rfl rfl (by kernel_rfl) (by kernel_rfl) (by kernel_rfl) (fun _ _ _ h => h) (.inr ⟨by kernel_rfl, rfl⟩) s1 ?_
    try simp only [Act.put, List.setIfInBounds_toArray, List.set_cons_zero, List.set_cons_succ]
    refine wpAnyH_takeD (some 15) (i := 12) (v := undef) rfl rfl (by kernel_rfl) (by kernel_rfl) (by kernel_rfl) (fun _ _ _ h => h) (.inr ⟨by kernel_rfl, rfl⟩) s1 ?_
    try simp only [Act.put, List.setIfInBounds_toArray, List.set_cons_zero, List.set_cons_succ]
    refine wpAnyH_takeD (some 16) (i := 13) (v := undef) rfl rfl (by kernel_rfl) (by kernel_rfl) (by kernel_rfl) (fun _ _ _ h => h) (.inr ⟨by kernel_rfl, rfl⟩) s1 ?_
    try simp only [Act.put, List.setIfInBounds_toArray, List.set_cons_zero, List.set_cons_succ]
    refine wpAnyH_takeD (some 17) (i := 14) (v := undef) rfl rfl (by kernel_rfl) (by kernel_rfl) (by kernel_rfl) (fun _ _ _ h => h) (.inr ⟨by kernel_rfl, rfl⟩) s1 ?_
    try simp only [Act.put, List.setIfInBounds_toArray, List.set_cons_zero, List.set_cons_succ]
    refine wpAnyH_takeD (some 18) (i := 15) (v := undef) rfl rfl (by kernel_rfl) (by kernel_rfl) (by kernel_rfl) (fun _ _ _ h => h) (.inr ⟨by kernel_rfl, rfl⟩) s1 ?_
    try simp only [Act.put, List.setIfInBounds_toArray, List.set_cons_zero, List.set_cons_succ]
    refine wpAnyH_takeD (some 19) (i := 16) (v := undef) rfl rfl (by kernel_rfl) (by kernel_rfl) (by kernel_rfl) (fun _ _ _ h => h) (.inr ⟨by kernel_rfl, rfl⟩) s1 ?_
    try simp only [Act.put, List.setIfInBounds_toArray, List.set_cons_zero, List.set_cons_succ]
    refine wpAnyH_takeD (some 20) (i := 17) (v := undef) rfl rfl (by kernel_rfl) (by kernel_rfl) (by kernel_rfl) (fun _ _ _ h => h) (.inr ⟨by kernel_rfl, rfl⟩) s1 ?_
    try simp only [Act.put, List.setIfInBounds_toArray, List.set_cons_zero, List.set_cons_succ]
    refine wpAnyH_takeD (some 21) (i := 18) (v := undef) rfl rfl (by kernel_rfl) (by kernel_rfl) (by kernel_rfl) (fun _ _ _ h => h) (.inr ⟨by kernel_rfl, rfl⟩) s1 ?_
    try simp only [Act.put, List.setIfInBounds_toArray, List.set_cons_zero, List.set_cons_succ]
    refine wpAnyH_takeD (some 22) (i := 19) (v := undef) rfl rfl (by kernel_rfl) (by kernel_rfl) (by kernel_rfl) (fun _ _ _ h => h) (.inr ⟨by kernel_rfl, rfl⟩) s1 ?_
    try simp only [Act.put, List.setIfInBounds_toArray, List.set_cons_zero, List.set_cons_succ]
    refine wpAnyH_takeD (some 23) (i := 20) (v := undef) rfl rfl (by kernel_rfl) (by kernel_rfl) (by kernel_rfl) (fun _ _ _ h => h) (.inr ⟨by kernel_rfl, rfl⟩) s1 ?_
    try simp only [Act.put, List.setIfInBounds_toArray, List.set_cons_zero, List.set_cons_succ]
    refine wpAnyH_takeD (some 24) (i := 21) (v := undef) rfl rfl (by kernel_rfl) (by kernel_rfl) (by kernel_rfl) (fun _ _ _ h => h) (.inr ⟨by kernel_rfl, rfl⟩) s1 ?_
    try simp only [Act.put, List.setIfInBounds_toArray, List.set_cons_zero, List.set_cons_succ]
    refine wpAnyH_takeD (some 25) (i := 22) (v := undef) rfl rfl (by kernel_rfl) (by kernel_rfl) (by kernel_rfl) (fun _ _ _ h => h) (.inr ⟨by kernel_rfl, rfl⟩) s1 ?_
    try simp only [Act.put, List.setIfInBounds_toArray, List.set_cons_zero, List.set_cons_succ]
    refine wpAnyH_takeD (some 26) (i := 23) (v := ?_) rfl rfl (by kernel_rfl) (by kernel_rfl) (by kernel_rfl) (fun _ _ _ h => h) (.inl ⟨by kernel_rfl, ?_⟩) s1 ?_
    rotate_left
    · intro w' hw'; obtain ⟨hw1, hw2, hw3, hw4, hw5, hw6, hw7, hw8, hw9, hw10, hw11, hw12, hw13⟩ := hw'; go_simp; try with_reducible rfl
    try simp only [Act.put, List.setIfInBounds_toArray, List.set_cons_zero, List.set_cons_succ]
    refine wpAnyH_takeD (some 27) (i := 24) (v := ?_) rfl rfl (by kernel_rfl) (by kernel_rfl) (by kernel_rfl) (fun _ _ _ h => h) (.inl ⟨by kernel_rfl, ?_⟩) s1 ?_
    rotate_left
    · intro w' hw'; obtain ⟨hw1, hw2, hw3, hw4, hw5, hw6, hw7, hw8, hw9, hw10, hw11, hw12, hw13⟩ := hw'; go_simp; try with_reducible rfl
    try simp only [Act.put, List.setIfInBounds_toArray, List.set_cons_zero, List.set_cons_succ]
    refine wpAnyH_takeD (some 28) (i := 25) (v := undef) rfl rfl (by kernel_rfl) (by kernel_rfl) (by kernel_rfl) (fun _ _ _ h => h) (.inr ⟨by kernel_rfl, rfl⟩) s1 ?_
    try simp only [Act.put, List.setIfInBounds_toArray, List.set_cons_zero, List.set_cons_succ]
    refine wpAnyH_takeD (some 29) (i := 26) (v := undef) rfl rfl (by kernel_rfl) (by kernel_rfl) (by kernel_rfl) (fun _ _ _ h => h) (.inr ⟨by kernel_rfl, rfl⟩) s1 ?_
    try simp only [Act.put, List.setIfInBounds_toArray, List.set_cons_zero, List.set_cons_succ]
    refine wpAnyH_takeD (some 30) (i := 27) (v := undef) rfl rfl (by kernel_rfl) (by kernel_rfl) (by kernel_rfl) (fun _ _ _ h => h) (.inr ⟨by kernel_rfl, rfl⟩) s1 ?_
    try simp only [Act.put, List.setIfInBounds_toArray, List.set_cons_zero, List.set_cons_succ]
    refine wpAnyH_takeD (some 31) (i := 28) (v := undef) rfl rfl (by kernel_rfl) (by kernel_rfl) (by kernel_rfl) (fun _ _ _ h => h) (.inr ⟨by kernel_rfl, rfl⟩) s1 ?_
    try simp only [Act.put, List.setIfInBounds_toArray, List.set_cons_zero, List.set_cons_succ]
    refine wpAnyH_takeD (some 32) (i := 29) (v := undef) rfl rfl (by kernel_rfl) (by kernel_rfl) (by kernel_rfl) (fun _ _ _ h => h) (.inr ⟨by kernel_rfl, rfl⟩) s1 ?_
    try simp only [Act.put, List.setIfInBounds_toArray, List.set_cons_zero, List.set_cons_succ]
    refine wpAnyH_takeD (some 33) (i := 30) (v := undef) rfl rfl (by kernel_rfl) (by kernel_rfl) (by kernel_rfl) (fun _ _ _ h => h) (.inr ⟨by kernel_rfl, rfl⟩) s1 ?_
    try simp only [Act.put, List.setIfInBounds_toArray, List.set_cons_zero, List.set_cons_succ]
    refine wpAnyH_takeD (some 34) (i := 31) (v := ?_) rfl rfl (by kernel_rfl) (by kernel_rfl) (by kernel_rfl) (fun _ _ _ h => h) (.inl ⟨by kernel_rfl, ?_⟩) s1 ?_
    rotate_left
    · intro w' hw'; obtain ⟨hw1, hw2, hw3, hw4, hw5, hw6, hw7, hw8, hw9, hw10, hw11, hw12, hw13⟩ := hw'; go_simp; try with_reducible rfl
    try simp only [Act.put, List.setIfInBounds_toArray, List.set_cons_zero, List.set_cons_succ]
    refine wpAnyH_done (by kernel_rfl) ?_ _
    go_wp2_with fail
    go_ret
    exact ⟨rfl, hvs1.1⟩
  | true =>
    rw [hv] at HV
    have hzz := (okV_out hv).1
    have HZ := hid (HZ.out hzz)
    have HL := hid (HL.out hv)
    obtain ⟨_, _, _, z1, z2⟩ := okL_out hzz
    by_cases cc1 : -1 ≤ pr ∧ pr < szL zs
    · have e1 : (decide (-1 ≤ pr) && decide (pr ≤ szL zs - 1)) = true := by simp; omega
      rw [e1] at H1
      by_cases c2 : 0 ≤ tk ∧ tk ≤ 1000000
      · have e2 : (decide (0 ≤ tk) && decide (tk ≤ 1000000)) = true := by simp; omega
        rw [e2] at H2
        rw [okDev_rest hv cc1 c2]
        obtain ⟨z, hz⟩ : ∃ z, szL zs = z := ⟨_, rfl⟩
        rw [hz] at H1 HZ z1 z2
        rw [HN.out] at HL
        obtain ⟨l, hl⟩ : ∃ l, valL zs [d0, d1, d2, d3, d4, d5, d6, d7] zs.length = l := ⟨_, rfl⟩
        rw [hl] at HL ⊢
        rw [← HN.out] at HL
        have tz : IntKind.i64.wrap (z - 1) = z - 1 := IntWalk.i64_in _ (by omega)
        clear hv hzz cc1 c2 e1 e2 hz hl
        cases st
        · go_enter Try.func42, Try.ntmps42
          go_wp2_with fail
          
          refine wp_region_held (S := (fun w' : World => Below w.heap.size w w' ∧ w'.cell? ⟨g, 0, none⟩ = some (.slice (some ⟨B, 0, none⟩) n cap) ∧ w'.cell? ⟨g, 1, none⟩ = some (.int .u8 d0) ∧ w'.cell? ⟨g, 2, none⟩ = some (.int .u8 d1) ∧ w'.cell? ⟨g, 3, none⟩ = some (.int .u8 d2) ∧ w'.cell? ⟨g, 4, none⟩ = some (.int .u8 d3) ∧ w'.cell? ⟨g, 5, none⟩ = some (.int .u8 d4) ∧ w'.cell? ⟨g, 6, none⟩ = some (.int .u8 d5) ∧ w'.cell? ⟨g, 7, none⟩ = some (.int .u8 d6) ∧ w'.cell? ⟨g, 8, none⟩ = some (.int .u8 d7) ∧ w'.cell? ⟨g, 9, none⟩ = some (.int .i64 pr) ∧ w'.cell? ⟨g, 10, none⟩ = some (.bool false) ∧ w'.cell? ⟨g, 11, none⟩ = some (.int .i64 tk))) (by kernel_rfl) ?_
          change wpAnyH _ _ _ _ _ _ _ _ (World.drew _)
          have s0 : ((fun w' : World => Below w.heap.size w w' ∧ w'.cell? ⟨g, 0, none⟩ = some (.slice (some ⟨B, 0, none⟩) n cap) ∧ w'.cell? ⟨g, 1, none⟩ = some (.int .u8 d0) ∧ w'.cell? ⟨g, 2, none⟩ = some (.int .u8 d1) ∧ w'.cell? ⟨g, 3, none⟩ = some (.int .u8 d2) ∧ w'.cell? ⟨g, 4, none⟩ = some (.int .u8 d3) ∧ w'.cell? ⟨g, 5, none⟩ = some (.int .u8 d4) ∧ w'.cell? ⟨g, 6, none⟩ = some (.int .u8 d5) ∧ w'.cell? ⟨g, 7, none⟩ = some (.int .u8 d6) ∧ w'.cell? ⟨g, 8, none⟩ = some (.int .u8 d7) ∧ w'.cell? ⟨g, 9, none⟩ = some (.int .i64 pr) ∧ w'.cell? ⟨g, 10, none⟩ = some (.bool false) ∧ w'.cell? ⟨g, 11, none⟩ = some (.int .i64 tk))) _ := HS0.out
          refine wpAnyH_takeD (some 3) (i := 0) (v := ?_) rfl rfl (by kernel_rfl) (by kernel_rfl) (by kernel_rfl) (fun _ _ _ h => h) (.inl ⟨by kernel_rfl, ?_⟩) s0 ?_
          rotate_left
          · intro w' hw'; obtain ⟨hw1, hw2, hw3, hw4, hw5, hw6, hw7, hw8, hw9, hw10, hw11, hw12, hw13⟩ := hw'; go_simp; try with_reducible rfl
          try simp only [Act.put, List.setIfInBounds_toArray, List.set_cons_zero, List.set_cons_succ]
          refine wpAnyH_takeD (some 4) (i := 1) (v := ?_) rfl rfl (by kernel_rfl) (by kernel_rfl) (by kernel_rfl) (fun _ _ _ h => h) (.inl ⟨by kernel_rfl, ?_⟩) s0 ?_
          rotate_left
          · intro w' hw'; obtain ⟨hw1, hw2, hw3, hw4, hw5, hw6, hw7, hw8, hw9, hw10, hw11, hw12, hw13⟩ := hw'; go_simp; try with_reducible rfl
          try simp only [Act.put, List.setIfInBounds_toArray, List.set_cons_zero, List.set_cons_succ]
          refine wpAnyH_takeD (some 5) (i := 2) (v := ?_) rfl rfl (by kernel_rfl) (by kernel_rfl) (by kernel_rfl) (fun _ _ _ h => h) (.inl ⟨by kernel_rfl, ?_⟩) s0 ?_
          rotate_left
          · intro w' hw'; obtain ⟨hw1, hw2, hw3, hw4, hw5, hw6, hw7, hw8, hw9, hw10, hw11, hw12, hw13⟩ := hw'; go_simp; try with_reducible rfl
          try simp only [Act.put, List.setIfInBounds_toArray, List.set_cons_zero, List.set_cons_succ]
          refine wpAnyH_takeD (some 6) (i := 3) (v := ?_) rfl rfl (by kernel_rfl) (by kernel_rfl) (by kernel_rfl) (fun _ _ _ h => h) (.inl ⟨by kernel_rfl, ?_⟩) s0 ?_
          rotate_left
          · intro w' hw'; obtain ⟨hw1, hw2, hw3, hw4, hw5, hw6, hw7, hw8, hw9, hw10, hw11, hw12, hw13⟩ := hw'; go_simp; try with_reducible rfl
          try simp only [Act.put, List.setIfInBounds_toArray, List.set_cons_zero, List.set_cons_succ]
          refine wpAnyH_takeD (some 7) (i := 4) (v := ?_) rfl rfl (by kernel_rfl) (by kernel_rfl) (by kernel_rfl) (fun _ _ _ h => h) (.inl ⟨by kernel_rfl, ?_⟩) s0 ?_
          rotate_left
          · intro w' hw'; obtain ⟨hw1, hw2, hw3, hw4, hw5, hw6, hw7, hw8, hw9, hw10, hw11, hw12, hw13⟩ := hw'; go_simp; try with_reducible rfl
          try simp only [Act.put, List.setIfInBounds_toArray, List.set_cons_zero, List.set_cons_succ]
          refine wpAnyH_takeD (some 8) (i := 5) (v := ?_) rfl rfl (by kernel_rfl) (by kernel_rfl) (by kernel_rfl) (fun _ _ _ h => h) (.inl ⟨by kernel_rfl, ?_⟩) s0 ?_
          rotate_left
          · intro w' hw'; obtain ⟨hw1, hw2, hw3, hw4, hw5, hw6, hw7, hw8, hw9, hw10, hw11, hw12, hw13⟩ := hw'; go_simp; try with_reducible rfl
          try simp only [Act.put, List.setIfInBounds_toArray, List.set_cons_zero, List.set_cons_succ]
          refine wpAnyH_takeD (some 9) (i := 6) (v := ?_) rfl rfl (by kernel_rfl) (by kernel_rfl) (by kernel_rfl) (fun _ _ _ h => h) (.inl ⟨by kernel_rfl, ?_⟩) s0 ?_
          rotate_left
          · intro w' hw'; obtain ⟨hw1, hw2, hw3, hw4, hw5, hw6, hw7, hw8, hw9, hw10, hw11, hw12, hw13⟩ := hw'; go_simp; try with_reducible rfl
          try simp only [Act.put, List.setIfInBounds_toArray, List.set_cons_zero, List.set_cons_succ]
          refine wpAnyH_takeD (some 10) (i := 7) (v := ?_) rfl rfl (by kernel_rfl) (by kernel_rfl) (by kernel_rfl) (fun _ _ _ h => h) (.inl ⟨by kernel_rfl, ?_⟩) s0 ?_
          rotate_left
          · intro w' hw'; obtain ⟨hw1, hw2, hw3, hw4, hw5, hw6, hw7, hw8, hw9, hw10, hw11, hw12, hw13⟩ := hw'; go_simp; try with_reducible rfl
          try simp only [Act.put, List.setIfInBounds_toArray, List.set_cons_zero, List.set_cons_succ]
          refine wpAnyH_all (rs := [8]) (by kernel_rfl) (by simp) ?_
          intro i hi; simp only [List.mem_singleton] at hi; subst hi
          refine wpOp_step rfl (fun K hK => ?_)
          go_simp
          with_reducible refine (HV.out _ s0).mono ?_
          rintro e vs1 ⟨rfl, hvs1⟩
          have s1 := hvs1
          refine hK _ _ ⟨s1, ?_⟩
          try simp only [Act.put, List.setIfInBounds_toArray, List.set_cons_zero, List.set_cons_succ]
          refine wpAnyH_takeD (some 12) (i := 9) (v := ?_) rfl rfl (by kernel_rfl) (by kernel_rfl) (by kernel_rfl) (fun _ _ _ h => h) (.inl ⟨by kernel_rfl, ?_⟩) s1 ?_
          rotate_left
          · intro w' hw'; obtain ⟨hw1, hw2, hw3, hw4, hw5, hw6, hw7, hw8, hw9, hw10, hw11, hw12, hw13⟩ := hw'; go_simp; try with_reducible rfl
          try simp only [Act.put, List.setIfInBounds_toArray, List.set_cons_zero, List.set_cons_succ]
          refine wpAnyH_takeD (some 13) (i := 10) (v := ?_) rfl rfl (by kernel_rfl) (by kernel_rfl) (by kernel_rfl) (fun _ _ _ h => h) (.inl ⟨by kernel_rfl, ?_⟩) s1 ?_
          rotate_left
          · intro w' hw'; obtain ⟨hw1, hw2, hw3, hw4, hw5, hw6, hw7, hw8, hw9, hw10, hw11, hw12, hw13⟩ := hw'; go_simp; try with_reducible rfl
          try simp only [Act.put, List.setIfInBounds_toArray, List.set_cons_zero, List.set_cons_succ]
          refine wpAnyH_takeD (some 14) (i := 11) (v := ?_) rfl rfl (by kernel_rfl) (by kernel_rfl) (by kernel_rfl) (fun _ _ _ h => h) (.inl ⟨by kernel_rfl, ?_⟩) s1 ?_
          rotate_left
          · intro w' hw'; obtain ⟨hw1, hw2, hw3, hw4, hw5, hw6, hw7, hw8, hw9, hw10, hw11, hw12, hw13⟩ := hw'; go_simp; try with_reducible rfl
          try simp only [Act.put, List.setIfInBounds_toArray, List.set_cons_zero, List.set_cons_succ]
          refine wpAnyH_takeD (some 15) (i := 12) (v := ?_) rfl rfl (by kernel_rfl) (by kernel_rfl) (by kernel_rfl) (fun _ _ _ h => h) (.inl ⟨by kernel_rfl, ?_⟩) s1 ?_
          rotate_left
          · intro w' hw'; obtain ⟨hw1, hw2, hw3, hw4, hw5, hw6, hw7, hw8, hw9, hw10, hw11, hw12, hw13⟩ := hw'; go_simp; try with_reducible rfl
          try simp only [Act.put, List.setIfInBounds_toArray, List.set_cons_zero, List.set_cons_succ]
          refine wpAnyH_takeD (some 16) (i := 13) (v := ?_) rfl rfl (by kernel_rfl) (by kernel_rfl) (by kernel_rfl) (fun _ _ _ h => h) (.inl ⟨by kernel_rfl, ?_⟩) s1 ?_
          rotate_left
          · intro w' hw'; obtain ⟨hw1, hw2, hw3, hw4, hw5, hw6, hw7, hw8, hw9, hw10, hw11, hw12, hw13⟩ := hw'; go_simp; try with_reducible rfl
          try simp only [Act.put, List.setIfInBounds_toArray, List.set_cons_zero, List.set_cons_succ]
          refine wpAnyH_takeD (some 17) (i := 14) (v := ?_) rfl rfl (by kernel_rfl) (by kernel_rfl) (by kernel_rfl) (fun _ _ _ h => h) (.inl ⟨by kernel_rfl, ?_⟩) s1 ?_
          rotate_left
          · intro w' hw'; obtain ⟨hw1, hw2, hw3, hw4, hw5, hw6, hw7, hw8, hw9, hw10, hw11, hw12, hw13⟩ := hw'; go_simp; try with_reducible rfl
          try simp only [Act.put, List.setIfInBounds_toArray, List.set_cons_zero, List.set_cons_succ]
          refine wpAnyH_takeD (some 18) (i := 15) (v := ?_) rfl rfl (by kernel_rfl) (by kernel_rfl) (by kernel_rfl) (fun _ _ _ h => h) (.inl ⟨by kernel_rfl, ?_⟩) s1 ?_
          rotate_left
          · intro w' hw'; obtain ⟨hw1, hw2, hw3, hw4, hw5, hw6, hw7, hw8, hw9, hw10, hw11, hw12, hw13⟩ := hw'; go_simp; try with_reducible rfl
          try simp only [Act.put, List.setIfInBounds_toArray, List.set_cons_zero, List.set_cons_succ]
          refine wpAnyH_takeD (some 19) (i := 16) (v := ?_) rfl rfl (by kernel_rfl) (by kernel_rfl) (by kernel_rfl) (fun _ _ _ h => h) (.inl ⟨by kernel_rfl, ?_⟩) s1 ?_
          rotate_left
          · intro w' hw'; obtain ⟨hw1, hw2, hw3, hw4, hw5, hw6, hw7, hw8, hw9, hw10, hw11, hw12, hw13⟩ := hw'; go_simp; try with_reducible rfl
          try simp only [Act.put, List.setIfInBounds_toArray, List.set_cons_zero, List.set_cons_succ]
          refine wpAnyH_takeD (some 20) (i := 17) (v := ?_) rfl rfl (by kernel_rfl) (by kernel_rfl) (by kernel_rfl) (fun _ _ _ h => h) (.inl ⟨by kernel_rfl, ?_⟩) s1 ?_
          rotate_left
          · intro w' hw'; obtain ⟨hw1, hw2, hw3, hw4, hw5, hw6, hw7, hw8, hw9, hw10, hw11, hw12, hw13⟩ := hw'; go_simp; try with_reducible rfl
          try simp only [Act.put, List.setIfInBounds_toArray, List.set_cons_zero, List.set_cons_succ]
          refine wpAnyH_takeD (some 21) (i := 18) (v := ?_) rfl rfl (by kernel_rfl) (by kernel_rfl) (by kernel_rfl) (fun _ _ _ h => h) (.inl ⟨by kernel_rfl, ?_⟩) s1 ?_
          rotate_left
          · intro w' hw'; obtain ⟨hw1, hw2, hw3, hw4, hw5, hw6, hw7, hw8, hw9, hw10, hw11, hw12, hw13⟩ := hw'; go_simp; try with_reducible rfl
          try simp only [Act.put, List.setIfInBounds_toArray, List.set_cons_zero, List.set_cons_succ]
          refine wpAnyH_all (rs := [19]) (by kernel_rfl) (by simp) ?_
          intro i hi; simp only [List.mem_singleton] at hi; subst hi
          refine wpOp_step rfl (fun K hK => ?_)
          go_simp
          with_reducible refine (HZ.out _ s1).mono ?_
          rintro e vs2 ⟨rfl, hvs2⟩
          have s2 := hvs2
          refine hK _ _ ⟨s2, ?_⟩
          try simp only [Act.put, List.setIfInBounds_toArray, List.set_cons_zero, List.set_cons_succ]
          refine wpAnyH_takeD (some 23) (i := 20) (v := ?_) rfl rfl (by kernel_rfl) (by kernel_rfl) (by kernel_rfl) (fun _ _ _ h => h) (.inl ⟨by kernel_rfl, ?_⟩) s2 ?_
          rotate_left
          · intro w' hw'; obtain ⟨hw1, hw2, hw3, hw4, hw5, hw6, hw7, hw8, hw9, hw10, hw11, hw12, hw13⟩ := hw'; go_simp; try with_reducible rfl
          try simp only [Act.put, List.setIfInBounds_toArray, List.set_cons_zero, List.set_cons_succ]
          refine wpAnyH_all (rs := [21]) (by kernel_rfl) (by simp) ?_
          intro i hi; simp only [List.mem_singleton] at hi; subst hi
          refine wpOp_step rfl (fun K hK => ?_)
          go_simp
          with_reducible refine (H1.out _ s2).mono ?_
          rintro e vs3 ⟨rfl, hvs3⟩
          have s3 := hvs3
          refine hK _ _ ⟨s3, ?_⟩
          try simp only [Act.put, List.setIfInBounds_toArray, List.set_cons_zero, List.set_cons_succ]
          refine wpAnyH_takeD (some 25) (i := 22) (v := ?_) rfl rfl (by kernel_rfl) (by kernel_rfl) (by kernel_rfl) (fun _ _ _ h => h) (.inl ⟨by kernel_rfl, ?_⟩) s3 ?_
          rotate_left
          · intro w' hw'; obtain ⟨hw1, hw2, hw3, hw4, hw5, hw6, hw7, hw8, hw9, hw10, hw11, hw12, hw13⟩ := hw'; go_simp; try with_reducible rfl
          try simp only [Act.put, List.setIfInBounds_toArray, List.set_cons_zero, List.set_cons_succ]
          refine wpAnyH_takeD (some 26) (i := 23) (v := ?_) rfl rfl (by kernel_rfl) (by kernel_rfl) (by kernel_rfl) (fun _ _ _ h => h) (.inl ⟨by kernel_rfl, ?_⟩) s3 ?_
          rotate_left
          · intro w' hw'; obtain ⟨hw1, hw2, hw3, hw4, hw5, hw6, hw7, hw8, hw9, hw10, hw11, hw12, hw13⟩ := hw'; go_simp; try with_reducible rfl
          try simp only [Act.put, List.setIfInBounds_toArray, List.set_cons_zero, List.set_cons_succ]
          refine wpAnyH_takeD (some 27) (i := 24) (v := ?_) rfl rfl (by kernel_rfl) (by kernel_rfl) (by kernel_rfl) (fun _ _ _ h => h) (.inl ⟨by kernel_rfl, ?_⟩) s3 ?_
          rotate_left
          · intro w' hw'; obtain ⟨hw1, hw2, hw3, hw4, hw5, hw6, hw7, hw8, hw9, hw10, hw11, hw12, hw13⟩ := hw'; go_simp; try with_reducible rfl
          try simp only [Act.put, List.setIfInBounds_toArray, List.set_cons_zero, List.set_cons_succ]
          refine wpAnyH_takeD (some 28) (i := 25) (v := ?_) rfl rfl (by kernel_rfl) (by kernel_rfl) (by kernel_rfl) (fun _ _ _ h => h) (.inl ⟨by kernel_rfl, ?_⟩) s3 ?_
          rotate_left
          · intro w' hw'; obtain ⟨hw1, hw2, hw3, hw4, hw5, hw6, hw7, hw8, hw9, hw10, hw11, hw12, hw13⟩ := hw'; go_simp; try with_reducible rfl
          try simp only [Act.put, List.setIfInBounds_toArray, List.set_cons_zero, List.set_cons_succ]
          refine wpAnyH_takeD (some 29) (i := 26) (v := ?_) rfl rfl (by kernel_rfl) (by kernel_rfl) (by kernel_rfl) (fun _ _ _ h => h) (.inl ⟨by kernel_rfl, ?_⟩) s3 ?_
          rotate_left
          · intro w' hw'; obtain ⟨hw1, hw2, hw3, hw4, hw5, hw6, hw7, hw8, hw9, hw10, hw11, hw12, hw13⟩ := hw'; go_simp; try with_reducible rfl
          try simp only [Act.put, List.setIfInBounds_toArray, List.set_cons_zero, List.set_cons_succ]
          refine wpAnyH_takeD (some 30) (i := 27) (v := ?_) rfl rfl (by kernel_rfl) (by kernel_rfl) (by kernel_rfl) (fun _ _ _ h => h) (.inl ⟨by kernel_rfl, ?_⟩) s3 ?_
          rotate_left
          · intro w' hw'; obtain ⟨hw1, hw2, hw3, hw4, hw5, hw6, hw7, hw8, hw9, hw10, hw11, hw12, hw13⟩ := hw'; go_simp; try with_reducible rfl
          try simp only [Act.put, List.setIfInBounds_toArray, List.set_cons_zero, List.set_cons_succ]
          refine wpAnyH_takeD (some 31) (i := 28) (v := ?_) rfl rfl (by kernel_rfl) (by kernel_rfl) (by kernel_rfl) (fun _ _ _ h => h) (.inl ⟨by kernel_rfl, ?_⟩) s3 ?_
          rotate_left
          · intro w' hw'; obtain ⟨hw1, hw2, hw3, hw4, hw5, hw6, hw7, hw8, hw9, hw10, hw11, hw12, hw13⟩ := hw'; go_simp; try with_reducible rfl
          try simp only [Act.put, List.setIfInBounds_toArray, List.set_cons_zero, List.set_cons_succ]
          refine wpAnyH_all (rs := [29]) (by kernel_rfl) (by simp) ?_
          intro i hi; simp only [List.mem_singleton] at hi; subst hi
          refine wpOp_step rfl (fun K hK => ?_)
          go_simp
          with_reducible refine (H2.out _ s3).mono ?_
          rintro e vs4 ⟨rfl, hvs4⟩
          have s4 := hvs4
          refine hK _ _ ⟨s4, ?_⟩
          try simp only [Act.put, List.setIfInBounds_toArray, List.set_cons_zero, List.set_cons_succ]
          refine wpAnyH_takeD (some 33) (i := 30) (v := ?_) rfl rfl (by kernel_rfl) (by kernel_rfl) (by kernel_rfl) (fun _ _ _ h => h) (.inl ⟨by kernel_rfl, ?_⟩) s4 ?_
          rotate_left
          · intro w' hw'; obtain ⟨hw1, hw2, hw3, hw4, hw5, hw6, hw7, hw8, hw9, hw10, hw11, hw12, hw13⟩ := hw'; go_simp; try with_reducible rfl
          try simp only [Act.put, List.setIfInBounds_toArray, List.set_cons_zero, List.set_cons_succ]
          refine wpAnyH_takeD (some 34) (i := 31) (v := ?_) rfl rfl (by kernel_rfl) (by kernel_rfl) (by kernel_rfl) (fun _ _ _ h => h) (.inl ⟨by kernel_rfl, ?_⟩) s4 ?_
          rotate_left
          · intro w' hw'; obtain ⟨hw1, hw2, hw3, hw4, hw5, hw6, hw7, hw8, hw9, hw10, hw11, hw12, hw13⟩ := hw'; go_simp; try with_reducible rfl
          try simp only [Act.put, List.setIfInBounds_toArray, List.set_cons_zero, List.set_cons_succ]
          refine wpAnyH_done (by kernel_rfl) ?_ _
          have HS1 := hid (HSD.out _ hvs4)
          clear hvs4
          go_wp2_with fail
          refine wp_region_held (S := (fun w' : World => Below w.heap.size w w' ∧ w'.cell? ⟨g, 0, none⟩ = some (.slice (some ⟨B, 0, none⟩) n cap) ∧ w'.cell? ⟨g, 1, none⟩ = some (.int .u8 d0) ∧ w'.cell? ⟨g, 2, none⟩ = some (.int .u8 d1) ∧ w'.cell? ⟨g, 3, none⟩ = some (.int .u8 d2) ∧ w'.cell? ⟨g, 4, none⟩ = some (.int .u8 d3) ∧ w'.cell? ⟨g, 5, none⟩ = some (.int .u8 d4) ∧ w'.cell? ⟨g, 6, none⟩ = some (.int .u8 d5) ∧ w'.cell? ⟨g, 7, none⟩ = some (.int .u8 d6) ∧ w'.cell? ⟨g, 8, none⟩ = some (.int .u8 d7) ∧ w'.cell? ⟨g, 9, none⟩ = some (.int .i64 pr) ∧ w'.cell? ⟨g, 10, none⟩ = some (.bool false) ∧ w'.cell? ⟨g, 11, none⟩ = some (.int .i64 tk))) (by kernel_rfl) ?_
          change wpAnyH _ _ _ _ _ _ _ _ (World.drew _)
          have t0 : ((fun w' : World => Below w.heap.size w w' ∧ w'.cell? ⟨g, 0, none⟩ = some (.slice (some ⟨B, 0, none⟩) n cap) ∧ w'.cell? ⟨g, 1, none⟩ = some (.int .u8 d0) ∧ w'.cell? ⟨g, 2, none⟩ = some (.int .u8 d1) ∧ w'.cell? ⟨g, 3, none⟩ = some (.int .u8 d2) ∧ w'.cell? ⟨g, 4, none⟩ = some (.int .u8 d3) ∧ w'.cell? ⟨g, 5, none⟩ = some (.int .u8 d4) ∧ w'.cell? ⟨g, 6, none⟩ = some (.int .u8 d5) ∧ w'.cell? ⟨g, 7, none⟩ = some (.int .u8 d6) ∧ w'.cell? ⟨g, 8, none⟩ = some (.int .u8 d7) ∧ w'.cell? ⟨g, 9, none⟩ = some (.int .i64 pr) ∧ w'.cell? ⟨g, 10, none⟩ = some (.bool false) ∧ w'.cell? ⟨g, 11, none⟩ = some (.int .i64 tk))) _ := HS1.out
          refine wpAnyH_takeD (some 35) (i := 0) (v := ?_) rfl rfl (by kernel_rfl) (by kernel_rfl) (by kernel_rfl) (fun _ _ _ h => h) (.inl ⟨by kernel_rfl, ?_⟩) t0 ?_
          rotate_left
          · intro w' hw'; obtain ⟨hw1, hw2, hw3, hw4, hw5, hw6, hw7, hw8, hw9, hw10, hw11, hw12, hw13⟩ := hw'; go_simp; try with_reducible rfl
          try simp only [Act.put, List.setIfInBounds_toArray, List.set_cons_zero, List.set_cons_succ]
          refine wpAnyH_takeD (some 36) (i := 1) (v := ?_) rfl rfl (by kernel_rfl) (by kernel_rfl) (by kernel_rfl) (fun _ _ _ h => h) (.inl ⟨by kernel_rfl, ?_⟩) t0 ?_
          rotate_left
          · intro w' hw'; obtain ⟨hw1, hw2, hw3, hw4, hw5, hw6, hw7, hw8, hw9, hw10, hw11, hw12, hw13⟩ := hw'; go_simp; try with_reducible rfl
          try simp only [Act.put, List.setIfInBounds_toArray, List.set_cons_zero, List.set_cons_succ]
          refine wpAnyH_takeD (some 37) (i := 2) (v := ?_) rfl rfl (by kernel_rfl) (by kernel_rfl) (by kernel_rfl) (fun _ _ _ h => h) (.inl ⟨by kernel_rfl, ?_⟩) t0 ?_
          rotate_left
          · intro w' hw'; obtain ⟨hw1, hw2, hw3, hw4, hw5, hw6, hw7, hw8, hw9, hw10, hw11, hw12, hw13⟩ := hw'; go_simp; try with_reducible rfl
          try simp only [Act.put, List.setIfInBounds_toArray, List.set_cons_zero, List.set_cons_succ]
          refine wpAnyH_takeD (some 38) (i := 3) (v := ?_) rfl rfl (by kernel_rfl) (by kernel_rfl) (by kernel_rfl) (fun _ _ _ h => h) (.inl ⟨by kernel_rfl, ?_⟩) t0 ?_
          rotate_left
          · intro w' hw'; obtain ⟨hw1, hw2, hw3, hw4, hw5, hw6, hw7, hw8, hw9, hw10, hw11, hw12, hw13⟩ := hw'; go_simp; try with_reducible rfl
          try simp only [Act.put, List.setIfInBounds_toArray, List.set_cons_zero, List.set_cons_succ]
          refine wpAnyH_takeD (some 39) (i := 4) (v := ?_) rfl rfl (by kernel_rfl) (by kernel_rfl) (by kernel_rfl) (fun _ _ _ h => h) (.inl ⟨by kernel_rfl, ?_⟩) t0 ?_
          rotate_left
          · intro w' hw'; obtain ⟨hw1, hw2, hw3, hw4, hw5, hw6, hw7, hw8, hw9, hw10, hw11, hw12, hw13⟩ := hw'; go_simp; try with_reducible rfl
          try simp only [Act.put, List.setIfInBounds_toArray, List.set_cons_zero, List.set_cons_succ]
          refine wpAnyH_takeD (some 40) (i := 5) (v := ?_) rfl rfl (by kernel_rfl) (by kernel_rfl) (by kernel_rfl) (fun _ _ _ h => h) (.inl ⟨by kernel_rfl, ?_⟩) t0 ?_
          rotate_left
          · intro w' hw'; obtain ⟨hw1, hw2, hw3, hw4, hw5, hw6, hw7, hw8, hw9, hw10, hw11, hw12, hw13⟩ := hw'; go_simp; try with_reducible rfl
          try simp only [Act.put, List.setIfInBounds_toArray, List.set_cons_zero, List.set_cons_succ]
          refine wpAnyH_takeD (some 41) (i := 6) (v := undef) rfl rfl (by kernel_rfl) (by kernel_rfl) (by kernel_rfl) (fun _ _ _ h => h) (.inr ⟨by kernel_rfl, rfl⟩) t0 ?_
          try simp only [Act.put, List.setIfInBounds_toArray, List.set_cons_zero, List.set_cons_succ]
          refine wpAnyH_takeD (some 42) (i := 7) (v := undef) rfl rfl (by kernel_rfl) (by kernel_rfl) (by kernel_rfl) (fun _ _ _ h => h) (.inr ⟨by kernel_rfl, rfl⟩) t0 ?_
          try simp only [Act.put, List.setIfInBounds_toArray, List.set_cons_zero, List.set_cons_succ]
          refine wpAnyH_takeD (some 43) (i := 8) (v := undef) rfl rfl (by kernel_rfl) (by kernel_rfl) (by kernel_rfl) (fun _ _ _ h => h) (.inr ⟨by kernel_rfl, rfl⟩) t0 ?_
          try simp only [Act.put, List.setIfInBounds_toArray, List.set_cons_zero, List.set_cons_succ]
          refine wpAnyH_takeD (some 44) (i := 9) (v := undef) rfl rfl (by kernel_rfl) (by kernel_rfl) (by kernel_rfl) (fun _ _ _ h => h) (.inr ⟨by kernel_rfl, rfl⟩) t0 ?_
          try simp only [Act.put, List.setIfInBounds_toArray, List.set_cons_zero, List.set_cons_succ]
          refine wpAnyH_takeD (some 45) (i := 10) (v := undef) rfl rfl (by kernel_rfl) (by kernel_rfl) (by kernel_rfl) (fun _ _ _ h => h) (.inr ⟨by kernel_rfl, rfl⟩) t0 ?_
          try simp only [Act.put, List.setIfInBounds_toArray, List.set_cons_zero, List.set_cons_succ]
          refine wpAnyH_takeD (some 46) (i := 11) (v := undef) rfl rfl (by kernel_rfl) (by kernel_rfl) (by kernel_rfl) (fun _ _ _ h => h) (.inr ⟨by kernel_rfl, rfl⟩) t0 ?_
          try simp only [Act.put, List.setIfInBounds_toArray, List.set_cons_zero, List.set_cons_succ]
          refine wpAnyH_takeD (some 47) (i := 12) (v := undef) rfl rfl (by kernel_rfl) (by kernel_rfl) (by kernel_rfl) (fun _ _ _ h => h) (.inr ⟨by kernel_rfl, rfl⟩) t0 ?_
          try simp only [Act.put, List.setIfInBounds_toArray, List.set_cons_zero, List.set_cons_succ]
          refine wpAnyH_takeD (some 48) (i := 13) (v := undef) rfl rfl (by kernel_rfl) (by kernel_rfl) (by kernel_rfl) (fun _ _ _ h => h) (.inr ⟨by kernel_rfl, rfl⟩) t0 ?_
          try simp only [Act.put, List.setIfInBounds_toArray, List.set_cons_zero, List.set_cons_succ]
          refine wpAnyH_takeD (some 49) (i := 14) (v := undef) rfl rfl (by kernel_rfl) (by kernel_rfl) (by kernel_rfl) (fun _ _ _ h => h) (.inr ⟨by kernel_rfl, rfl⟩) t0 ?_
          try simp only [Act.put, List.setIfInBounds_toArray, List.set_cons_zero, List.set_cons_succ]
          refine wpAnyH_takeD (some 50) (i := 15) (v := undef) rfl rfl (by kernel_rfl) (by kernel_rfl) (by kernel_rfl) (fun _ _ _ h => h) (.inr ⟨by kernel_rfl, rfl⟩) t0 ?_
          try simp only [Act.put, List.setIfInBounds_toArray, List.set_cons_zero, List.set_cons_succ]
          refine wpAnyH_takeD (some 51) (i := 16) (v := undef) rfl rfl (by kernel_rfl) (by kernel_rfl) (by kernel_rfl) (fun _ _ _ h => h) (.inr ⟨by kernel_rfl, rfl⟩) t0 ?_
          try simp only [Act.put, List.setIfInBounds_toArray, List.set_cons_zero, List.set_cons_succ]
          refine wpAnyH_takeD (some 52) (i := 17) (v := undef) rfl rfl (by kernel_rfl) (by kernel_rfl) (by kernel_rfl) (fun _ _ _ h => h) (.inr ⟨by kernel_rfl, rfl⟩) t0 ?_
          try simp only [Act.put, List.setIfInBounds_toArray, List.set_cons_zero, List.set_cons_succ]
          refine wpAnyH_takeD (some 53) (i := 18) (v := undef) rfl rfl (by kernel_rfl) (by kernel_rfl) (by kernel_rfl) (fun _ _ _ h => h) (.inr ⟨by kernel_rfl, rfl⟩) t0 ?_
          try simp only [Act.put, List.setIfInBounds_toArray, List.set_cons_zero, List.set_cons_succ]
          refine wpAnyH_takeD (some 54) (i := 19) (v := undef) rfl rfl (by kernel_rfl) (by kernel_rfl) (by kernel_rfl) (fun _ _ _ h => h) (.inr ⟨by kernel_rfl, rfl⟩) t0 ?_
          try simp only [Act.put, List.setIfInBounds_toArray, List.set_cons_zero, List.set_cons_succ]
          refine wpAnyH_takeD (some 55) (i := 20) (v := ?_) rfl rfl (by kernel_rfl) (by kernel_rfl) (by kernel_rfl) (fun _ _ _ h => h) (.inl ⟨by kernel_rfl, ?_⟩) t0 ?_
          rotate_left
          · intro w' hw'; obtain ⟨hw1, hw2, hw3, hw4, hw5, hw6, hw7, hw8, hw9, hw10, hw11, hw12, hw13⟩ := hw'; go_simp; try with_reducible rfl
          try simp only [Act.put, List.setIfInBounds_toArray, List.set_cons_zero, List.set_cons_succ]
          refine wpAnyH_takeD (some 2) (i := 21) (v := ?_) rfl rfl (by kernel_rfl) (by kernel_rfl) (by kernel_rfl) (fun _ _ _ h => h) (.inl ⟨by kernel_rfl, ?_⟩) t0 ?_
          rotate_left
          · intro w' hw'; obtain ⟨hw1, hw2, hw3, hw4, hw5, hw6, hw7, hw8, hw9, hw10, hw11, hw12, hw13⟩ := hw'; go_simp; try with_reducible rfl
          try simp only [Act.put, List.setIfInBounds_toArray, List.set_cons_zero, List.set_cons_succ]
          refine wpAnyH_done (by kernel_rfl) ?_ _
          go_wp2_with fail
          go_ret
          exact ⟨rfl, HS1.out.1⟩
        · go_enter Try.func42, Try.ntmps42
          go_wp2_with fail
          
          refine wp_region_held (S := (fun w' : World => Below w.heap.size w w' ∧ w'.cell? ⟨g, 0, none⟩ = some (.slice (some ⟨B, 0, none⟩) n cap) ∧ w'.cell? ⟨g, 1, none⟩ = some (.int .u8 d0) ∧ w'.cell? ⟨g, 2, none⟩ = some (.int .u8 d1) ∧ w'.cell? ⟨g, 3, none⟩ = some (.int .u8 d2) ∧ w'.cell? ⟨g, 4, none⟩ = some (.int .u8 d3) ∧ w'.cell? ⟨g, 5, none⟩ = some (.int .u8 d4) ∧ w'.cell? ⟨g, 6, none⟩ = some (.int .u8 d5) ∧ w'.cell? ⟨g, 7, none⟩ = some (.int .u8 d6) ∧ w'.cell? ⟨g, 8, none⟩ = some (.int .u8 d7) ∧ w'.cell? ⟨g, 9, none⟩ = some (.int .i64 pr) ∧ w'.cell? ⟨g, 10, none⟩ = some (.bool true) ∧ w'.cell? ⟨g, 11, none⟩ = some (.int .i64 tk))) (by kernel_rfl) ?_
          change wpAnyH _ _ _ _ _ _ _ _ (World.drew _)
          have s0 : ((fun w' : World => Below w.heap.size w w' ∧ w'.cell? ⟨g, 0, none⟩ = some (.slice (some ⟨B, 0, none⟩) n cap) ∧ w'.cell? ⟨g, 1, none⟩ = some (.int .u8 d0) ∧ w'.cell? ⟨g, 2, none⟩ = some (.int .u8 d1) ∧ w'.cell? ⟨g, 3, none⟩ = some (.int .u8 d2) ∧ w'.cell? ⟨g, 4, none⟩ = some (.int .u8 d3) ∧ w'.cell? ⟨g, 5, none⟩ = some (.int .u8 d4) ∧ w'.cell? ⟨g, 6, none⟩ = some (.int .u8 d5) ∧ w'.cell? ⟨g, 7, none⟩ = some (.int .u8 d6) ∧ w'.cell? ⟨g, 8, none⟩ = some (.int .u8 d7) ∧ w'.cell? ⟨g, 9, none⟩ = some (.int .i64 pr) ∧ w'.cell? ⟨g, 10, none⟩ = some (.bool true) ∧ w'.cell? ⟨g, 11, none⟩ = some (.int .i64 tk))) _ := HS0.out
          refine wpAnyH_takeD (some 3) (i := 0) (v := ?_) rfl rfl (by kernel_rfl) (by kernel_rfl) (by kernel_rfl) (fun _ _ _ h => h) (.inl ⟨by kernel_rfl, ?_⟩) s0 ?_
          rotate_left
          · intro w' hw'; obtain ⟨hw1, hw2, hw3, hw4, hw5, hw6, hw7, hw8, hw9, hw10, hw11, hw12, hw13⟩ := hw'; go_simp; try with_reducible rfl
          try simp only [Act.put, List.setIfInBounds_toArray, List.set_cons_zero, List.set_cons_succ]
          refine wpAnyH_takeD (some 4) (i := 1) (v := ?_) rfl rfl (by kernel_rfl) (by kernel_rfl) (by kernel_rfl) (fun _ _ _ h => h) (.inl ⟨by kernel_rfl, ?_⟩) s0 ?_
          rotate_left
          · intro w' hw'; obtain ⟨hw1, hw2, hw3, hw4, hw5, hw6, hw7, hw8, hw9, hw10, hw11, hw12, hw13⟩ := hw'; go_simp; try with_reducible rfl
          try simp only [Act.put, List.setIfInBounds_toArray, List.set_cons_zero, List.set_cons_succ]
          refine wpAnyH_takeD (some 5) (i := 2) (v := ?_) rfl rfl (by kernel_rfl) (by kernel_rfl) (by kernel_rfl) (fun _ _ _ h => h) (.inl ⟨by kernel_rfl, ?_⟩) s0 ?_
          rotate_left
          · intro w' hw'; obtain ⟨hw1, hw2, hw3, hw4, hw5, hw6, hw7, hw8, hw9, hw10, hw11, hw12, hw13⟩ := hw'; go_simp; try with_reducible rfl
          try simp only [Act.put, List.setIfInBounds_toArray, List.set_cons_zero, List.set_cons_succ]
          refine wpAnyH_takeD (some 6) (i := 3) (v := ?_) rfl rfl (by kernel_rfl) (by kernel_rfl) (by kernel_rfl) (fun _ _ _ h => h) (.inl ⟨by kernel_rfl, ?_⟩) s0 ?_
          rotate_left
          · intro w' hw'; obtain ⟨hw1, hw2, hw3, hw4, hw5, hw6, hw7, hw8, hw9, hw10, hw11, hw12, hw13⟩ := hw'; go_simp; try with_reducible rfl
          try simp only [Act.put, List.setIfInBounds_toArray, List.set_cons_zero, List.set_cons_succ]
          refine wpAnyH_takeD (some 7) (i := 4) (v := ?_) rfl rfl (by kernel_rfl) (by kernel_rfl) (by kernel_rfl) (fun _ _ _ h => h) (.inl ⟨by kernel_rfl, ?_⟩) s0 ?_
          rotate_left
          · intro w' hw'; obtain ⟨hw1, hw2, hw3, hw4, hw5, hw6, hw7, hw8, hw9, hw10, hw11, hw12, hw13⟩ := hw'; go_simp; try with_reducible rfl
          try simp only [Act.put, List.setIfInBounds_toArray, List.set_cons_zero, List.set_cons_succ]
          refine wpAnyH_takeD (some 8) (i := 5) (v := ?_) rfl rfl (by kernel_rfl) (by kernel_rfl) (by kernel_rfl) (fun _ _ _ h => h) (.inl ⟨by kernel_rfl, ?_⟩) s0 ?_
          rotate_left
          · intro w' hw'; obtain ⟨hw1, hw2, hw3, hw4, hw5, hw6, hw7, hw8, hw9, hw10, hw11, hw12, hw13⟩ := hw'; go_simp; try with_reducible rfl
          try simp only [Act.put, List.setIfInBounds_toArray, List.set_cons_zero, List.set_cons_succ]
          refine wpAnyH_takeD (some 9) (i := 6) (v := ?_) rfl rfl (by kernel_rfl) (by kernel_rfl) (by kernel_rfl) (fun _ _ _ h => h) (.inl ⟨by kernel_rfl, ?_⟩) s0 ?_
          rotate_left
          · intro w' hw'; obtain ⟨hw1, hw2, hw3, hw4, hw5, hw6, hw7, hw8, hw9, hw10, hw11, hw12, hw13⟩ := hw'; go_simp; try with_reducible rfl
          try simp only [Act.put, List.setIfInBounds_toArray, List.set_cons_zero, List.set_cons_succ]
          refine wpAnyH_takeD (some 10) (i := 7) (v := ?_) rfl rfl (by kernel_rfl) (by kernel_rfl) (by kernel_rfl) (fun _ _ _ h => h) (.inl ⟨by kernel_rfl, ?_⟩) s0 ?_
          rotate_left
          · intro w' hw'; obtain ⟨hw1, hw2, hw3, hw4, hw5, hw6, hw7, hw8, hw9, hw10, hw11, hw12, hw13⟩ := hw'; go_simp; try with_reducible rfl
          try simp only [Act.put, List.setIfInBounds_toArray, List.set_cons_zero, List.set_cons_succ]
          refine wpAnyH_all (rs := [8]) (by kernel_rfl) (by simp) ?_
          intro i hi; simp only [List.mem_singleton] at hi; subst hi
          refine wpOp_step rfl (fun K hK => ?_)
          go_simp
          with_reducible refine (HV.out _ s0).mono ?_
          rintro e vs1 ⟨rfl, hvs1⟩
          have s1 := hvs1
          refine hK _ _ ⟨s1, ?_⟩
          try simp only [Act.put, List.setIfInBounds_toArray, List.set_cons_zero, List.set_cons_succ]
          refine wpAnyH_takeD (some 12) (i := 9) (v := ?_) rfl rfl (by kernel_rfl) (by kernel_rfl) (by kernel_rfl) (fun _ _ _ h => h) (.inl ⟨by kernel_rfl, ?_⟩) s1 ?_
          rotate_left
          · intro w' hw'; obtain ⟨hw1, hw2, hw3, hw4, hw5, hw6, hw7, hw8, hw9, hw10, hw11, hw12, hw13⟩ := hw'; go_simp; try with_reducible rfl
          try simp only [Act.put, List.setIfInBounds_toArray, List.set_cons_zero, List.set_cons_succ]
          refine wpAnyH_takeD (some 13) (i := 10) (v := ?_) rfl rfl (by kernel_rfl) (by kernel_rfl) (by kernel_rfl) (fun _ _ _ h => h) (.inl ⟨by kernel_rfl, ?_⟩) s1 ?_
          rotate_left
          · intro w' hw'; obtain ⟨hw1, hw2, hw3, hw4, hw5, hw6, hw7, hw8, hw9, hw10, hw11, hw12, hw13⟩ := hw'; go_simp; try with_reducible rfl
          try simp only [Act.put, List.setIfInBounds_toArray, List.set_cons_zero, List.set_cons_succ]
          refine wpAnyH_takeD (some 14) (i := 11) (v := ?_) rfl rfl (by kernel_rfl) (by kernel_rfl) (by kernel_rfl) (fun _ _ _ h => h) (.inl ⟨by kernel_rfl, ?_⟩) s1 ?_
          rotate_left
          · intro w' hw'; obtain ⟨hw1, hw2, hw3, hw4, hw5, hw6, hw7, hw8, hw9, hw10, hw11, hw12, hw13⟩ := hw'; go_simp; try with_reducible rfl
          try simp only [Act.put, List.setIfInBounds_toArray, List.set_cons_zero, List.set_cons_succ]
          refine wpAnyH_takeD (some 15) (i := 12) (v := ?_) rfl rfl (by kernel_rfl) (by kernel_rfl) (by kernel_rfl) (fun _ _ _ h => h) (.inl ⟨by kernel_rfl, ?_⟩) s1 ?_
          rotate_left
          · intro w' hw'; obtain ⟨hw1, hw2, hw3, hw4, hw5, hw6, hw7, hw8, hw9, hw10, hw11, hw12, hw13⟩ := hw'; go_simp; try with_reducible rfl
          try simp only [Act.put, List.setIfInBounds_toArray, List.set_cons_zero, List.set_cons_succ]
          refine wpAnyH_takeD (some 16) (i := 13) (v := ?_) rfl rfl (by kernel_rfl) (by kernel_rfl) (by kernel_rfl) (fun _ _ _ h => h) (.inl ⟨by kernel_rfl, ?_⟩) s1 ?_
          rotate_left
          · intro w' hw'; obtain ⟨hw1, hw2, hw3, hw4, hw5, hw6, hw7, hw8, hw9, hw10, hw11, hw12, hw13⟩ := hw'; go_simp; try with_reducible rfl
          try simp only [Act.put, List.setIfInBounds_toArray, List.set_cons_zero, List.set_cons_succ]
          refine wpAnyH_takeD (some 17) (i := 14) (v := ?_) rfl rfl (by kernel_rfl) (by kernel_rfl) (by kernel_rfl) (fun _ _ _ h => h) (.inl ⟨by kernel_rfl, ?_⟩) s1 ?_
          rotate_left
          · intro w' hw'; obtain ⟨hw1, hw2, hw3, hw4, hw5, hw6, hw7, hw8, hw9, hw10, hw11, hw12, hw13⟩ := hw'; go_simp; try with_reducible rfl
          try simp only [Act.put, List.setIfInBounds_toArray, List.set_cons_zero, List.set_cons_succ]
          refine wpAnyH_takeD (some 18) (i := 15) (v := ?_) rfl rfl (by kernel_rfl) (by kernel_rfl) (by kernel_rfl) (fun _ _ _ h => h) (.inl ⟨by kernel_rfl, ?_⟩) s1 ?_
          rotate_left
          · intro w' hw'; obtain ⟨hw1, hw2, hw3, hw4, hw5, hw6, hw7, hw8, hw9, hw10, hw11, hw12, hw13⟩ := hw'; go_simp; try with_reducible rfl
          try simp only [Act.put, List.setIfInBounds_toArray, List.set_cons_zero, List.set_cons_succ]
          refine wpAnyH_takeD (some 19) (i := 16) (v := ?_) rfl rfl (by kernel_rfl) (by kernel_rfl) (by kernel_rfl) (fun _ _ _ h => h) (.inl ⟨by kernel_rfl, ?_⟩) s1 ?_
          rotate_left
          · intro w' hw'; obtain ⟨hw1, hw2, hw3, hw4, hw5, hw6, hw7, hw8, hw9, hw10, hw11, hw12, hw13⟩ := hw'; go_simp; try with_reducible rfl
          try simp only [Act.put, List.setIfInBounds_toArray, List.set_cons_zero, List.set_cons_succ]
          refine wpAnyH_takeD (some 20) (i := 17) (v := ?_) rfl rfl (by kernel_rfl) (by kernel_rfl) (by kernel_rfl) (fun _ _ _ h => h) (.inl ⟨by kernel_rfl, ?_⟩) s1 ?_
          rotate_left
          · intro w' hw'; obtain ⟨hw1, hw2, hw3, hw4, hw5, hw6, hw7, hw8, hw9, hw10, hw11, hw12, hw13⟩ := hw'; go_simp; try with_reducible rfl
          try simp only [Act.put, List.setIfInBounds_toArray, List.set_cons_zero, List.set_cons_succ]
          refine wpAnyH_takeD (some 21) (i := 18) (v := ?_) rfl rfl (by kernel_rfl) (by kernel_rfl) (by kernel_rfl) (fun _ _ _ h => h) (.inl ⟨by kernel_rfl, ?_⟩) s1 ?_
          rotate_left
          · intro w' hw'; obtain ⟨hw1, hw2, hw3, hw4, hw5, hw6, hw7, hw8, hw9, hw10, hw11, hw12, hw13⟩ := hw'; go_simp; try with_reducible rfl
          try simp only [Act.put, List.setIfInBounds_toArray, List.set_cons_zero, List.set_cons_succ]
          refine wpAnyH_all (rs := [19]) (by kernel_rfl) (by simp) ?_
          intro i hi; simp only [List.mem_singleton] at hi; subst hi
          refine wpOp_step rfl (fun K hK => ?_)
          go_simp
          with_reducible refine (HZ.out _ s1).mono ?_
          rintro e vs2 ⟨rfl, hvs2⟩
          have s2 := hvs2
          refine hK _ _ ⟨s2, ?_⟩
          try simp only [Act.put, List.setIfInBounds_toArray, List.set_cons_zero, List.set_cons_succ]
          refine wpAnyH_takeD (some 23) (i := 20) (v := ?_) rfl rfl (by kernel_rfl) (by kernel_rfl) (by kernel_rfl) (fun _ _ _ h => h) (.inl ⟨by kernel_rfl, ?_⟩) s2 ?_
          rotate_left
          · intro w' hw'; obtain ⟨hw1, hw2, hw3, hw4, hw5, hw6, hw7, hw8, hw9, hw10, hw11, hw12, hw13⟩ := hw'; go_simp; try with_reducible rfl
          try simp only [Act.put, List.setIfInBounds_toArray, List.set_cons_zero, List.set_cons_succ]
          refine wpAnyH_all (rs := [21]) (by kernel_rfl) (by simp) ?_
          intro i hi; simp only [List.mem_singleton] at hi; subst hi
          refine wpOp_step rfl (fun K hK => ?_)
          go_simp
          with_reducible refine (H1.out _ s2).mono ?_
          rintro e vs3 ⟨rfl, hvs3⟩
          have s3 := hvs3
          refine hK _ _ ⟨s3, ?_⟩
          try simp only [Act.put, List.setIfInBounds_toArray, List.set_cons_zero, List.set_cons_succ]
          refine wpAnyH_takeD (some 25) (i := 22) (v := ?_) rfl rfl (by kernel_rfl) (by kernel_rfl) (by kernel_rfl) (fun _ _ _ h => h) (.inl ⟨by kernel_rfl, ?_⟩) s3 ?_
          rotate_left
          · intro w' hw'; obtain ⟨hw1, hw2, hw3, hw4, hw5, hw6, hw7, hw8, hw9, hw10, hw11, hw12, hw13⟩ := hw'; go_simp; try with_reducible rfl
          try simp only [Act.put, List.setIfInBounds_toArray, List.set_cons_zero, List.set_cons_succ]
          refine wpAnyH_takeD (some 26) (i := 23) (v := ?_) rfl rfl (by kernel_rfl) (by kernel_rfl) (by kernel_rfl) (fun _ _ _ h => h) (.inl ⟨by kernel_rfl, ?_⟩) s3 ?_
          rotate_left
          · intro w' hw'; obtain ⟨hw1, hw2, hw3, hw4, hw5, hw6, hw7, hw8, hw9, hw10, hw11, hw12, hw13⟩ := hw'; go_simp; try with_reducible rfl
          try simp only [Act.put, List.setIfInBounds_toArray, List.set_cons_zero, List.set_cons_succ]
          refine wpAnyH_takeD (some 27) (i := 24) (v := ?_) rfl rfl (by kernel_rfl) (by kernel_rfl) (by kernel_rfl) (fun _ _ _ h => h) (.inl ⟨by kernel_rfl, ?_⟩) s3 ?_
          rotate_left
          · intro w' hw'; obtain ⟨hw1, hw2, hw3, hw4, hw5, hw6, hw7, hw8, hw9, hw10, hw11, hw12, hw13⟩ := hw'; go_simp; try with_reducible rfl
          try simp only [Act.put, List.setIfInBounds_toArray, List.set_cons_zero, List.set_cons_succ]
          refine wpAnyH_takeD (some 28) (i := 25) (v := ?_) rfl rfl (by kernel_rfl) (by kernel_rfl) (by kernel_rfl) (fun _ _ _ h => h) (.inl ⟨by kernel_rfl, ?_⟩) s3 ?_
          rotate_left
          · intro w' hw'; obtain ⟨hw1, hw2, hw3, hw4, hw5, hw6, hw7, hw8, hw9, hw10, hw11, hw12, hw13⟩ := hw'; go_simp; try with_reducible rfl
          try simp only [Act.put, List.setIfInBounds_toArray, List.set_cons_zero, List.set_cons_succ]
          refine wpAnyH_takeD (some 29) (i := 26) (v := ?_) rfl rfl (by kernel_rfl) (by kernel_rfl) (by kernel_rfl) (fun _ _ _ h => h) (.inl ⟨by kernel_rfl, ?_⟩) s3 ?_
          rotate_left
          · intro w' hw'; obtain ⟨hw1, hw2, hw3, hw4, hw5, hw6, hw7, hw8, hw9, hw10, hw11, hw12, hw13⟩ := hw'; go_simp; try with_reducible rfl
          try simp only [Act.put, List.setIfInBounds_toArray, List.set_cons_zero, List.set_cons_succ]
          refine wpAnyH_takeD (some 30) (i := 27) (v := ?_) rfl rfl (by kernel_rfl) (by kernel_rfl) (by kernel_rfl) (fun _ _ _ h => h) (.inl ⟨by kernel_rfl, ?_⟩) s3 ?_
          rotate_left
          · intro w' hw'; obtain ⟨hw1, hw2, hw3, hw4, hw5, hw6, hw7, hw8, hw9, hw10, hw11, hw12, hw13⟩ := hw'; go_simp; try with_reducible rfl
          try simp only [Act.put, List.setIfInBounds_toArray, List.set_cons_zero, List.set_cons_succ]
          refine wpAnyH_takeD (some 31) (i := 28) (v := ?_) rfl rfl (by kernel_rfl) (by kernel_rfl) (by kernel_rfl) (fun _ _ _ h => h) (.inl ⟨by kernel_rfl, ?_⟩) s3 ?_
          rotate_left
          · intro w' hw'; obtain ⟨hw1, hw2, hw3, hw4, hw5, hw6, hw7, hw8, hw9, hw10, hw11, hw12, hw13⟩ := hw'; go_simp; try with_reducible rfl
          try simp only [Act.put, List.setIfInBounds_toArray, List.set_cons_zero, List.set_cons_succ]
          refine wpAnyH_all (rs := [29]) (by kernel_rfl) (by simp) ?_
          intro i hi; simp only [List.mem_singleton] at hi; subst hi
          refine wpOp_step rfl (fun K hK => ?_)
          go_simp
          with_reducible refine (H2.out _ s3).mono ?_
          rintro e vs4 ⟨rfl, hvs4⟩
          have s4 := hvs4
          refine hK _ _ ⟨s4, ?_⟩
          try simp only [Act.put, List.setIfInBounds_toArray, List.set_cons_zero, List.set_cons_succ]
          refine wpAnyH_takeD (some 33) (i := 30) (v := ?_) rfl rfl (by kernel_rfl) (by kernel_rfl) (by kernel_rfl) (fun _ _ _ h => h) (.inl ⟨by kernel_rfl, ?_⟩) s4 ?_
          rotate_left
          · intro w' hw'; obtain ⟨hw1, hw2, hw3, hw4, hw5, hw6, hw7, hw8, hw9, hw10, hw11, hw12, hw13⟩ := hw'; go_simp; try with_reducible rfl
          try simp only [Act.put, List.setIfInBounds_toArray, List.set_cons_zero, List.set_cons_succ]
          refine wpAnyH_takeD (some 34) (i := 31) (v := ?_) rfl rfl (by kernel_rfl) (by kernel_rfl) (by kernel_rfl) (fun _ _ _ h => h) (.inl ⟨by kernel_rfl, ?_⟩) s4 ?_
          rotate_left
          · intro w' hw'; obtain ⟨hw1, hw2, hw3, hw4, hw5, hw6, hw7, hw8, hw9, hw10, hw11, hw12, hw13⟩ := hw'; go_simp; try with_reducible rfl
          try simp only [Act.put, List.setIfInBounds_toArray, List.set_cons_zero, List.set_cons_succ]
          refine wpAnyH_done (by kernel_rfl) ?_ _
          have HS1 := hid (HSD.out _ hvs4)
          clear hvs4
          go_wp2_with fail
          refine wp_region_held (S := (fun w' : World => Below w.heap.size w w' ∧ w'.cell? ⟨g, 0, none⟩ = some (.slice (some ⟨B, 0, none⟩) n cap) ∧ w'.cell? ⟨g, 1, none⟩ = some (.int .u8 d0) ∧ w'.cell? ⟨g, 2, none⟩ = some (.int .u8 d1) ∧ w'.cell? ⟨g, 3, none⟩ = some (.int .u8 d2) ∧ w'.cell? ⟨g, 4, none⟩ = some (.int .u8 d3) ∧ w'.cell? ⟨g, 5, none⟩ = some (.int .u8 d4) ∧ w'.cell? ⟨g, 6, none⟩ = some (.int .u8 d5) ∧ w'.cell? ⟨g, 7, none⟩ = some (.int .u8 d6) ∧ w'.cell? ⟨g, 8, none⟩ = some (.int .u8 d7) ∧ w'.cell? ⟨g, 9, none⟩ = some (.int .i64 pr) ∧ w'.cell? ⟨g, 10, none⟩ = some (.bool true) ∧ w'.cell? ⟨g, 11, none⟩ = some (.int .i64 tk))) (by kernel_rfl) ?_
          change wpAnyH _ _ _ _ _ _ _ _ (World.drew _)
          have t0 : ((fun w' : World => Below w.heap.size w w' ∧ w'.cell? ⟨g, 0, none⟩ = some (.slice (some ⟨B, 0, none⟩) n cap) ∧ w'.cell? ⟨g, 1, none⟩ = some (.int .u8 d0) ∧ w'.cell? ⟨g, 2, none⟩ = some (.int .u8 d1) ∧ w'.cell? ⟨g, 3, none⟩ = some (.int .u8 d2) ∧ w'.cell? ⟨g, 4, none⟩ = some (.int .u8 d3) ∧ w'.cell? ⟨g, 5, none⟩ = some (.int .u8 d4) ∧ w'.cell? ⟨g, 6, none⟩ = some (.int .u8 d5) ∧ w'.cell? ⟨g, 7, none⟩ = some (.int .u8 d6) ∧ w'.cell? ⟨g, 8, none⟩ = some (.int .u8 d7) ∧ w'.cell? ⟨g, 9, none⟩ = some (.int .i64 pr) ∧ w'.cell? ⟨g, 10, none⟩ = some (.bool true) ∧ w'.cell? ⟨g, 11, none⟩ = some (.int .i64 tk))) _ := HS1.out
          refine wpAnyH_takeD (some 35) (i := 0) (v := ?_) rfl rfl (by kernel_rfl) (by kernel_rfl) (by kernel_rfl) (fun _ _ _ h => h) (.inl ⟨by kernel_rfl, ?_⟩) t0 ?_
          rotate_left
          · intro w' hw'; obtain ⟨hw1, hw2, hw3, hw4, hw5, hw6, hw7, hw8, hw9, hw10, hw11, hw12, hw13⟩ := hw'; go_simp; try with_reducible rfl
          try simp only [Act.put, List.setIfInBounds_toArray, List.set_cons_zero, List.set_cons_succ]
          refine wpAnyH_takeD (some 36) (i := 1) (v := ?_) rfl rfl (by kernel_rfl) (by kernel_rfl) (by kernel_rfl) (fun _ _ _ h => h) (.inl ⟨by kernel_rfl, ?_⟩) t0 ?_
          rotate_left
          · intro w' hw'; obtain ⟨hw1, hw2, hw3, hw4, hw5, hw6, hw7, hw8, hw9, hw10, hw11, hw12, hw13⟩ := hw'; go_simp; try with_reducible rfl
          try simp only [Act.put, List.setIfInBounds_toArray, List.set_cons_zero, List.set_cons_succ]
          refine wpAnyH_takeD (some 37) (i := 2) (v := ?_) rfl rfl (by kernel_rfl) (by kernel_rfl) (by kernel_rfl) (fun _ _ _ h => h) (.inl ⟨by kernel_rfl, ?_⟩) t0 ?_
          rotate_left
          · intro w' hw'; obtain ⟨hw1, hw2, hw3, hw4, hw5, hw6, hw7, hw8, hw9, hw10, hw11, hw12, hw13⟩ := hw'; go_simp; try with_reducible rfl
          try simp only [Act.put, List.setIfInBounds_toArray, List.set_cons_zero, List.set_cons_succ]
          refine wpAnyH_takeD (some 38) (i := 3) (v := ?_) rfl rfl (by kernel_rfl) (by kernel_rfl) (by kernel_rfl) (fun _ _ _ h => h) (.inl ⟨by kernel_rfl, ?_⟩) t0 ?_
          rotate_left
          · intro w' hw'; obtain ⟨hw1, hw2, hw3, hw4, hw5, hw6, hw7, hw8, hw9, hw10, hw11, hw12, hw13⟩ := hw'; go_simp; try with_reducible rfl
          try simp only [Act.put, List.setIfInBounds_toArray, List.set_cons_zero, List.set_cons_succ]
          refine wpAnyH_takeD (some 39) (i := 4) (v := ?_) rfl rfl (by kernel_rfl) (by kernel_rfl) (by kernel_rfl) (fun _ _ _ h => h) (.inl ⟨by kernel_rfl, ?_⟩) t0 ?_
          rotate_left
          · intro w' hw'; obtain ⟨hw1, hw2, hw3, hw4, hw5, hw6, hw7, hw8, hw9, hw10, hw11, hw12, hw13⟩ := hw'; go_simp; try with_reducible rfl
          try simp only [Act.put, List.setIfInBounds_toArray, List.set_cons_zero, List.set_cons_succ]
          refine wpAnyH_takeD (some 40) (i := 5) (v := ?_) rfl rfl (by kernel_rfl) (by kernel_rfl) (by kernel_rfl) (fun _ _ _ h => h) (.inl ⟨by kernel_rfl, ?_⟩) t0 ?_
          rotate_left
          · intro w' hw'; obtain ⟨hw1, hw2, hw3, hw4, hw5, hw6, hw7, hw8, hw9, hw10, hw11, hw12, hw13⟩ := hw'; go_simp; try with_reducible rfl
          try simp only [Act.put, List.setIfInBounds_toArray, List.set_cons_zero, List.set_cons_succ]
          refine wpAnyH_takeD (some 41) (i := 6) (v := ?_) rfl rfl (by kernel_rfl) (by kernel_rfl) (by kernel_rfl) (fun _ _ _ h => h) (.inl ⟨by kernel_rfl, ?_⟩) t0 ?_
          rotate_left
          · intro w' hw'; obtain ⟨hw1, hw2, hw3, hw4, hw5, hw6, hw7, hw8, hw9, hw10, hw11, hw12, hw13⟩ := hw'; go_simp; try with_reducible rfl
          try simp only [Act.put, List.setIfInBounds_toArray, List.set_cons_zero, List.set_cons_succ]
          refine wpAnyH_takeD (some 42) (i := 7) (v := ?_) rfl rfl (by kernel_rfl) (by kernel_rfl) (by kernel_rfl) (fun _ _ _ h => h) (.inl ⟨by kernel_rfl, ?_⟩) t0 ?_
          rotate_left
          · intro w' hw'; obtain ⟨hw1, hw2, hw3, hw4, hw5, hw6, hw7, hw8, hw9, hw10, hw11, hw12, hw13⟩ := hw'; go_simp; try with_reducible rfl
          try simp only [Act.put, List.setIfInBounds_toArray, List.set_cons_zero, List.set_cons_succ]
          refine wpAnyH_takeD (some 43) (i := 8) (v := ?_) rfl rfl (by kernel_rfl) (by kernel_rfl) (by kernel_rfl) (fun _ _ _ h => h) (.inl ⟨by kernel_rfl, ?_⟩) t0 ?_
          rotate_left
          · intro w' hw'; obtain ⟨hw1, hw2, hw3, hw4, hw5, hw6, hw7, hw8, hw9, hw10, hw11, hw12, hw13⟩ := hw'; go_simp; try with_reducible rfl
          try simp only [Act.put, List.setIfInBounds_toArray, List.set_cons_zero, List.set_cons_succ]
          refine wpAnyH_takeD (some 44) (i := 9) (v := ?_) rfl rfl (by kernel_rfl) (by kernel_rfl) (by kernel_rfl) (fun _ _ _ h => h) (.inl ⟨by kernel_rfl, ?_⟩) t0 ?_
          rotate_left
          · intro w' hw'; obtain ⟨hw1, hw2, hw3, hw4, hw5, hw6, hw7, hw8, hw9, hw10, hw11, hw12, hw13⟩ := hw'; go_simp; try with_reducible rfl
          try simp only [Act.put, List.setIfInBounds_toArray, List.set_cons_zero, List.set_cons_succ]
          refine wpAnyH_takeD (some 45) (i := 10) (v := ?_) rfl rfl (by kernel_rfl) (by kernel_rfl) (by kernel_rfl) (fun _ _ _ h => h) (.inl ⟨by kernel_rfl, ?_⟩) t0 ?_
          rotate_left
          · intro w' hw'; obtain ⟨hw1, hw2, hw3, hw4, hw5, hw6, hw7, hw8, hw9, hw10, hw11, hw12, hw13⟩ := hw'; go_simp; try with_reducible rfl
          try simp only [Act.put, List.setIfInBounds_toArray, List.set_cons_zero, List.set_cons_succ]
          refine wpAnyH_takeD (some 46) (i := 11) (v := ?_) rfl rfl (by kernel_rfl) (by kernel_rfl) (by kernel_rfl) (fun _ _ _ h => h) (.inl ⟨by kernel_rfl, ?_⟩) t0 ?_
          rotate_left
          · intro w' hw'; obtain ⟨hw1, hw2, hw3, hw4, hw5, hw6, hw7, hw8, hw9, hw10, hw11, hw12, hw13⟩ := hw'; go_simp; try with_reducible rfl
          try simp only [Act.put, List.setIfInBounds_toArray, List.set_cons_zero, List.set_cons_succ]
          refine wpAnyH_takeD (some 47) (i := 12) (v := ?_) rfl rfl (by kernel_rfl) (by kernel_rfl) (by kernel_rfl) (fun _ _ _ h => h) (.inl ⟨by kernel_rfl, ?_⟩) t0 ?_
          rotate_left
          · intro w' hw'; obtain ⟨hw1, hw2, hw3, hw4, hw5, hw6, hw7, hw8, hw9, hw10, hw11, hw12, hw13⟩ := hw'; go_simp; try with_reducible rfl
          try simp only [Act.put, List.setIfInBounds_toArray, List.set_cons_zero, List.set_cons_succ]
          refine wpAnyH_takeD (some 48) (i := 13) (v := ?_) rfl rfl (by kernel_rfl) (by kernel_rfl) (by kernel_rfl) (fun _ _ _ h => h) (.inl ⟨by kernel_rfl, ?_⟩) t0 ?_
          rotate_left
          · intro w' hw'; obtain ⟨hw1, hw2, hw3, hw4, hw5, hw6, hw7, hw8, hw9, hw10, hw11, hw12, hw13⟩ := hw'; go_simp; try with_reducible rfl
          try simp only [Act.put, List.setIfInBounds_toArray, List.set_cons_zero, List.set_cons_succ]
          refine wpAnyH_takeD (some 49) (i := 14) (v := ?_) rfl rfl (by kernel_rfl) (by kernel_rfl) (by kernel_rfl) (fun _ _ _ h => h) (.inl ⟨by kernel_rfl, ?_⟩) t0 ?_
          rotate_left
          · intro w' hw'; obtain ⟨hw1, hw2, hw3, hw4, hw5, hw6, hw7, hw8, hw9, hw10, hw11, hw12, hw13⟩ := hw'; go_simp; try with_reducible rfl
          try simp only [Act.put, List.setIfInBounds_toArray, List.set_cons_zero, List.set_cons_succ]
          refine wpAnyH_takeD (some 50) (i := 15) (v := ?_) rfl rfl (by kernel_rfl) (by kernel_rfl) (by kernel_rfl) (fun _ _ _ h => h) (.inl ⟨by kernel_rfl, ?_⟩) t0 ?_
          rotate_left
          · intro w' hw'; obtain ⟨hw1, hw2, hw3, hw4, hw5, hw6, hw7, hw8, hw9, hw10, hw11, hw12, hw13⟩ := hw'; go_simp; try with_reducible rfl
          try simp only [Act.put, List.setIfInBounds_toArray, List.set_cons_zero, List.set_cons_succ]
          refine wpAnyH_takeD (some 51) (i := 16) (v := ?_) rfl rfl (by kernel_rfl) (by kernel_rfl) (by kernel_rfl) (fun _ _ _ h => h) (.inl ⟨by kernel_rfl, ?_⟩) t0 ?_
          rotate_left
          · intro w' hw'; obtain ⟨hw1, hw2, hw3, hw4, hw5, hw6, hw7, hw8, hw9, hw10, hw11, hw12, hw13⟩ := hw'; go_simp; try with_reducible rfl
          try simp only [Act.put, List.setIfInBounds_toArray, List.set_cons_zero, List.set_cons_succ]
          refine wpAnyH_takeD (some 52) (i := 17) (v := ?_) rfl rfl (by kernel_rfl) (by kernel_rfl) (by kernel_rfl) (fun _ _ _ h => h) (.inl ⟨by kernel_rfl, ?_⟩) t0 ?_
          rotate_left
          · intro w' hw'; obtain ⟨hw1, hw2, hw3, hw4, hw5, hw6, hw7, hw8, hw9, hw10, hw11, hw12, hw13⟩ := hw'; go_simp; try with_reducible rfl
          try simp only [Act.put, List.setIfInBounds_toArray, List.set_cons_zero, List.set_cons_succ]
          refine wpAnyH_all (rs := [18]) (by kernel_rfl) (by simp) ?_
          intro i hi; simp only [List.mem_singleton] at hi; subst hi
          refine wpOp_step rfl (fun K hK => ?_)
          go_simp
          with_reducible refine (HL.out _ t0).mono ?_
          rintro e vt1 ⟨rfl, hvt1⟩
          have t1 := hvt1
          refine hK _ _ ⟨t1, ?_⟩
          try simp only [Act.put, List.setIfInBounds_toArray, List.set_cons_zero, List.set_cons_succ]
          refine wpAnyH_takeD (some 54) (i := 19) (v := ?_) rfl rfl (by kernel_rfl) (by kernel_rfl) (by kernel_rfl) (fun _ _ _ h => h) (.inl ⟨by kernel_rfl, ?_⟩) t1 ?_
          rotate_left
          · intro w' hw'; obtain ⟨hw1, hw2, hw3, hw4, hw5, hw6, hw7, hw8, hw9, hw10, hw11, hw12, hw13⟩ := hw'; go_simp; try with_reducible rfl
          try simp only [Act.put, List.setIfInBounds_toArray, List.set_cons_zero, List.set_cons_succ]
          refine wpAnyH_takeD (some 55) (i := 20) (v := ?_) rfl rfl (by kernel_rfl) (by kernel_rfl) (by kernel_rfl) (fun _ _ _ h => h) (.inl ⟨by kernel_rfl, ?_⟩) t1 ?_
          rotate_left
          · intro w' hw'; obtain ⟨hw1, hw2, hw3, hw4, hw5, hw6, hw7, hw8, hw9, hw10, hw11, hw12, hw13⟩ := hw'; go_simp; try with_reducible rfl
          try simp only [Act.put, List.setIfInBounds_toArray, List.set_cons_zero, List.set_cons_succ]
          refine wpAnyH_takeD (some 2) (i := 21) (v := ?_) rfl rfl (by kernel_rfl) (by kernel_rfl) (by kernel_rfl) (fun _ _ _ h => h) (.inl ⟨by kernel_rfl, ?_⟩) t1 ?_
          rotate_left
          · intro w' hw'; obtain ⟨hw1, hw2, hw3, hw4, hw5, hw6, hw7, hw8, hw9, hw10, hw11, hw12, hw13⟩ := hw'; go_simp; try with_reducible rfl
          try simp only [Act.put, List.setIfInBounds_toArray, List.set_cons_zero, List.set_cons_succ]
          refine wpAnyH_done (by kernel_rfl) ?_ _
          go_wp2_with fail
          go_ret
          exact ⟨rfl, t1.1⟩
      · have e2 : (decide (0 ≤ tk) && decide (tk ≤ 1000000)) = false := by simpa using fun a => by omega
        rw [e2] at H2
        rw [okDev_tickets c2]
        obtain ⟨z, hz⟩ : ∃ z, szL zs = z := ⟨_, rfl⟩
        rw [hz] at H1 HZ z1 z2
        have tz : IntKind.i64.wrap (z - 1) = z - 1 := IntWalk.i64_in _ (by omega)
        clear hv hzz cc1 c2 e1 e2 hz HL
        go_enter Try.func42, Try.ntmps42
        go_wp2_with fail
        
        refine wp_region_held (S := (fun w' : World => Below w.heap.size w w' ∧ w'.cell? ⟨g, 0, none⟩ = some (.slice (some ⟨B, 0, none⟩) n cap) ∧ w'.cell? ⟨g, 1, none⟩ = some (.int .u8 d0) ∧ w'.cell? ⟨g, 2, none⟩ = some (.int .u8 d1) ∧ w'.cell? ⟨g, 3, none⟩ = some (.int .u8 d2) ∧ w'.cell? ⟨g, 4, none⟩ = some (.int .u8 d3) ∧ w'.cell? ⟨g, 5, none⟩ = some (.int .u8 d4) ∧ w'.cell? ⟨g, 6, none⟩ = some (.int .u8 d5) ∧ w'.cell? ⟨g, 7, none⟩ = some (.int .u8 d6) ∧ w'.cell? ⟨g, 8, none⟩ = some (.int .u8 d7) ∧ w'.cell? ⟨g, 9, none⟩ = some (.int .i64 pr) ∧ w'.cell? ⟨g, 10, none⟩ = some (.bool st) ∧ w'.cell? ⟨g, 11, none⟩ = some (.int .i64 tk))) (by kernel_rfl) ?_
        change wpAnyH _ _ _ _ _ _ _ _ (World.drew _)
        have s0 : ((fun w' : World => Below w.heap.size w w' ∧ w'.cell? ⟨g, 0, none⟩ = some (.slice (some ⟨B, 0, none⟩) n cap) ∧ w'.cell? ⟨g, 1, none⟩ = some (.int .u8 d0) ∧ w'.cell? ⟨g, 2, none⟩ = some (.int .u8 d1) ∧ w'.cell? ⟨g, 3, none⟩ = some (.int .u8 d2) ∧ w'.cell? ⟨g, 4, none⟩ = some (.int .u8 d3) ∧ w'.cell? ⟨g, 5, none⟩ = some (.int .u8 d4) ∧ w'.cell? ⟨g, 6, none⟩ = some (.int .u8 d5) ∧ w'.cell? ⟨g, 7, none⟩ = some (.int .u8 d6) ∧ w'.cell? ⟨g, 8, none⟩ = some (.int .u8 d7) ∧ w'.cell? ⟨g, 9, none⟩ = some (.int .i64 pr) ∧ w'.cell? ⟨g, 10, none⟩ = some (.bool st) ∧ w'.cell? ⟨g, 11, none⟩ = some (.int .i64 tk))) _ := HS0.out
        refine wpAnyH_takeD (some 3) (i := 0) (v := ?_) rfl rfl (by kernel_rfl) (by kernel_rfl) (by kernel_rfl) (fun _ _ _ h => h) (.inl ⟨by kernel_rfl, ?_⟩) s0 ?_
        rotate_left
        · intro w' hw'; obtain ⟨hw1, hw2, hw3, hw4, hw5, hw6, hw7, hw8, hw9, hw10, hw11, hw12, hw13⟩ := hw'; go_simp; try with_reducible rfl
        try simp only [Act.put, List.setIfInBounds_toArray, List.set_cons_zero, List.set_cons_succ]
        refine wpAnyH_takeD (some 4) (i := 1) (v := ?_) rfl rfl (by kernel_rfl) (by kernel_rfl) (by kernel_rfl) (fun _ _ _ h => h) (.inl ⟨by kernel_rfl, ?_⟩) s0 ?_
        rotate_left
        · intro w' hw'; obtain ⟨hw1, hw2, hw3, hw4, hw5, hw6, hw7, hw8, hw9, hw10, hw11, hw12, hw13⟩ := hw'; go_simp; try with_reducible rfl
        try simp only [Act.put, List.setIfInBounds_toArray, List.set_cons_zero, List.set_cons_succ]
        refine wpAnyH_takeD (some 5) (i := 2) (v := ?_) rfl rfl (by kernel_rfl) (by kernel_rfl) (by kernel_rfl) (fun _ _ _ h => h) (.inl ⟨by kernel_rfl, ?_⟩) s0 ?_
        rotate_left
        · intro w' hw'; obtain ⟨hw1, hw2, hw3, hw4, hw5, hw6, hw7, hw8, hw9, hw10, hw11, hw12, hw13⟩ := hw'; go_simp; try with_reducible rfl
        try simp only [Act.put, List.setIfInBounds_toArray, List.set_cons_zero, List.set_cons_succ]
        refine wpAnyH_takeD (some 6) (i := 3) (v := ?_) rfl rfl (by kernel_rfl) (by kernel_rfl) (by kernel_rfl) (fun _ _ _ h => h) (.inl ⟨by kernel_rfl, ?_⟩) s0 ?_
        rotate_left
        · intro w' hw'; obtain ⟨hw1, hw2, hw3, hw4, hw5, hw6, hw7, hw8, hw9, hw10, hw11, hw12, hw13⟩ := hw'; go_simp; try with_reducible rfl
        try simp only [Act.put, List.setIfInBounds_toArray, List.set_cons_zero, List.set_cons_succ]
        refine wpAnyH_takeD (some 7) (i := 4) (v := ?_) rfl rfl (by kernel_rfl) (by kernel_rfl) (by kernel_rfl) (fun _ _ _ h => h) (.inl ⟨by kernel_rfl, ?_⟩) s0 ?_
        rotate_left
        · intro w' hw'; obtain ⟨hw1, hw2, hw3, hw4, hw5, hw6, hw7, hw8, hw9, hw10, hw11, hw12, hw13⟩ := hw'; go_simp; try with_reducible rfl
        try simp only [Act.put, List.setIfInBounds_toArray, List.set_cons_zero, List.set_cons_succ]
        refine wpAnyH_takeD (some 8) (i := 5) (v := ?_) rfl rfl (by kernel_rfl) (by kernel_rfl) (by kernel_rfl) (fun _ _ _ h => h) (.inl ⟨by kernel_rfl, ?_⟩) s0 ?_
        rotate_left
        · intro w' hw'; obtain ⟨hw1, hw2, hw3, hw4, hw5, hw6, hw7, hw8, hw9, hw10, hw11, hw12, hw13⟩ := hw'; go_simp; try with_reducible rfl
        try simp only [Act.put, List.setIfInBounds_toArray, List.set_cons_zero, List.set_cons_succ]
        refine wpAnyH_takeD (some 9) (i := 6) (v := ?_) rfl rfl (by kernel_rfl) (by kernel_rfl) (by kernel_rfl) (fun _ _ _ h => h) (.inl ⟨by kernel_rfl, ?_⟩) s0 ?_
        rotate_left
        · intro w' hw'; obtain ⟨hw1, hw2, hw3, hw4, hw5, hw6, hw7, hw8, hw9, hw10, hw11, hw12, hw13⟩ := hw'; go_simp; try with_reducible rfl
        try simp only [Act.put, List.setIfInBounds_toArray, List.set_cons_zero, List.set_cons_succ]
        refine wpAnyH_takeD (some 10) (i := 7) (v := ?_) rfl rfl (by kernel_rfl) (by kernel_rfl) (by kernel_rfl) (fun _ _ _ h => h) (.inl ⟨by kernel_rfl, ?_⟩) s0 ?_
        rotate_left
        · intro w' hw'; obtain ⟨hw1, hw2, hw3, hw4, hw5, hw6, hw7, hw8, hw9, hw10, hw11, hw12, hw13⟩ := hw'; go_simp; try with_reducible rfl
        try simp only [Act.put, List.setIfInBounds_toArray, List.set_cons_zero, List.set_cons_succ]
        refine wpAnyH_all (rs := [8]) (by kernel_rfl) (by simp) ?_
        intro i hi; simp only [List.mem_singleton] at hi; subst hi
        refine wpOp_step rfl (fun K hK => ?_)
        go_simp
        with_reducible refine (HV.out _ s0).mono ?_
        rintro e vs1 ⟨rfl, hvs1⟩
        have s1 := hvs1
        refine hK _ _ ⟨s1, ?_⟩
        try simp only [Act.put, List.setIfInBounds_toArray, List.set_cons_zero, List.set_cons_succ]
        refine wpAnyH_takeD (some 12) (i := 9) (v := ?_) rfl rfl (by kernel_rfl) (by kernel_rfl) (by kernel_rfl) (fun _ _ _ h => h) (.inl ⟨by kernel_rfl, ?_⟩) s1 ?_
        rotate_left
        · intro w' hw'; obtain ⟨hw1, hw2, hw3, hw4, hw5, hw6, hw7, hw8, hw9, hw10, hw11, hw12, hw13⟩ := hw'; go_simp; try with_reducible rfl
        try simp only [Act.put, List.setIfInBounds_toArray, List.set_cons_zero, List.set_cons_succ]
        refine wpAnyH_takeD (some 13) (i := 10) (v := ?_) rfl rfl (by kernel_rfl) (by kernel_rfl) (by kernel_rfl) (fun _ _ _ h => h) (.inl ⟨by kernel_rfl, ?_⟩) s1 ?_
        rotate_left
        · intro w' hw'; obtain ⟨hw1, hw2, hw3, hw4, hw5, hw6, hw7, hw8, hw9, hw10, hw11, hw12, hw13⟩ := hw'; go_simp; try with_reducible rfl
        try simp only [Act.put, List.setIfInBounds_toArray, List.set_cons_zero, List.set_cons_succ]
        refine wpAnyH_takeD (some 14) (i := 11) (v := ?_) rfl rfl (by kernel_rfl) (by kernel_rfl) (by kernel_rfl) (fun _ _ _ h => h) (.inl ⟨by kernel_rfl, ?_⟩) s1 ?_
        rotate_left
        · intro w' hw'; obtain ⟨hw1, hw2, hw3, hw4, hw5, hw6, hw7, hw8, hw9, hw10, hw11, hw12, hw13⟩ := hw'; go_simp; try with_reducible rfl
        try simp only [Act.put, List.setIfInBounds_toArray, List.set_cons_zero, List.set_cons_succ]
        refine wpAnyH_takeD (some 15) (i := 12) (v := ?_) rfl rfl (by kernel_rfl) (by kernel_rfl) (by kernel_rfl) (fun _ _ _ h => h) (.inl ⟨by kernel_rfl, ?_⟩) s1 ?_
        rotate_left
        · intro w' hw'; obtain ⟨hw1, hw2, hw3, hw4, hw5, hw6, hw7, hw8, hw9, hw10, hw11, hw12, hw13⟩ := hw'; go_simp; try with_reducible rfl
        try simp only [Act.put, List.setIfInBounds_toArray, List.set_cons_zero, List.set_cons_succ]
        refine wpAnyH_takeD (some 16) (i := 13) (v := ?_) rfl rfl (by kernel_rfl) (by kernel_rfl) (by kernel_rfl) (fun _ _ _ h => h) (.inl ⟨by kernel_rfl, ?_⟩) s1 ?_
        rotate_left
        · intro w' hw'; obtain ⟨hw1, hw2, hw3, hw4, hw5, hw6, hw7, hw8, hw9, hw10, hw11, hw12, hw13⟩ := hw'; go_simp; try with_reducible rfl
        try simp only [Act.put, List.setIfInBounds_toArray, List.set_cons_zero, List.set_cons_succ]
        refine wpAnyH_takeD (some 17) (i := 14) (v := ?_) rfl rfl (by kernel_rfl) (by kernel_rfl) (by kernel_rfl) (fun _ _ _ h => h) (.inl ⟨by kernel_rfl, ?_⟩) s1 ?_
        rotate_left
        · intro w' hw'; obtain ⟨hw1, hw2, hw3, hw4, hw5, hw6, hw7, hw8, hw9, hw10, hw11, hw12, hw13⟩ := hw'; go_simp; try with_reducible rfl
        try simp only [Act.put, List.setIfInBounds_toArray, List.set_cons_zero, List.set_cons_succ]
        refine wpAnyH_takeD (some 18) (i := 15) (v := ?_) rfl rfl (by kernel_rfl) (by kernel_rfl) (by kernel_rfl) (fun _ _ _ h => h) (.inl ⟨by kernel_rfl, ?_⟩) s1 ?_
        rotate_left
        · intro w' hw'; obtain ⟨hw1, hw2, hw3, hw4, hw5, hw6, hw7, hw8, hw9, hw10, hw11, hw12, hw13⟩ := hw'; go_simp; try with_reducible rfl
        try simp only [Act.put, List.setIfInBounds_toArray, List.set_cons_zero, List.set_cons_succ]
        refine wpAnyH_takeD (some 19) (i := 16) (v := ?_) rfl rfl (by kernel_rfl) (by kernel_rfl) (by kernel_rfl) (fun _ _ _ h => h) (.inl ⟨by kernel_rfl, ?_⟩) s1 ?_
        rotate_left
        · intro w' hw'; obtain ⟨hw1, hw2, hw3, hw4, hw5, hw6, hw7, hw8, hw9, hw10, hw11, hw12, hw13⟩ := hw'; go_simp; try with_reducible rfl
        try simp only [Act.put, List.setIfInBounds_toArray, List.set_cons_zero, List.set_cons_succ]
        refine wpAnyH_takeD (some 20) (i := 17) (v := ?_) rfl rfl (by kernel_rfl) (by kernel_rfl) (by kernel_rfl) (fun _ _ _ h => h) (.inl ⟨by kernel_rfl, ?_⟩) s1 ?_
        rotate_left
        · intro w' hw'; obtain ⟨hw1, hw2, hw3, hw4, hw5, hw6, hw7, hw8, hw9, hw10, hw11, hw12, hw13⟩ := hw'; go_simp; try with_reducible rfl
        try simp only [Act.put, List.setIfInBounds_toArray, List.set_cons_zero, List.set_cons_succ]
        refine wpAnyH_takeD (some 21) (i := 18) (v := ?_) rfl rfl (by kernel_rfl) (by kernel_rfl) (by kernel_rfl) (fun _ _ _ h => h) (.inl ⟨by kernel_rfl, ?_⟩) s1 ?_
        rotate_left
        · intro w' hw'; obtain ⟨hw1, hw2, hw3, hw4, hw5, hw6, hw7, hw8, hw9, hw10, hw11, hw12, hw13⟩ := hw'; go_simp; try with_reducible rfl
        try simp only [Act.put, List.setIfInBounds_toArray, List.set_cons_zero, List.set_cons_succ]
        refine wpAnyH_all (rs := [19]) (by kernel_rfl) (by simp) ?_
        intro i hi; simp only [List.mem_singleton] at hi; subst hi
        refine wpOp_step rfl (fun K hK => ?_)
        go_simp
        with_reducible refine (HZ.out _ s1).mono ?_
        rintro e vs2 ⟨rfl, hvs2⟩
        have s2 := hvs2
        refine hK _ _ ⟨s2, ?_⟩
        try simp only [Act.put, List.setIfInBounds_toArray, List.set_cons_zero, List.set_cons_succ]
        refine wpAnyH_takeD (some 23) (i := 20) (v := ?_) rfl rfl (by kernel_rfl) (by kernel_rfl) (by kernel_rfl) (fun _ _ _ h => h) (.inl ⟨by kernel_rfl, ?_⟩) s2 ?_
        rotate_left
        · intro w' hw'; obtain ⟨hw1, hw2, hw3, hw4, hw5, hw6, hw7, hw8, hw9, hw10, hw11, hw12, hw13⟩ := hw'; go_simp; try with_reducible rfl
        try simp only [Act.put, List.setIfInBounds_toArray, List.set_cons_zero, List.set_cons_succ]
        refine wpAnyH_all (rs := [21]) (by kernel_rfl) (by simp) ?_
        intro i hi; simp only [List.mem_singleton] at hi; subst hi
        refine wpOp_step rfl (fun K hK => ?_)
        go_simp
        with_reducible refine (H1.out _ s2).mono ?_
        rintro e vs3 ⟨rfl, hvs3⟩
        have s3 := hvs3
        refine hK _ _ ⟨s3, ?_⟩
        try simp only [Act.put, List.setIfInBounds_toArray, List.set_cons_zero, List.set_cons_succ]
        refine wpAnyH_takeD (some 25) (i := 22) (v := ?_) rfl rfl (by kernel_rfl) (by kernel_rfl) (by kernel_rfl) (fun _ _ _ h => h) (.inl ⟨by kernel_rfl, ?_⟩) s3 ?_
        rotate_left
        · intro w' hw'; obtain ⟨hw1, hw2, hw3, hw4, hw5, hw6, hw7, hw8, hw9, hw10, hw11, hw12, hw13⟩ := hw'; go_simp; try with_reducible rfl
        try simp only [Act.put, List.setIfInBounds_toArray, List.set_cons_zero, List.set_cons_succ]
        refine wpAnyH_takeD (some 26) (i := 23) (v := ?_) rfl rfl (by kernel_rfl) (by kernel_rfl) (by kernel_rfl) (fun _ _ _ h => h) (.inl ⟨by kernel_rfl, ?_⟩) s3 ?_
        rotate_left
        · intro w' hw'; obtain ⟨hw1, hw2, hw3, hw4, hw5, hw6, hw7, hw8, hw9, hw10, hw11, hw12, hw13⟩ := hw'; go_simp; try with_reducible rfl
        try simp only [Act.put, List.setIfInBounds_toArray, List.set_cons_zero, List.set_cons_succ]
        refine wpAnyH_takeD (some 27) (i := 24) (v := ?_) rfl rfl (by kernel_rfl) (by kernel_rfl) (by kernel_rfl) (fun _ _ _ h => h) (.inl ⟨by kernel_rfl, ?_⟩) s3 ?_
        rotate_left
        · intro w' hw'; obtain ⟨hw1, hw2, hw3, hw4, hw5, hw6, hw7, hw8, hw9, hw10, hw11, hw12, hw13⟩ := hw'; go_simp; try with_reducible rfl
        try simp only [Act.put, List.setIfInBounds_toArray, List.set_cons_zero, List.set_cons_succ]
        refine wpAnyH_takeD (some 28) (i := 25) (v := ?_) rfl rfl (by kernel_rfl) (by kernel_rfl) (by kernel_rfl) (fun _ _ _ h => h) (.inl ⟨by kernel_rfl, ?_⟩) s3 ?_
        rotate_left
        · intro w' hw'; obtain ⟨hw1, hw2, hw3, hw4, hw5, hw6, hw7, hw8, hw9, hw10, hw11, hw12, hw13⟩ := hw'; go_simp; try with_reducible rfl
        try simp only [Act.put, List.setIfInBounds_toArray, List.set_cons_zero, List.set_cons_succ]
        refine wpAnyH_takeD (some 29) (i := 26) (v := ?_) rfl rfl (by kernel_rfl) (by kernel_rfl) (by kernel_rfl) (fun _ _ _ h => h) (.inl ⟨by kernel_rfl, ?_⟩) s3 ?_
        rotate_left
        · intro w' hw'; obtain ⟨hw1, hw2, hw3, hw4, hw5, hw6, hw7, hw8, hw9, hw10, hw11, hw12, hw13⟩ := hw'; go_simp; try with_reducible rfl
        try simp only [Act.put, List.setIfInBounds_toArray, List.set_cons_zero, List.set_cons_succ]
        refine wpAnyH_takeD (some 30) (i := 27) (v := ?_) rfl rfl (by kernel_rfl) (by kernel_rfl) (by kernel_rfl) (fun _ _ _ h => h) (.inl ⟨by kernel_rfl, ?_⟩) s3 ?_
        rotate_left
        · intro w' hw'; obtain ⟨hw1, hw2, hw3, hw4, hw5, hw6, hw7, hw8, hw9, hw10, hw11, hw12, hw13⟩ := hw'; go_simp; try with_reducible rfl
        try simp only [Act.put, List.setIfInBounds_toArray, List.set_cons_zero, List.set_cons_succ]
        refine wpAnyH_takeD (some 31) (i := 28) (v := ?_) rfl rfl (by kernel_rfl) (by kernel_rfl) (by kernel_rfl) (fun _ _ _ h => h) (.inl ⟨by kernel_rfl, ?_⟩) s3 ?_
        rotate_left
        · intro w' hw'; obtain ⟨hw1, hw2, hw3, hw4, hw5, hw6, hw7, hw8, hw9, hw10, hw11, hw12, hw13⟩ := hw'; go_simp; try with_reducible rfl
        try simp only [Act.put, List.setIfInBounds_toArray, List.set_cons_zero, List.set_cons_succ]
        refine wpAnyH_all (rs := [29]) (by kernel_rfl) (by simp) ?_
        intro i hi; simp only [List.mem_singleton] at hi; subst hi
        refine wpOp_step rfl (fun K hK => ?_)
        go_simp
        with_reducible refine (H2.out _ s3).mono ?_
        rintro e vs4 ⟨rfl, hvs4⟩
        have s4 := hvs4
        refine hK _ _ ⟨s4, ?_⟩
        try simp only [Act.put, List.setIfInBounds_toArray, List.set_cons_zero, List.set_cons_succ]
        refine wpAnyH_takeD (some 33) (i := 30) (v := ?_) rfl rfl (by kernel_rfl) (by kernel_rfl) (by kernel_rfl) (fun _ _ _ h => h) (.inl ⟨by kernel_rfl, ?_⟩) s4 ?_
        rotate_left
        · intro w' hw'; obtain ⟨hw1, hw2, hw3, hw4, hw5, hw6, hw7, hw8, hw9, hw10, hw11, hw12, hw13⟩ := hw'; go_simp; try with_reducible rfl
        try simp only [Act.put, List.setIfInBounds_toArray, List.set_cons_zero, List.set_cons_succ]
        refine wpAnyH_takeD (some 34) (i := 31) (v := ?_) rfl rfl (by kernel_rfl) (by kernel_rfl) (by kernel_rfl) (fun _ _ _ h => h) (.inl ⟨by kernel_rfl, ?_⟩) s4 ?_
        rotate_left
        · intro w' hw'; obtain ⟨hw1, hw2, hw3, hw4, hw5, hw6, hw7, hw8, hw9, hw10, hw11, hw12, hw13⟩ := hw'; go_simp; try with_reducible rfl
        try simp only [Act.put, List.setIfInBounds_toArray, List.set_cons_zero, List.set_cons_succ]
        refine wpAnyH_done (by kernel_rfl) ?_ _
        go_wp2_with fail
        go_ret
        exact ⟨rfl, hvs4.1⟩
    · have e1 : (decide (-1 ≤ pr) && decide (pr ≤ szL zs - 1)) = false := by simpa using fun a => by omega
      rw [e1] at H1
      rw [okDev_preset cc1]
      obtain ⟨z, hz⟩ : ∃ z, szL zs = z := ⟨_, rfl⟩
      rw [hz] at H1 HZ z1 z2
      have tz : IntKind.i64.wrap (z - 1) = z - 1 := IntWalk.i64_in _ (by omega)
      clear hv hzz cc1 e1 hz HL H2
      go_enter Try.func42, Try.ntmps42
      go_wp2_with fail
      
      refine wp_region_held (S := (fun w' : World => Below w.heap.size w w' ∧ w'.cell? ⟨g, 0, none⟩ = some (.slice (some ⟨B, 0, none⟩) n cap) ∧ w'.cell? ⟨g, 1, none⟩ = some (.int .u8 d0) ∧ w'.cell? ⟨g, 2, none⟩ = some (.int .u8 d1) ∧ w'.cell? ⟨g, 3, none⟩ = some (.int .u8 d2) ∧ w'.cell? ⟨g, 4, none⟩ = some (.int .u8 d3) ∧ w'.cell? ⟨g, 5, none⟩ = some (.int .u8 d4) ∧ w'.cell? ⟨g, 6, none⟩ = some (.int .u8 d5) ∧ w'.cell? ⟨g, 7, none⟩ = some (.int .u8 d6) ∧ w'.cell? ⟨g, 8, none⟩ = some (.int .u8 d7) ∧ w'.cell? ⟨g, 9, none⟩ = some (.int .i64 pr) ∧ w'.cell? ⟨g, 10, none⟩ = some (.bool st) ∧ w'.cell? ⟨g, 11, none⟩ = some (.int .i64 tk))) (by kernel_rfl) ?_
      change wpAnyH _ _ _ _ _ _ _ _ (World.drew _)
      have s0 : ((fun w' : World => Below w.heap.size w w' ∧ w'.cell? ⟨g, 0, none⟩ = some (.slice (some ⟨B, 0, none⟩) n cap) ∧ w'.cell? ⟨g, 1, none⟩ = some (.int .u8 d0) ∧ w'.cell? ⟨g, 2, none⟩ = some (.int .u8 d1) ∧ w'.cell? ⟨g, 3, none⟩ = some (.int .u8 d2) ∧ w'.cell? ⟨g, 4, none⟩ = some (.int .u8 d3) ∧ w'.cell? ⟨g, 5, none⟩ = some (.int .u8 d4) ∧ w'.cell? ⟨g, 6, none⟩ = some (.int .u8 d5) ∧ w'.cell? ⟨g, 7, none⟩ = some (.int .u8 d6) ∧ w'.cell? ⟨g, 8, none⟩ = some (.int .u8 d7) ∧ w'.cell? ⟨g, 9, none⟩ = some (.int .i64 pr) ∧ w'.cell? ⟨g, 10, none⟩ = some (.bool st) ∧ w'.cell? ⟨g, 11, none⟩ = some (.int .i64 tk))) _ := HS0.out
      refine wpAnyH_takeD (some 3) (i := 0) (v := ?_) rfl rfl (by kernel_rfl) (by kernel_rfl) (by kernel_rfl) (fun _ _ _ h => h) (.inl ⟨by kernel_rfl, ?_⟩) s0 ?_
      rotate_left
      · intro w' hw'; obtain ⟨hw1, hw2, hw3, hw4, hw5, hw6, hw7, hw8, hw9, hw10, hw11, hw12, hw13⟩ := hw'; go_simp; try with_reducible rfl
      try simp only [Act.put, List.setIfInBounds_toArray, List.set_cons_zero, List.set_cons_succ]
      refine wpAnyH_takeD (some 4) (i := 1) (v := ?_) rfl rfl (by kernel_rfl) (by kernel_rfl) (by kernel_rfl) (fun _ _ _ h => h) (.inl ⟨by kernel_rfl, ?_⟩) s0 ?_
      rotate_left
      · intro w' hw'; obtain ⟨hw1, hw2, hw3, hw4, hw5, hw6, hw7, hw8, hw9, hw10, hw11, hw12, hw13⟩ := hw'; go_simp; try with_reducible rfl
      try simp only [Act.put, List.setIfInBounds_toArray, List.set_cons_zero, List.set_cons_succ]
      refine wpAnyH_takeD (some 5) (i := 2) (v := ?_) rfl rfl (by kernel_rfl) (by kernel_rfl) (by kernel_rfl) (fun _ _ _ h => h) (.inl ⟨by kernel_rfl, ?_⟩) s0 ?_
      rotate_left
      · intro w' hw'; obtain ⟨hw1, hw2, hw3, hw4, hw5, hw6, hw7, hw8, hw9, hw10, hw11, hw12, hw13⟩ := hw'; go_simp; try with_reducible rfl
      try simp only [Act.put, List.setIfInBounds_toArray, List.set_cons_zero, List.set_cons_succ]
      refine wpAnyH_takeD (some 6) (i := 3) (v := ?_) rfl rfl (by kernel_rfl) (by kernel_rfl) (by kernel_rfl) (fun _ _ _ h => h) (.inl ⟨by kernel_rfl, ?_⟩) s0 ?_
      rotate_left
      · intro w' hw'; obtain ⟨hw1, hw2, hw3, hw4, hw5, hw6, hw7, hw8, hw9, hw10, hw11, hw12, hw13⟩ := hw'; go_simp; try with_reducible rfl
      try simp only [Act.put, List.setIfInBounds_toArray, List.set_cons_zero, List.set_cons_succ]
      refine wpAnyH_takeD (some 7) (i := 4) (v := ?_) rfl rfl (by kernel_rfl) (by kernel_rfl) (by kernel_rfl) (fun _ _ _ h => h) (.inl ⟨by kernel_rfl, ?_⟩) s0 ?_
      rotate_left
      · intro w' hw'; obtain ⟨hw1, hw2, hw3, hw4, hw5, hw6, hw7, hw8, hw9, hw10, hw11, hw12, hw13⟩ := hw'; go_simp; try with_reducible rfl
      try simp only [Act.put, List.setIfInBounds_toArray, List.set_cons_zero, List.set_cons_succ]
      refine wpAnyH_takeD (some 8) (i := 5) (v := ?_) rfl rfl (by kernel_rfl) (by kernel_rfl) (by kernel_rfl) (fun _ _ _ h => h) (.inl ⟨by kernel_rfl, ?_⟩) s0 ?_
      rotate_left
      · intro w' hw'; obtain ⟨hw1, hw2, hw3, hw4, hw5, hw6, hw7, hw8, hw9, hw10, hw11, hw12, hw13⟩ := hw'; go_simp; try with_reducible rfl
      try simp only [Act.put, List.setIfInBounds_toArray, List.set_cons_zero, List.set_cons_succ]
      refine wpAnyH_takeD (some 9) (i := 6) (v := ?_) rfl rfl (by kernel_rfl) (by kernel_rfl) (by kernel_rfl) (fun _ _ _ h => h) (.inl ⟨by kernel_rfl, ?_⟩) s0 ?_
      rotate_left
      · intro w' hw'; obtain ⟨hw1, hw2, hw3, hw4, hw5, hw6, hw7, hw8, hw9, hw10, hw11, hw12, hw13⟩ := hw'; go_simp; try with_reducible rfl
      try simp only [Act.put, List.setIfInBounds_toArray, List.set_cons_zero, List.set_cons_succ]
      refine wpAnyH_takeD (some 10) (i := 7) (v := ?_) rfl rfl (by kernel_rfl) (by kernel_rfl) (by kernel_rfl) (fun _ _ _ h => h) (.inl ⟨by kernel_rfl, ?_⟩) s0 ?_
      rotate_left
      · intro w' hw'; obtain ⟨hw1, hw2, hw3, hw4, hw5, hw6, hw7, hw8, hw9, hw10, hw11, hw12, hw13⟩ := hw'; go_simp; try with_reducible rfl
      try simp only [Act.put, List.setIfInBounds_toArray, List.set_cons_zero, List.set_cons_succ]
      refine wpAnyH_all (rs := [8]) (by kernel_rfl) (by simp) ?_
      intro i hi; simp only [List.mem_singleton] at hi; subst hi
      refine wpOp_step rfl (fun K hK => ?_)
      go_simp
      with_reducible refine (HV.out _ s0).mono ?_
      rintro e vs1 ⟨rfl, hvs1⟩
      have s1 := hvs1
      refine hK _ _ ⟨s1, ?_⟩
      try simp only [Act.put, List.setIfInBounds_toArray, List.set_cons_zero, List.set_cons_succ]
      refine wpAnyH_takeD (some 12) (i := 9) (v := ?_) rfl rfl (by kernel_rfl) (by kernel_rfl) (by kernel_rfl) (fun _ _ _ h => h) (.inl ⟨by kernel_rfl, ?_⟩) s1 ?_
      rotate_left
      · intro w' hw'; obtain ⟨hw1, hw2, hw3, hw4, hw5, hw6, hw7, hw8, hw9, hw10, hw11, hw12, hw13⟩ := hw'; go_simp; try with_reducible rfl
      try simp only [Act.put, List.setIfInBounds_toArray, List.set_cons_zero, List.set_cons_succ]
      refine wpAnyH_takeD (some 13) (i := 10) (v := ?_) rfl rfl (by kernel_rfl) (by kernel_rfl) (by kernel_rfl) (fun _ _ _ h => h) (.inl ⟨by kernel_rfl, ?_⟩) s1 ?_
      rotate_left
      · intro w' hw'; obtain ⟨hw1, hw2, hw3, hw4, hw5, hw6, hw7, hw8, hw9, hw10, hw11, hw12, hw13⟩ := hw'; go_simp; try with_reducible rfl
      try simp only [Act.put, List.setIfInBounds_toArray, List.set_cons_zero, List.set_cons_succ]
      refine wpAnyH_takeD (some 14) (i := 11) (v := ?_) rfl rfl (by kernel_rfl) (by kernel_rfl) (by kernel_rfl) (fun _ _ _ h => h) (.inl ⟨by kernel_rfl, ?_⟩) s1 ?_
      rotate_left
      · intro w' hw'; obtain ⟨hw1, hw2, hw3, hw4, hw5, hw6, hw7, hw8, hw9, hw10, hw11, hw12, hw13⟩ := hw'; go_simp; try with_reducible rfl
      try simp only [Act.put, List.setIfInBounds_toArray, List.set_cons_zero, List.set_cons_succ]
      refine wpAnyH_takeD (some 15) (i := 12) (v := ?_) rfl rfl (by kernel_rfl) (by kernel_rfl) (by kernel_rfl) (fun _ _ _ h => h) (.inl ⟨by kernel_rfl, ?_⟩) s1 ?_
      rotate_left
      · intro w' hw'; obtain ⟨hw1, hw2, hw3, hw4, hw5, hw6, hw7, hw8, hw9, hw10, hw11, hw12, hw13⟩ := hw'; go_simp; try with_reducible rfl
      try simp only [Act.put, List.setIfInBounds_toArray, List.set_cons_zero, List.set_cons_succ]
      refine wpAnyH_takeD (some 16) (i := 13) (v := ?_) rfl rfl (by kernel_rfl) (by kernel_rfl) (by kernel_rfl) (fun _ _ _ h => h) (.inl ⟨by kernel_rfl, ?_⟩) s1 ?_
      rotate_left
      · intro w' hw'; obtain ⟨hw1, hw2, hw3, hw4, hw5, hw6, hw7, hw8, hw9, hw10, hw11, hw12, hw13⟩ := hw'; go_simp; try with_reducible rfl
      try simp only [Act.put, List.setIfInBounds_toArray, List.set_cons_zero, List.set_cons_succ]
      refine wpAnyH_takeD (some 17) (i := 14) (v := ?_) rfl rfl (by kernel_rfl) (by kernel_rfl) (by kernel_rfl) (fun _ _ _ h => h) (.inl ⟨by kernel_rfl, ?_⟩) s1 ?_
      rotate_left
      · intro w' hw'; obtain ⟨hw1, hw2, hw3, hw4, hw5, hw6, hw7, hw8, hw9, hw10, hw11, hw12, hw13⟩ := hw'; go_simp; try with_reducible rfl
      try simp only [Act.put, List.setIfInBounds_toArray, List.set_cons_zero, List.set_cons_succ]
      refine wpAnyH_takeD (some 18) (i := 15) (v := ?_) rfl rfl (by kernel_rfl) (by kernel_rfl) (by kernel_rfl) (fun _ _ _ h => h) (.inl ⟨by kernel_rfl, ?_⟩) s1 ?_
      rotate_left
      · intro w' hw'; obtain ⟨hw1, hw2, hw3, hw4, hw5, hw6, hw7, hw8, hw9, hw10, hw11, hw12, hw13⟩ := hw'; go_simp; try with_reducible rfl
      try simp only [Act.put, List.setIfInBounds_toArray, List.set_cons_zero, List.set_cons_succ]
      refine wpAnyH_takeD (some 19) (i := 16) (v := ?_) rfl rfl (by kernel_rfl) (by kernel_rfl) (by kernel_rfl) (fun _ _ _ h => h) (.inl ⟨by kernel_rfl, ?_⟩) s1 ?_
      rotate_left
      · intro w' hw'; obtain ⟨hw1, hw2, hw3, hw4, hw5, hw6, hw7, hw8, hw9, hw10, hw11, hw12, hw13⟩ := hw'; go_simp; try with_reducible rfl
      try simp only [Act.put, List.setIfInBounds_toArray, List.set_cons_zero, List.set_cons_succ]
      refine wpAnyH_takeD (some 20) (i := 17) (v := ?_) rfl rfl (by kernel_rfl) (by kernel_rfl) (by kernel_rfl) (fun _ _ _ h => h) (.inl ⟨by kernel_rfl, ?_⟩) s1 ?_
      rotate_left
      · intro w' hw'; obtain ⟨hw1, hw2, hw3, hw4, hw5, hw6, hw7, hw8, hw9, hw10, hw11, hw12, hw13⟩ := hw'; go_simp; try with_reducible rfl
      try simp only [Act.put, List.setIfInBounds_toArray, List.set_cons_zero, List.set_cons_succ]
      refine wpAnyH_takeD (some 21) (i := 18) (v := ?_) rfl rfl (by kernel_rfl) (by kernel_rfl) (by kernel_rfl) (fun _ _ _ h => h) (.inl ⟨by kernel_rfl, ?_⟩) s1 ?_
      rotate_left
      · intro w' hw'; obtain ⟨hw1, hw2, hw3, hw4, hw5, hw6, hw7, hw8, hw9, hw10, hw11, hw12, hw13⟩ := hw'; go_simp; try with_reducible rfl
      try simp only [Act.put, List.setIfInBounds_toArray, List.set_cons_zero, List.set_cons_succ]
      refine wpAnyH_all (rs := [19]) (by kernel_rfl) (by simp) ?_
      intro i hi; simp only [List.mem_singleton] at hi; subst hi
      refine wpOp_step rfl (fun K hK => ?_)
      go_simp
      with_reducible refine (HZ.out _ s1).mono ?_
      rintro e vs2 ⟨rfl, hvs2⟩
      have s2 := hvs2
      refine hK _ _ ⟨s2, ?_⟩
      try simp only [Act.put, List.setIfInBounds_toArray, List.set_cons_zero, List.set_cons_succ]
      refine wpAnyH_takeD (some 23) (i := 20) (v := ?_) rfl rfl (by kernel_rfl) (by kernel_rfl) (by kernel_rfl) (fun _ _ _ h => h) (.inl ⟨by kernel_rfl, ?_⟩) s2 ?_
      rotate_left
      · intro w' hw'; obtain ⟨hw1, hw2, hw3, hw4, hw5, hw6, hw7, hw8, hw9, hw10, hw11, hw12, hw13⟩ := hw'; go_simp; try with_reducible rfl
      try simp only [Act.put, List.setIfInBounds_toArray, List.set_cons_zero, List.set_cons_succ]
      refine wpAnyH_all (rs := [21]) (by kernel_rfl) (by simp) ?_
      intro i hi; simp only [List.mem_singleton] at hi; subst hi
      refine wpOp_step rfl (fun K hK => ?_)
      go_simp
      with_reducible refine (H1.out _ s2).mono ?_
      rintro e vs3 ⟨rfl, hvs3⟩
      have s3 := hvs3
      refine hK _ _ ⟨s3, ?_⟩
      try simp only [Act.put, List.setIfInBounds_toArray, List.set_cons_zero, List.set_cons_succ]
      refine wpAnyH_takeD (some 25) (i := 22) (v := ?_) rfl rfl (by kernel_rfl) (by kernel_rfl) (by kernel_rfl) (fun _ _ _ h => h) (.inl ⟨by kernel_rfl, ?_⟩) s3 ?_
      rotate_left
      · intro w' hw'; obtain ⟨hw1, hw2, hw3, hw4, hw5, hw6, hw7, hw8, hw9, hw10, hw11, hw12, hw13⟩ := hw'; go_simp; try with_reducible rfl
      try simp only [Act.put, List.setIfInBounds_toArray, List.set_cons_zero, List.set_cons_succ]
      refine wpAnyH_takeD (some 26) (i := 23) (v := ?_) rfl rfl (by kernel_rfl) (by kernel_rfl) (by kernel_rfl) (fun _ _ _ h => h) (.inl ⟨by kernel_rfl, ?_⟩) s3 ?_
      rotate_left
      · intro w' hw'; obtain ⟨hw1, hw2, hw3, hw4, hw5, hw6, hw7, hw8, hw9, hw10, hw11, hw12, hw13⟩ := hw'; go_simp; try with_reducible rfl
      try simp only [Act.put, List.setIfInBounds_toArray, List.set_cons_zero, List.set_cons_succ]
      refine wpAnyH_takeD (some 27) (i := 24) (v := ?_) rfl rfl (by kernel_rfl) (by kernel_rfl) (by kernel_rfl) (fun _ _ _ h => h) (.inl ⟨by kernel_rfl, ?_⟩) s3 ?_
      rotate_left
      · intro w' hw'; obtain ⟨hw1, hw2, hw3, hw4, hw5, hw6, hw7, hw8, hw9, hw10, hw11, hw12, hw13⟩ := hw'; go_simp; try with_reducible rfl
      try simp only [Act.put, List.setIfInBounds_toArray, List.set_cons_zero, List.set_cons_succ]
      refine wpAnyH_takeD (some 28) (i := 25) (v := undef) rfl rfl (by kernel_rfl) (by kernel_rfl) (by kernel_rfl) (fun _ _ _ h => h) (.inr ⟨by kernel_rfl, rfl⟩) s3 ?_
      try simp only [Act.put, List.setIfInBounds_toArray, List.set_cons_zero, List.set_cons_succ]
      refine wpAnyH_takeD (some 29) (i := 26) (v := undef) rfl rfl (by kernel_rfl) (by kernel_rfl) (by kernel_rfl) (fun _ _ _ h => h) (.inr ⟨by kernel_rfl, rfl⟩) s3 ?_
      try simp only [Act.put, List.setIfInBounds_toArray, List.set_cons_zero, List.set_cons_succ]
      refine wpAnyH_takeD (some 30) (i := 27) (v := undef) rfl rfl (by kernel_rfl) (by kernel_rfl) (by kernel_rfl) (fun _ _ _ h => h) (.inr ⟨by kernel_rfl, rfl⟩) s3 ?_
      try simp only [Act.put, List.setIfInBounds_toArray, List.set_cons_zero, List.set_cons_succ]
      refine wpAnyH_takeD (some 31) (i := 28) (v := undef) rfl rfl (by kernel_rfl) (by kernel_rfl) (by kernel_rfl) (fun _ _ _ h => h) (.inr ⟨by kernel_rfl, rfl⟩) s3 ?_
      try simp only [Act.put, List.setIfInBounds_toArray, List.set_cons_zero, List.set_cons_succ]
      refine wpAnyH_takeD (some 32) (i := 29) (v := undef) rfl rfl (by kernel_rfl) (by kernel_rfl) (by kernel_rfl) (fun _ _ _ h => h) (.inr ⟨by kernel_rfl, rfl⟩) s3 ?_
      try simp only [Act.put, List.setIfInBounds_toArray, List.set_cons_zero, List.set_cons_succ]
      refine wpAnyH_takeD (some 33) (i := 30) (v := undef) rfl rfl (by kernel_rfl) (by kernel_rfl) (by kernel_rfl) (fun _ _ _ h => h) (.inr ⟨by kernel_rfl, rfl⟩) s3 ?_
      try simp only [Act.put, List.setIfInBounds_toArray, List.set_cons_zero, List.set_cons_succ]
      refine wpAnyH_takeD (some 34) (i := 31) (v := ?_) rfl rfl (by kernel_rfl) (by kernel_rfl) (by kernel_rfl) (fun _ _ _ h => h) (.inl ⟨by kernel_rfl, ?_⟩) s3 ?_
      rotate_left
      · intro w' hw'; obtain ⟨hw1, hw2, hw3, hw4, hw5, hw6, hw7, hw8, hw9, hw10, hw11, hw12, hw13⟩ := hw'; go_simp; try with_reducible rfl
      try simp only [Act.put, List.setIfInBounds_toArray, List.set_cons_zero, List.set_cons_succ]
      refine wpAnyH_done (by kernel_rfl) ?_ _
      go_wp2_with fail
      go_ret
      exact ⟨rfl, hvs3.1⟩
theorem specValidDevice_any (B n cap : Nat) (zs : List Int) (d0 d1 d2 d3 d4 d5 d6 d7 : Int) (pr : Int) (st : Bool) (tk : Int) (w : World) (hS : Stk w B zs) (hn : n = zs.length) (ho : Oct d0 d1 d2 d3 d4 d5 d6 d7) :
    Calls Try.prog 12 #[.agg #[.slice (some ⟨B, 0, none⟩) n cap, .int .u8 d0, .int .u8 d1, .int .u8 d2, .int .u8 d3, .int .u8 d4, .int .u8 d5, .int .u8 d6, .int .u8 d7, .int .i64 pr, .bool st, .int .i64 tk]] w (GivesB w (.bool (okDev zs [d0, d1, d2, d3, d4, d5, d6, d7] pr st tk))) := by
  have bel := hid (boxD_bel w 31 #[.slice (some ⟨B, 0, none⟩) n cap, .int .u8 d0, .int .u8 d1, .int .u8 d2, .int .u8 d3, .int .u8 d4, .int .u8 d5, .int .u8 d6, .int .u8 d7, .int .i64 pr, .bool st, .int .i64 tk])
  have H := hid (l07Ok_any w.heap.size B n cap zs d0 d1 d2 d3 d4 d5 d6 d7 pr st tk _ (hS.below bel.out hS.1) hn ho (Row.new w 31 [.slice (some ⟨B, 0, none⟩) n cap, .int .u8 d0, .int .u8 d1, .int .u8 d2, .int .u8 d3, .int .u8 d4, .int .u8 d5, .int .u8 d6, .int .u8 d7, .int .i64 pr, .bool st, .int .i64 tk]))
  clear hS hn ho
  go_enter Try.func12, Try.ntmps12
  go_wp2_with fail
  refine H.out.mono ?_
  rintro e w1 ⟨rfl, hB⟩
  go_wp2_with fail
  go_ret
  exact ⟨rfl, bel.out.trans (hB.mono bel.out.size)⟩
theorem hasPreset_yes (b n cap : Nat) (zs : List Int) (v : Int) (w : World) (h : Stk w b zs) (hn : n = zs.length) (hv : okL zs = true) (hx : -1 ≤ v ∧ v < szL zs) :
    Calls Try.prog 44 #[.slice (some ⟨b, 0, none⟩) n cap, .int .i64 v] w (GivesB w (.bool true)) := by
  by_cases c : v = -1
  · subst c
    clear h hn hv hx
    go_enter Try.func44, Try.ntmps44
    go_wp2_with fail
    go_ret
    exact ⟨rfl, Below.refl _ _⟩
  · have e : (v == -1) = false := by simp [c]
    have H := hid (hasValue_yes b n cap zs v w h hn hv (by omega))
    clear h hn hv hx c
    go_enter Try.func44, Try.ntmps44
    go_wp2_with fail
    refine H.out.mono ?_
    rintro e w1 ⟨rfl, hB⟩
    go_wp2_with fail
    go_ret
    exact ⟨rfl, hB⟩
theorem hasPreset_no (b n cap : Nat) (zs : List Int) (v : Int) (w : World) (h : Stk w b zs) (hn : n = zs.length) (hv : okL zs = true) (hx : ¬ (-1 ≤ v ∧ v < szL zs)) :
    Calls Try.prog 44 #[.slice (some ⟨b, 0, none⟩) n cap, .int .i64 v] w (GivesB w (.bool false)) := by
  have hz := (okL_out hv).2.2.2.1
  have e : (v == -1) = false := by simp; omega
  have H := hid (hasValue_no b n cap zs v w h hn hv (by omega))
  clear h hn hv hx hz
  go_enter Try.func44, Try.ntmps44
  go_wp2_with fail
  refine H.out.mono ?_
  rintro e w1 ⟨rfl, hB⟩
  go_wp2_with fail
  go_ret
  exact ⟨rfl, hB⟩
set_option maxRecDepth 100000 in
theorem devValue_any (B n cap : Nat) (zs : List Int) (d0 d1 d2 d3 d4 d5 d6 d7 : Int) (pr : Int) (st : Bool) (tk : Int) (w : World) (hS : Stk w B zs) (hn : n = zs.length) (ho : Oct d0 d1 d2 d3 d4 d5 d6 d7) (hv : okV zs [d0, d1, d2, d3, d4, d5, d6, d7] = true) :
    Calls Try.prog 45 #[.agg #[.slice (some ⟨B, 0, none⟩) n cap, .int .u8 d0, .int .u8 d1, .int .u8 d2, .int .u8 d3, .int .u8 d4, .int .u8 d5, .int .u8 d6, .int .u8 d7, .int .i64 pr, .bool st, .int .i64 tk]] w (GivesB w (.int .i64 (valL zs [d0, d1, d2, d3, d4, d5, d6, d7] zs.length))) := by
  have bel := hid (boxD_bel w 31 #[.slice (some ⟨B, 0, none⟩) n cap, .int .u8 d0, .int .u8 d1, .int .u8 d2, .int .u8 d3, .int .u8 d4, .int .u8 d5, .int .u8 d6, .int .u8 d7, .int .i64 pr, .bool st, .int .i64 tk])
  have H := hid (value_any B n cap zs d0 d1 d2 d3 d4 d5 d6 d7 ho hv (by omega) _ (hS.below bel.out hS.1))
  rw [← hn]
  clear hS hn ho hv
  go_enter Try.func45, Try.ntmps45
  go_wp2_with fail
  refine H.out.mono ?_
  rintro e w1 ⟨rfl, hB⟩
  go_wp2_with fail
  go_ret
  exact ⟨rfl, bel.out.trans (hB.mono bel.out.size)⟩
set_option maxRecDepth 100000 in
set_option maxHeartbeats 4000000 in
theorem implValidDevice_any (B n cap : Nat) (zs : List Int) (d0 d1 d2 d3 d4 d5 d6 d7 : Int) (pr : Int) (st : Bool) (tk : Int) (w : World) (hS : Stk w B zs) (hn : n = zs.length) (ho : Oct d0 d1 d2 d3 d4 d5 d6 d7) :
    Calls Try.prog 14 #[.agg #[.slice (some ⟨B, 0, none⟩) n cap, .int .u8 d0, .int .u8 d1, .int .u8 d2, .int .u8 d3, .int .u8 d4, .int .u8 d5, .int .u8 d6, .int .u8 d7, .int .i64 pr, .bool st, .int .i64 tk]] w (GivesB w (.bool (okDev zs [d0, d1, d2, d3, d4, d5, d6, d7] pr st tk))) := by
  obtain ⟨W, hW⟩ : ∃ W, W = (w.alloc (.cells #[.slice (some ⟨B, 0, none⟩) n cap, .int .u8 d0, .int .u8 d1, .int .u8 d2, .int .u8 d3, .int .u8 d4, .int .u8 d5, .int .u8 d6, .int .u8 d7, .int .i64 pr, .bool st, .int .i64 tk] 31)) := ⟨_, rfl⟩
  have bel : Below w.heap.size w W := by rw [hW]; exact boxD_bel _ _ _
  have r0 : Row W w.heap.size 31 [.slice (some ⟨B, 0, none⟩) n cap, .int .u8 d0, .int .u8 d1, .int .u8 d2, .int .u8 d3, .int .u8 d4, .int .u8 d5, .int .u8 d6, .int .u8 d7, .int .i64 pr, .bool st, .int .i64 tk] := by rw [hW]; exact Row.new _ _ _
  have hK := hS.below bel hS.1
  have c0 := r0.cell 0; have c1 := r0.cell 1; have c2 := r0.cell 2; have c3 := r0.cell 3; have c4 := r0.cell 4; have c5 := r0.cell 5; have c6 := r0.cell 6; have c7 := r0.cell 7; have c8 := r0.cell 8; have c9 := r0.cell 9; have c10 := r0.cell 10; have c11 := r0.cell 11
  simp only [List.getElem?_cons_zero, List.getElem?_cons_succ] at c0 c1 c2 c3 c4 c5 c6 c7 c8 c9 c10 c11
  have HV := hid (validDigits_any B n cap zs d0 d1 d2 d3 d4 d5 d6 d7 W hK hn ho)
  have RC := hid (fun (v : World) (hB : Below W.heap.size W v) => (heldDev r0 hB).2)
  have HD := hid (fun (v : World) (hB : Below W.heap.size W v) => heldDev r0 hB.drew)
  have HP := hid (fun h0 h (v : World) (hB : Below W.heap.size W v) => hasPreset_yes B n cap zs pr v (hK.below hB hK.1) hn h0 h)
  have HX := hid (fun h0 h (v : World) (hB : Below W.heap.size W v) => hasPreset_no B n cap zs pr v (hK.below hB hK.1) hn h0 h)
  have HL := hid (fun hv (w' : World) (h : (fun w' : World => Below W.heap.size W w' ∧ w'.cell? ⟨w.heap.size, 0, none⟩ = some (.slice (some ⟨B, 0, none⟩) n cap) ∧ w'.cell? ⟨w.heap.size, 1, none⟩ = some (.int .u8 d0) ∧ w'.cell? ⟨w.heap.size, 2, none⟩ = some (.int .u8 d1) ∧ w'.cell? ⟨w.heap.size, 3, none⟩ = some (.int .u8 d2) ∧ w'.cell? ⟨w.heap.size, 4, none⟩ = some (.int .u8 d3) ∧ w'.cell? ⟨w.heap.size, 5, none⟩ = some (.int .u8 d4) ∧ w'.cell? ⟨w.heap.size, 6, none⟩ = some (.int .u8 d5) ∧ w'.cell? ⟨w.heap.size, 7, none⟩ = some (.int .u8 d6) ∧ w'.cell? ⟨w.heap.size, 8, none⟩ = some (.int .u8 d7) ∧ w'.cell? ⟨w.heap.size, 9, none⟩ = some (.int .i64 pr) ∧ w'.cell? ⟨w.heap.size, 10, none⟩ = some (.bool st) ∧ w'.cell? ⟨w.heap.size, 11, none⟩ = some (.int .i64 tk)) w') => (devValue_any B n cap zs d0 d1 d2 d3 d4 d5 d6 d7 pr st tk w' (hK.below h.1 hK.1) hn ho hv).mono fun e w'' ⟨he, hB⟩ => And.intro (show e = Ending.returned (.int .i64 (valL zs [d0, d1, d2, d3, d4, d5, d6, d7] zs.length)) from he) (heldDev r0 (h.1.trans (hB.mono h.1.size))))
  have BE := hid bel
  have HW := hid hW
  clear bel hW hK hS hn r0 ho
  cases hv : okV zs [d0, d1, d2, d3, d4, d5, d6, d7] with
  | false =>
    rw [okDev_digits hv]
    rw [hv] at HV
    clear hv
    go_enter Try.func14, Try.ntmps14
    go_wp2_with fail
    rw [← HW.out]
    refine HV.out.mono ?_
    rintro e w1 ⟨rfl, hB⟩
    go_wp2_with fail
    go_ret
    exact ⟨rfl, BE.out.trans (hB.mono BE.out.size)⟩
  | true =>
    rw [hv] at HV
    have hzz := (okV_out hv).1
    have HP := hid (HP.out hzz)
    have HX := hid (HX.out hzz)
    have HL := hid (HL.out hv)
    by_cases cc1 : -1 ≤ pr ∧ pr < szL zs
    · have HP := hid (HP.out cc1)
      by_cases t1 : tk < 0
      · rw [okDev_tickets (by omega)]
        have q1 : decide (tk < 0) = true := decide_eq_true t1
        clear hv hzz cc1 c0 c1 c2 c3 c4 c5 c6 c7 c8 c9 c10 c11
        go_enter Try.func14, Try.ntmps14
        go_wp2_with fail
        rw [← HW.out]
        refine HV.out.mono ?_
        rintro e w1 ⟨rfl, hB1⟩
        have hc := RC.out _ hB1
        have hz1 := hB1.size
        obtain ⟨c0, c1, c2, c3, c4, c5, c6, c7, c8, c9, c10, c11⟩ := hc
        go_wp2_with fail
        refine (HP.out _ hB1).mono ?_
        rintro e w2 ⟨rfl, hB2⟩
        have hb := hB1.trans (hB2.mono hz1)
        clear c0 c1 c2 c3 c4 c5 c6 c7 c8 c9 c10 c11
        obtain ⟨c0, c1, c2, c3, c4, c5, c6, c7, c8, c9, c10, c11⟩ := RC.out _ hb
        go_wp2_with fail
        go_ret
        exact ⟨rfl, BE.out.trans (hb.mono BE.out.size)⟩
      · have q1 : decide (tk < 0) = false := decide_eq_false t1
        by_cases t2 : 1000000 < tk
        · rw [okDev_tickets (by omega)]
          have q2 : decide (1000000 < tk) = true := decide_eq_true t2
          clear hv hzz cc1 c0 c1 c2 c3 c4 c5 c6 c7 c8 c9 c10 c11
          go_enter Try.func14, Try.ntmps14
          go_wp2_with fail
          rw [← HW.out]
          refine HV.out.mono ?_
          rintro e w1 ⟨rfl, hB1⟩
          have hz1 := hB1.size
          obtain ⟨c0, c1, c2, c3, c4, c5, c6, c7, c8, c9, c10, c11⟩ := RC.out _ hB1
          go_wp2_with fail
          refine (HP.out _ hB1).mono ?_
          rintro e w2 ⟨rfl, hB2⟩
          have hb := hB1.trans (hB2.mono hz1)
          clear c0 c1 c2 c3 c4 c5 c6 c7 c8 c9 c10 c11
          obtain ⟨c0, c1, c2, c3, c4, c5, c6, c7, c8, c9, c10, c11⟩ := RC.out _ hb
          go_wp2_with fail
          go_ret
          exact ⟨rfl, BE.out.trans (hb.mono BE.out.size)⟩
        · have q2 : decide (1000000 < tk) = false := decide_eq_false t2
          rw [okDev_rest hv cc1 ⟨by omega, by omega⟩]
          obtain ⟨l, hl⟩ : ∃ l, valL zs [d0, d1, d2, d3, d4, d5, d6, d7] zs.length = l := ⟨_, rfl⟩
          rw [hl] at HL ⊢
          clear hv hzz cc1 c0 c1 c2 c3 c4 c5 c6 c7 c8 c9 c10 c11 hl
          cases st
          · go_enter Try.func14, Try.ntmps14
            go_wp2_with fail
            rw [← HW.out]
            refine HV.out.mono ?_
            rintro e w1 ⟨rfl, hB1⟩
            have hz1 := hB1.size
            obtain ⟨c0, c1, c2, c3, c4, c5, c6, c7, c8, c9, c10, c11⟩ := RC.out _ hB1
            go_wp2_with fail
            refine (HP.out _ hB1).mono ?_
            rintro e w2 ⟨rfl, hB2⟩
            have hb := hB1.trans (hB2.mono hz1)
            clear c0 c1 c2 c3 c4 c5 c6 c7 c8 c9 c10 c11
            obtain ⟨c0, c1, c2, c3, c4, c5, c6, c7, c8, c9, c10, c11⟩ := RC.out _ hb
            go_wp2_with fail
            clear c0 c1 c2 c3 c4 c5 c6 c7 c8 c9 c10 c11
            have HS0 := hid (HD.out _ hb)
            refine wp_region_held (S := (fun w' : World => Below W.heap.size W w' ∧ w'.cell? ⟨w.heap.size, 0, none⟩ = some (.slice (some ⟨B, 0, none⟩) n cap) ∧ w'.cell? ⟨w.heap.size, 1, none⟩ = some (.int .u8 d0) ∧ w'.cell? ⟨w.heap.size, 2, none⟩ = some (.int .u8 d1) ∧ w'.cell? ⟨w.heap.size, 3, none⟩ = some (.int .u8 d2) ∧ w'.cell? ⟨w.heap.size, 4, none⟩ = some (.int .u8 d3) ∧ w'.cell? ⟨w.heap.size, 5, none⟩ = some (.int .u8 d4) ∧ w'.cell? ⟨w.heap.size, 6, none⟩ = some (.int .u8 d5) ∧ w'.cell? ⟨w.heap.size, 7, none⟩ = some (.int .u8 d6) ∧ w'.cell? ⟨w.heap.size, 8, none⟩ = some (.int .u8 d7) ∧ w'.cell? ⟨w.heap.size, 9, none⟩ = some (.int .i64 pr) ∧ w'.cell? ⟨w.heap.size, 10, none⟩ = some (.bool false) ∧ w'.cell? ⟨w.heap.size, 11, none⟩ = some (.int .i64 tk))) (by kernel_rfl) ?_
            change wpAnyH _ _ _ _ _ _ _ _ (World.drew _)
            have t0 : ((fun w' : World => Below W.heap.size W w' ∧ w'.cell? ⟨w.heap.size, 0, none⟩ = some (.slice (some ⟨B, 0, none⟩) n cap) ∧ w'.cell? ⟨w.heap.size, 1, none⟩ = some (.int .u8 d0) ∧ w'.cell? ⟨w.heap.size, 2, none⟩ = some (.int .u8 d1) ∧ w'.cell? ⟨w.heap.size, 3, none⟩ = some (.int .u8 d2) ∧ w'.cell? ⟨w.heap.size, 4, none⟩ = some (.int .u8 d3) ∧ w'.cell? ⟨w.heap.size, 5, none⟩ = some (.int .u8 d4) ∧ w'.cell? ⟨w.heap.size, 6, none⟩ = some (.int .u8 d5) ∧ w'.cell? ⟨w.heap.size, 7, none⟩ = some (.int .u8 d6) ∧ w'.cell? ⟨w.heap.size, 8, none⟩ = some (.int .u8 d7) ∧ w'.cell? ⟨w.heap.size, 9, none⟩ = some (.int .i64 pr) ∧ w'.cell? ⟨w.heap.size, 10, none⟩ = some (.bool false) ∧ w'.cell? ⟨w.heap.size, 11, none⟩ = some (.int .i64 tk))) _ := HS0.out
            refine wpAnyH_takeD (some 27) (i := 0) (v := ?_) rfl rfl (by kernel_rfl) (by kernel_rfl) (by kernel_rfl) (fun _ _ _ h => h) (.inl ⟨by kernel_rfl, ?_⟩) t0 ?_
            rotate_left
            · intro w' hw'; obtain ⟨hw1, hw2, hw3, hw4, hw5, hw6, hw7, hw8, hw9, hw10, hw11, hw12, hw13⟩ := hw'; go_simp; try with_reducible rfl
            try simp only [Act.put, List.setIfInBounds_toArray, List.set_cons_zero, List.set_cons_succ]
            refine wpAnyH_takeD (some 28) (i := 1) (v := ?_) rfl rfl (by kernel_rfl) (by kernel_rfl) (by kernel_rfl) (fun _ _ _ h => h) (.inl ⟨by kernel_rfl, ?_⟩) t0 ?_
            rotate_left
            · intro w' hw'; obtain ⟨hw1, hw2, hw3, hw4, hw5, hw6, hw7, hw8, hw9, hw10, hw11, hw12, hw13⟩ := hw'; go_simp; try with_reducible rfl
            try simp only [Act.put, List.setIfInBounds_toArray, List.set_cons_zero, List.set_cons_succ]
            refine wpAnyH_takeD (some 29) (i := 2) (v := ?_) rfl rfl (by kernel_rfl) (by kernel_rfl) (by kernel_rfl) (fun _ _ _ h => h) (.inl ⟨by kernel_rfl, ?_⟩) t0 ?_
            rotate_left
            · intro w' hw'; obtain ⟨hw1, hw2, hw3, hw4, hw5, hw6, hw7, hw8, hw9, hw10, hw11, hw12, hw13⟩ := hw'; go_simp; try with_reducible rfl
            try simp only [Act.put, List.setIfInBounds_toArray, List.set_cons_zero, List.set_cons_succ]
            refine wpAnyH_takeD (some 30) (i := 3) (v := ?_) rfl rfl (by kernel_rfl) (by kernel_rfl) (by kernel_rfl) (fun _ _ _ h => h) (.inl ⟨by kernel_rfl, ?_⟩) t0 ?_
            rotate_left
            · intro w' hw'; obtain ⟨hw1, hw2, hw3, hw4, hw5, hw6, hw7, hw8, hw9, hw10, hw11, hw12, hw13⟩ := hw'; go_simp; try with_reducible rfl
            try simp only [Act.put, List.setIfInBounds_toArray, List.set_cons_zero, List.set_cons_succ]
            refine wpAnyH_takeD (some 31) (i := 4) (v := undef) rfl rfl (by kernel_rfl) (by kernel_rfl) (by kernel_rfl) (fun _ _ _ h => h) (.inr ⟨by kernel_rfl, rfl⟩) t0 ?_
            try simp only [Act.put, List.setIfInBounds_toArray, List.set_cons_zero, List.set_cons_succ]
            refine wpAnyH_takeD (some 32) (i := 5) (v := undef) rfl rfl (by kernel_rfl) (by kernel_rfl) (by kernel_rfl) (fun _ _ _ h => h) (.inr ⟨by kernel_rfl, rfl⟩) t0 ?_
            try simp only [Act.put, List.setIfInBounds_toArray, List.set_cons_zero, List.set_cons_succ]
            refine wpAnyH_takeD (some 33) (i := 6) (v := undef) rfl rfl (by kernel_rfl) (by kernel_rfl) (by kernel_rfl) (fun _ _ _ h => h) (.inr ⟨by kernel_rfl, rfl⟩) t0 ?_
            try simp only [Act.put, List.setIfInBounds_toArray, List.set_cons_zero, List.set_cons_succ]
            refine wpAnyH_takeD (some 34) (i := 7) (v := undef) rfl rfl (by kernel_rfl) (by kernel_rfl) (by kernel_rfl) (fun _ _ _ h => h) (.inr ⟨by kernel_rfl, rfl⟩) t0 ?_
            try simp only [Act.put, List.setIfInBounds_toArray, List.set_cons_zero, List.set_cons_succ]
            refine wpAnyH_takeD (some 35) (i := 8) (v := undef) rfl rfl (by kernel_rfl) (by kernel_rfl) (by kernel_rfl) (fun _ _ _ h => h) (.inr ⟨by kernel_rfl, rfl⟩) t0 ?_
            try simp only [Act.put, List.setIfInBounds_toArray, List.set_cons_zero, List.set_cons_succ]
            refine wpAnyH_takeD (some 36) (i := 9) (v := ?_) rfl rfl (by kernel_rfl) (by kernel_rfl) (by kernel_rfl) (fun _ _ _ h => h) (.inl ⟨by kernel_rfl, ?_⟩) t0 ?_
            rotate_left
            · intro w' hw'; obtain ⟨hw1, hw2, hw3, hw4, hw5, hw6, hw7, hw8, hw9, hw10, hw11, hw12, hw13⟩ := hw'; go_simp; try with_reducible rfl
            try simp only [Act.put, List.setIfInBounds_toArray, List.set_cons_zero, List.set_cons_succ]
            refine wpAnyH_takeD (some 2) (i := 10) (v := ?_) rfl rfl (by kernel_rfl) (by kernel_rfl) (by kernel_rfl) (fun _ _ _ h => h) (.inl ⟨by kernel_rfl, ?_⟩) t0 ?_
            rotate_left
            · intro w' hw'; obtain ⟨hw1, hw2, hw3, hw4, hw5, hw6, hw7, hw8, hw9, hw10, hw11, hw12, hw13⟩ := hw'; go_simp; try with_reducible rfl
            try simp only [Act.put, List.setIfInBounds_toArray, List.set_cons_zero, List.set_cons_succ]
            refine wpAnyH_done (by kernel_rfl) ?_ _
            go_wp2_with fail
            go_ret
            exact ⟨rfl, BE.out.trans (t0.1.mono BE.out.size)⟩
          · go_enter Try.func14, Try.ntmps14
            go_wp2_with fail
            rw [← HW.out]
            refine HV.out.mono ?_
            rintro e w1 ⟨rfl, hB1⟩
            have hz1 := hB1.size
            obtain ⟨c0, c1, c2, c3, c4, c5, c6, c7, c8, c9, c10, c11⟩ := RC.out _ hB1
            go_wp2_with fail
            refine (HP.out _ hB1).mono ?_
            rintro e w2 ⟨rfl, hB2⟩
            have hb := hB1.trans (hB2.mono hz1)
            clear c0 c1 c2 c3 c4 c5 c6 c7 c8 c9 c10 c11
            obtain ⟨c0, c1, c2, c3, c4, c5, c6, c7, c8, c9, c10, c11⟩ := RC.out _ hb
            go_wp2_with fail
            clear c0 c1 c2 c3 c4 c5 c6 c7 c8 c9 c10 c11
            have HS0 := hid (HD.out _ hb)
            refine wp_region_held (S := (fun w' : World => Below W.heap.size W w' ∧ w'.cell? ⟨w.heap.size, 0, none⟩ = some (.slice (some ⟨B, 0, none⟩) n cap) ∧ w'.cell? ⟨w.heap.size, 1, none⟩ = some (.int .u8 d0) ∧ w'.cell? ⟨w.heap.size, 2, none⟩ = some (.int .u8 d1) ∧ w'.cell? ⟨w.heap.size, 3, none⟩ = some (.int .u8 d2) ∧ w'.cell? ⟨w.heap.size, 4, none⟩ = some (.int .u8 d3) ∧ w'.cell? ⟨w.heap.size, 5, none⟩ = some (.int .u8 d4) ∧ w'.cell? ⟨w.heap.size, 6, none⟩ = some (.int .u8 d5) ∧ w'.cell? ⟨w.heap.size, 7, none⟩ = some (.int .u8 d6) ∧ w'.cell? ⟨w.heap.size, 8, none⟩ = some (.int .u8 d7) ∧ w'.cell? ⟨w.heap.size, 9, none⟩ = some (.int .i64 pr) ∧ w'.cell? ⟨w.heap.size, 10, none⟩ = some (.bool true) ∧ w'.cell? ⟨w.heap.size, 11, none⟩ = some (.int .i64 tk))) (by kernel_rfl) ?_
            change wpAnyH _ _ _ _ _ _ _ _ (World.drew _)
            have t0 : ((fun w' : World => Below W.heap.size W w' ∧ w'.cell? ⟨w.heap.size, 0, none⟩ = some (.slice (some ⟨B, 0, none⟩) n cap) ∧ w'.cell? ⟨w.heap.size, 1, none⟩ = some (.int .u8 d0) ∧ w'.cell? ⟨w.heap.size, 2, none⟩ = some (.int .u8 d1) ∧ w'.cell? ⟨w.heap.size, 3, none⟩ = some (.int .u8 d2) ∧ w'.cell? ⟨w.heap.size, 4, none⟩ = some (.int .u8 d3) ∧ w'.cell? ⟨w.heap.size, 5, none⟩ = some (.int .u8 d4) ∧ w'.cell? ⟨w.heap.size, 6, none⟩ = some (.int .u8 d5) ∧ w'.cell? ⟨w.heap.size, 7, none⟩ = some (.int .u8 d6) ∧ w'.cell? ⟨w.heap.size, 8, none⟩ = some (.int .u8 d7) ∧ w'.cell? ⟨w.heap.size, 9, none⟩ = some (.int .i64 pr) ∧ w'.cell? ⟨w.heap.size, 10, none⟩ = some (.bool true) ∧ w'.cell? ⟨w.heap.size, 11, none⟩ = some (.int .i64 tk))) _ := HS0.out
            refine wpAnyH_takeD (some 27) (i := 0) (v := ?_) rfl rfl (by kernel_rfl) (by kernel_rfl) (by kernel_rfl) (fun _ _ _ h => h) (.inl ⟨by kernel_rfl, ?_⟩) t0 ?_
            rotate_left
            · intro w' hw'; obtain ⟨hw1, hw2, hw3, hw4, hw5, hw6, hw7, hw8, hw9, hw10, hw11, hw12, hw13⟩ := hw'; go_simp; try with_reducible rfl
            try simp only [Act.put, List.setIfInBounds_toArray, List.set_cons_zero, List.set_cons_succ]
            refine wpAnyH_takeD (some 28) (i := 1) (v := ?_) rfl rfl (by kernel_rfl) (by kernel_rfl) (by kernel_rfl) (fun _ _ _ h => h) (.inl ⟨by kernel_rfl, ?_⟩) t0 ?_
            rotate_left
            · intro w' hw'; obtain ⟨hw1, hw2, hw3, hw4, hw5, hw6, hw7, hw8, hw9, hw10, hw11, hw12, hw13⟩ := hw'; go_simp; try with_reducible rfl
            try simp only [Act.put, List.setIfInBounds_toArray, List.set_cons_zero, List.set_cons_succ]
            refine wpAnyH_takeD (some 29) (i := 2) (v := ?_) rfl rfl (by kernel_rfl) (by kernel_rfl) (by kernel_rfl) (fun _ _ _ h => h) (.inl ⟨by kernel_rfl, ?_⟩) t0 ?_
            rotate_left
            · intro w' hw'; obtain ⟨hw1, hw2, hw3, hw4, hw5, hw6, hw7, hw8, hw9, hw10, hw11, hw12, hw13⟩ := hw'; go_simp; try with_reducible rfl
            try simp only [Act.put, List.setIfInBounds_toArray, List.set_cons_zero, List.set_cons_succ]
            refine wpAnyH_takeD (some 30) (i := 3) (v := ?_) rfl rfl (by kernel_rfl) (by kernel_rfl) (by kernel_rfl) (fun _ _ _ h => h) (.inl ⟨by kernel_rfl, ?_⟩) t0 ?_
            rotate_left
            · intro w' hw'; obtain ⟨hw1, hw2, hw3, hw4, hw5, hw6, hw7, hw8, hw9, hw10, hw11, hw12, hw13⟩ := hw'; go_simp; try with_reducible rfl
            try simp only [Act.put, List.setIfInBounds_toArray, List.set_cons_zero, List.set_cons_succ]
            refine wpAnyH_takeD (some 31) (i := 4) (v := ?_) rfl rfl (by kernel_rfl) (by kernel_rfl) (by kernel_rfl) (fun _ _ _ h => h) (.inl ⟨by kernel_rfl, ?_⟩) t0 ?_
            rotate_left
            · intro w' hw'; obtain ⟨hw1, hw2, hw3, hw4, hw5, hw6, hw7, hw8, hw9, hw10, hw11, hw12, hw13⟩ := hw'; go_simp; try with_reducible rfl
            try simp only [Act.put, List.setIfInBounds_toArray, List.set_cons_zero, List.set_cons_succ]
            refine wpAnyH_takeD (some 32) (i := 5) (v := ?_) rfl rfl (by kernel_rfl) (by kernel_rfl) (by kernel_rfl) (fun _ _ _ h => h) (.inl ⟨by kernel_rfl, ?_⟩) t0 ?_
            rotate_left
            · intro w' hw'; obtain ⟨hw1, hw2, hw3, hw4, hw5, hw6, hw7, hw8, hw9, hw10, hw11, hw12, hw13⟩ := hw'; go_simp; try with_reducible rfl
            try simp only [Act.put, List.setIfInBounds_toArray, List.set_cons_zero, List.set_cons_succ]
            refine wpAnyH_takeD (some 33) (i := 6) (v := ?_) rfl rfl (by kernel_rfl) (by kernel_rfl) (by kernel_rfl) (fun _ _ _ h => h) (.inl ⟨by kernel_rfl, ?_⟩) t0 ?_
            rotate_left
            · intro w' hw'; obtain ⟨hw1, hw2, hw3, hw4, hw5, hw6, hw7, hw8, hw9, hw10, hw11, hw12, hw13⟩ := hw'; go_simp; try with_reducible rfl
            try simp only [Act.put, List.setIfInBounds_toArray, List.set_cons_zero, List.set_cons_succ]
            refine wpAnyH_all (rs := [7]) (by kernel_rfl) (by simp) ?_
            intro i hi; simp only [List.mem_singleton] at hi; subst hi
            refine wpOp_step rfl (fun K hK => ?_)
            go_simp
            with_reducible refine (HL.out _ t0).mono ?_
            rintro e vt1 ⟨rfl, hvt1⟩
            have t1 := hvt1
            refine hK _ _ ⟨t1, ?_⟩
            try simp only [Act.put, List.setIfInBounds_toArray, List.set_cons_zero, List.set_cons_succ]
            refine wpAnyH_takeD (some 35) (i := 8) (v := ?_) rfl rfl (by kernel_rfl) (by kernel_rfl) (by kernel_rfl) (fun _ _ _ h => h) (.inl ⟨by kernel_rfl, ?_⟩) t1 ?_
            rotate_left
            · intro w' hw'; obtain ⟨hw1, hw2, hw3, hw4, hw5, hw6, hw7, hw8, hw9, hw10, hw11, hw12, hw13⟩ := hw'; go_simp; try with_reducible rfl
            try simp only [Act.put, List.setIfInBounds_toArray, List.set_cons_zero, List.set_cons_succ]
            refine wpAnyH_takeD (some 36) (i := 9) (v := ?_) rfl rfl (by kernel_rfl) (by kernel_rfl) (by kernel_rfl) (fun _ _ _ h => h) (.inl ⟨by kernel_rfl, ?_⟩) t1 ?_
            rotate_left
            · intro w' hw'; obtain ⟨hw1, hw2, hw3, hw4, hw5, hw6, hw7, hw8, hw9, hw10, hw11, hw12, hw13⟩ := hw'; go_simp; try with_reducible rfl
            try simp only [Act.put, List.setIfInBounds_toArray, List.set_cons_zero, List.set_cons_succ]
            refine wpAnyH_takeD (some 2) (i := 10) (v := ?_) rfl rfl (by kernel_rfl) (by kernel_rfl) (by kernel_rfl) (fun _ _ _ h => h) (.inl ⟨by kernel_rfl, ?_⟩) t1 ?_
            rotate_left
            · intro w' hw'; obtain ⟨hw1, hw2, hw3, hw4, hw5, hw6, hw7, hw8, hw9, hw10, hw11, hw12, hw13⟩ := hw'; go_simp; try with_reducible rfl
            try simp only [Act.put, List.setIfInBounds_toArray, List.set_cons_zero, List.set_cons_succ]
            refine wpAnyH_done (by kernel_rfl) ?_ _
            go_wp2_with fail
            go_ret
            exact ⟨rfl, BE.out.trans (t1.1.mono BE.out.size)⟩
    · rw [okDev_preset cc1]
      have HX := hid (HX.out cc1)
      clear hv hzz cc1 c0 c1 c2 c3 c4 c5 c6 c7 c8 c9 c10 c11
      go_enter Try.func14, Try.ntmps14
      go_wp2_with fail
      rw [← HW.out]
      refine HV.out.mono ?_
      rintro e w1 ⟨rfl, hB1⟩
      have hz1 := hB1.size
      obtain ⟨c0, c1, c2, c3, c4, c5, c6, c7, c8, c9, c10, c11⟩ := RC.out _ hB1
      go_wp2_with fail
      refine (HX.out _ hB1).mono ?_
      rintro e w2 ⟨rfl, hB2⟩
      have hb := hB1.trans (hB2.mono hz1)
      clear c0 c1 c2 c3 c4 c5 c6 c7 c8 c9 c10 c11
      go_wp2_with fail
      go_ret
      exact ⟨rfl, BE.out.trans (hb.mono BE.out.size)⟩
end Go.Proofs.Ytangjgfjojfcaaa
