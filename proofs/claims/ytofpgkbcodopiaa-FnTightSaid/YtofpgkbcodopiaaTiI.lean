/- The tightest flow; the program's. -/
import Derived.Test.YtofpgkbcodopiaaTiM
import Derived.Test.YtofpgkbcodopiaaRoundsD
namespace Go.Proofs.Ytofpgkbcodopiaa
open Go.RowKit Go.Shelf
attribute [local go_sem] Oper.semAt_some
set_option linter.unusedVariables false
set_option linter.unusedSimpArgs false
set_option maxRecDepth 100000 in
set_option maxHeartbeats 4000000 in
theorem implTi_log (bS nS capS : Nat) (zs : List Int) (hnS : nS = zs.length) (b n cap : Nat) (js : List (Int × Int)) (hn : n = js.length) (most : Int) (w : World) (hS : Stk w bS zs) (hR : Rst w b js) (hg : okG zs js = false) :
    Calls Try.prog 6 #[.slice (some ⟨bS, 0, none⟩) nS capS, .slice (some ⟨b, 0, none⟩) n cap, .int .i64 most] w (GivesB w (.tuple #[.agg #[.int .i64 (tiR zs js most).1.1, .int .i64 (tiR zs js most).1.2], .int .i64 (tiR zs js most).2])) := by
  have hle := hR.2.2
  rw [← hn] at hle
  have hbl := hR.1
  have hbs := hS.1
  have hN := hid hn
  obtain ⟨V, hV⟩ : ∃ V, V = (((w.alloc (.cells #[.slice (some ⟨bS, 0, none⟩) nS capS] 24)).alloc (.cells #[.int .i64 most] 2)).alloc (.cells #[.int .i64 0, .int .i64 0] 27)).alloc (.cells #[.int .i64 0] 2) := ⟨_, rfl⟩
  have sV : V.heap.size = w.heap.size + 1 + 1 + 1 + 1 := by rw [hV]; simp
  have bV : Below w.heap.size w V := by rw [hV]; exact ((((Below.refl _ w).alloc (Nat.le_refl _) _).alloc (by simp) _).alloc (by simp; omega) _).alloc (by simp; omega) _
  have r0 : Row V w.heap.size 24 [.slice (some ⟨bS, 0, none⟩) nS capS] := by rw [hV]; exact (((Row.new w _ _).alloc _).alloc _).alloc _
  have r1 : Row V (w.heap.size + 1) 2 [.int .i64 most] := by
    have h := ((Row.new (w.alloc (.cells #[.slice (some ⟨bS, 0, none⟩) nS capS] 24)) 2 [.int .i64 most]).alloc (.cells #[.int .i64 0, .int .i64 0] 27)).alloc (.cells #[.int .i64 0] 2)
    simp only [World.size_alloc] at h
    rw [hV]; exact h
  have r2 : Row V (w.heap.size + 1 + 1) 27 [.int .i64 0, .int .i64 0] := by
    have h := (Row.new ((w.alloc (.cells #[.slice (some ⟨bS, 0, none⟩) nS capS] 24)).alloc (.cells #[.int .i64 most] 2)) 27 [.int .i64 0, .int .i64 0]).alloc (.cells #[.int .i64 0] 2)
    simp only [World.size_alloc] at h
    rw [hV]; exact h
  have r3 : Row V (w.heap.size + 1 + 1 + 1) 2 [.int .i64 0] := by
    have h := Row.new (((w.alloc (.cells #[.slice (some ⟨bS, 0, none⟩) nS capS] 24)).alloc (.cells #[.int .i64 most] 2)).alloc (.cells #[.int .i64 0, .int .i64 0] 27)) 2 [.int .i64 0]
    simp only [World.size_alloc] at h
    rw [hV]; exact h
  have HVL := hid (implValidLog_any bS nS capS zs hnS b n cap js hn V (hS.below bV hbs) (hR.below bV hbl))
  have HS := hid hS
  have HR := hid hR
  have HV := hid hV
  have BV := hid bV
  have R0 := hid r0
  have R1 := hid r1
  have R2 := hid r2
  have R3 := hid r3
  have g1 : Fence.wide.fn 18 := trivial
  have g3 : Fence.wide.fn 19 := trivial
  have hm : 1 ≤ 8 := by omega
  rw [tiR_log hg]
  rw [hg] at HVL
  refine (callsIn_wide (n := 8)).1 ?_
  refine callsIn_of_wp_marks Try.func6 rfl trivial ?_ rfl
  simp only [Try.ntmps6, List.size_toArray, List.length_cons, List.length_nil, Nat.reduceAdd, Nat.reduceSub, Array.replicate_succ, Array.replicate_zero, List.push_toArray, List.append_toArray, List.nil_append, List.cons_append]
  have c0 := r0.cell 0
  simp only [List.getElem?_cons_zero] at c0
  clear r0 r1 r2 r3 bV hV hS hR hn hnS
  gi_wp2_with (gi_at_call 18; rw [← HV.out]; refine (callsIn_wide.2 HVL.out).mono ?_; rintro e w1 ⟨rfl, hB1⟩; have hz1 := hB1.size; rw [sV] at hB1 hz1; have q1 := R1.out.below hB1 (by omega); have q2 := R2.out.below hB1 (by omega); have q3 := R3.out.below hB1 (by omega); have c1 := q1.cell 0; have e0 := q2.cell 0; have e1 := q2.cell 1; have f0 := q2.frozen 0; have f1 := q2.frozen 1; have e3 := q3.cell 0; have f3 := q3.frozen 0; simp only [List.getElem?_cons_zero, List.getElem?_cons_succ] at c1 e0 e1 e3)
  have s2 := ((q2.set 0 (.int .i64 0)).set 1 (.int .i64 0)).other (a := ⟨w.heap.size + 1 + 1 + 1, 0, none⟩) (by show w.heap.size + 1 + 1 + 1 ≠ w.heap.size + 1 + 1; omega) (.int .i64 1)
  have s3 := ((q3.other (a := ⟨w.heap.size + 1 + 1, 0, none⟩) (by show w.heap.size + 1 + 1 ≠ w.heap.size + 1 + 1 + 1; omega) (.int .i64 0)).other (a := ⟨w.heap.size + 1 + 1, 1, none⟩) (by show w.heap.size + 1 + 1 ≠ w.heap.size + 1 + 1 + 1; omega) (.int .i64 0)).set 0 (.int .i64 1)
  have k0 := s2.cell 0; have k1 := s2.cell 1; have k3 := s3.cell 0
  simp only [List.set_cons_zero, List.set_cons_succ, List.getElem?_cons_zero, List.getElem?_cons_succ] at k0 k1 k3
  exact ⟨.tuple #[.agg #[.int .i64 0, .int .i64 0], .int .i64 1], by simp [results, Try.f6, go_sem, k0, k1, k3], rfl, (((BV.out.trans (hB1.mono (by omega))).setCell (p := ⟨w.heap.size + 1 + 1, 0, none⟩) (by show w.heap.size ≤ w.heap.size + 1 + 1; omega) _).setCell (p := ⟨w.heap.size + 1 + 1, 1, none⟩) (by show w.heap.size ≤ w.heap.size + 1 + 1; omega) _).setCell (p := ⟨w.heap.size + 1 + 1 + 1, 0, none⟩) (by show w.heap.size ≤ w.heap.size + 1 + 1 + 1; omega) _⟩
set_option maxRecDepth 100000 in
set_option maxHeartbeats 4000000 in
theorem implTi_most_lo (bS nS capS : Nat) (zs : List Int) (hnS : nS = zs.length) (b n cap : Nat) (js : List (Int × Int)) (hn : n = js.length) (most : Int) (w : World) (hS : Stk w bS zs) (hR : Rst w b js) (hg : okG zs js = true) (hl : most < 0) :
    Calls Try.prog 6 #[.slice (some ⟨bS, 0, none⟩) nS capS, .slice (some ⟨b, 0, none⟩) n cap, .int .i64 most] w (GivesB w (.tuple #[.agg #[.int .i64 (tiR zs js most).1.1, .int .i64 (tiR zs js most).1.2], .int .i64 (tiR zs js most).2])) := by
  have hle := hR.2.2
  rw [← hn] at hle
  have hbl := hR.1
  have hbs := hS.1
  have hN := hid hn
  obtain ⟨V, hV⟩ : ∃ V, V = (((w.alloc (.cells #[.slice (some ⟨bS, 0, none⟩) nS capS] 24)).alloc (.cells #[.int .i64 most] 2)).alloc (.cells #[.int .i64 0, .int .i64 0] 27)).alloc (.cells #[.int .i64 0] 2) := ⟨_, rfl⟩
  have sV : V.heap.size = w.heap.size + 1 + 1 + 1 + 1 := by rw [hV]; simp
  have bV : Below w.heap.size w V := by rw [hV]; exact ((((Below.refl _ w).alloc (Nat.le_refl _) _).alloc (by simp) _).alloc (by simp; omega) _).alloc (by simp; omega) _
  have r0 : Row V w.heap.size 24 [.slice (some ⟨bS, 0, none⟩) nS capS] := by rw [hV]; exact (((Row.new w _ _).alloc _).alloc _).alloc _
  have r1 : Row V (w.heap.size + 1) 2 [.int .i64 most] := by
    have h := ((Row.new (w.alloc (.cells #[.slice (some ⟨bS, 0, none⟩) nS capS] 24)) 2 [.int .i64 most]).alloc (.cells #[.int .i64 0, .int .i64 0] 27)).alloc (.cells #[.int .i64 0] 2)
    simp only [World.size_alloc] at h
    rw [hV]; exact h
  have r2 : Row V (w.heap.size + 1 + 1) 27 [.int .i64 0, .int .i64 0] := by
    have h := (Row.new ((w.alloc (.cells #[.slice (some ⟨bS, 0, none⟩) nS capS] 24)).alloc (.cells #[.int .i64 most] 2)) 27 [.int .i64 0, .int .i64 0]).alloc (.cells #[.int .i64 0] 2)
    simp only [World.size_alloc] at h
    rw [hV]; exact h
  have r3 : Row V (w.heap.size + 1 + 1 + 1) 2 [.int .i64 0] := by
    have h := Row.new (((w.alloc (.cells #[.slice (some ⟨bS, 0, none⟩) nS capS] 24)).alloc (.cells #[.int .i64 most] 2)).alloc (.cells #[.int .i64 0, .int .i64 0] 27)) 2 [.int .i64 0]
    simp only [World.size_alloc] at h
    rw [hV]; exact h
  have HVL := hid (implValidLog_any bS nS capS zs hnS b n cap js hn V (hS.below bV hbs) (hR.below bV hbl))
  have HS := hid hS
  have HR := hid hR
  have HV := hid hV
  have BV := hid bV
  have R0 := hid r0
  have R1 := hid r1
  have R2 := hid r2
  have R3 := hid r3
  have g1 : Fence.wide.fn 18 := trivial
  have g3 : Fence.wide.fn 19 := trivial
  have hm : 1 ≤ 8 := by omega
  rw [tiR_most hg (by omega)]
  rw [hg] at HVL
  have hl9 : ¬ 0 ≤ most := by omega
  refine (callsIn_wide (n := 8)).1 ?_
  refine callsIn_of_wp_marks Try.func6 rfl trivial ?_ rfl
  simp only [Try.ntmps6, List.size_toArray, List.length_cons, List.length_nil, Nat.reduceAdd, Nat.reduceSub, Array.replicate_succ, Array.replicate_zero, List.push_toArray, List.append_toArray, List.nil_append, List.cons_append]
  have c0 := r0.cell 0
  simp only [List.getElem?_cons_zero] at c0
  clear r0 r1 r2 r3 bV hV hS hR hn hnS
  gi_wp2_with (gi_at_call 18; rw [← HV.out]; refine (callsIn_wide.2 HVL.out).mono ?_; rintro e w1 ⟨rfl, hB1⟩; have hz1 := hB1.size; rw [sV] at hB1 hz1; have q1 := R1.out.below hB1 (by omega); have q2 := R2.out.below hB1 (by omega); have q3 := R3.out.below hB1 (by omega); have c1 := q1.cell 0; have e0 := q2.cell 0; have e1 := q2.cell 1; have f0 := q2.frozen 0; have f1 := q2.frozen 1; have e3 := q3.cell 0; have f3 := q3.frozen 0; simp only [List.getElem?_cons_zero, List.getElem?_cons_succ] at c1 e0 e1 e3)
  have s2 := ((q2.set 0 (.int .i64 0)).set 1 (.int .i64 0)).other (a := ⟨w.heap.size + 1 + 1 + 1, 0, none⟩) (by show w.heap.size + 1 + 1 + 1 ≠ w.heap.size + 1 + 1; omega) (.int .i64 2)
  have s3 := ((q3.other (a := ⟨w.heap.size + 1 + 1, 0, none⟩) (by show w.heap.size + 1 + 1 ≠ w.heap.size + 1 + 1 + 1; omega) (.int .i64 0)).other (a := ⟨w.heap.size + 1 + 1, 1, none⟩) (by show w.heap.size + 1 + 1 ≠ w.heap.size + 1 + 1 + 1; omega) (.int .i64 0)).set 0 (.int .i64 2)
  have k0 := s2.cell 0; have k1 := s2.cell 1; have k3 := s3.cell 0
  simp only [List.set_cons_zero, List.set_cons_succ, List.getElem?_cons_zero, List.getElem?_cons_succ] at k0 k1 k3
  exact ⟨.tuple #[.agg #[.int .i64 0, .int .i64 0], .int .i64 2], by simp [results, Try.f6, go_sem, k0, k1, k3], rfl, (((BV.out.trans (hB1.mono (by omega))).setCell (p := ⟨w.heap.size + 1 + 1, 0, none⟩) (by show w.heap.size ≤ w.heap.size + 1 + 1; omega) _).setCell (p := ⟨w.heap.size + 1 + 1, 1, none⟩) (by show w.heap.size ≤ w.heap.size + 1 + 1; omega) _).setCell (p := ⟨w.heap.size + 1 + 1 + 1, 0, none⟩) (by show w.heap.size ≤ w.heap.size + 1 + 1 + 1; omega) _⟩
set_option maxRecDepth 100000 in
set_option maxHeartbeats 4000000 in
theorem implTi_most_hi (bS nS capS : Nat) (zs : List Int) (hnS : nS = zs.length) (b n cap : Nat) (js : List (Int × Int)) (hn : n = js.length) (most : Int) (w : World) (hS : Stk w bS zs) (hR : Rst w b js) (hg : okG zs js = true) (hl : 1000000 < most) :
    Calls Try.prog 6 #[.slice (some ⟨bS, 0, none⟩) nS capS, .slice (some ⟨b, 0, none⟩) n cap, .int .i64 most] w (GivesB w (.tuple #[.agg #[.int .i64 (tiR zs js most).1.1, .int .i64 (tiR zs js most).1.2], .int .i64 (tiR zs js most).2])) := by
  have hle := hR.2.2
  rw [← hn] at hle
  have hbl := hR.1
  have hbs := hS.1
  have hN := hid hn
  obtain ⟨V, hV⟩ : ∃ V, V = (((w.alloc (.cells #[.slice (some ⟨bS, 0, none⟩) nS capS] 24)).alloc (.cells #[.int .i64 most] 2)).alloc (.cells #[.int .i64 0, .int .i64 0] 27)).alloc (.cells #[.int .i64 0] 2) := ⟨_, rfl⟩
  have sV : V.heap.size = w.heap.size + 1 + 1 + 1 + 1 := by rw [hV]; simp
  have bV : Below w.heap.size w V := by rw [hV]; exact ((((Below.refl _ w).alloc (Nat.le_refl _) _).alloc (by simp) _).alloc (by simp; omega) _).alloc (by simp; omega) _
  have r0 : Row V w.heap.size 24 [.slice (some ⟨bS, 0, none⟩) nS capS] := by rw [hV]; exact (((Row.new w _ _).alloc _).alloc _).alloc _
  have r1 : Row V (w.heap.size + 1) 2 [.int .i64 most] := by
    have h := ((Row.new (w.alloc (.cells #[.slice (some ⟨bS, 0, none⟩) nS capS] 24)) 2 [.int .i64 most]).alloc (.cells #[.int .i64 0, .int .i64 0] 27)).alloc (.cells #[.int .i64 0] 2)
    simp only [World.size_alloc] at h
    rw [hV]; exact h
  have r2 : Row V (w.heap.size + 1 + 1) 27 [.int .i64 0, .int .i64 0] := by
    have h := (Row.new ((w.alloc (.cells #[.slice (some ⟨bS, 0, none⟩) nS capS] 24)).alloc (.cells #[.int .i64 most] 2)) 27 [.int .i64 0, .int .i64 0]).alloc (.cells #[.int .i64 0] 2)
    simp only [World.size_alloc] at h
    rw [hV]; exact h
  have r3 : Row V (w.heap.size + 1 + 1 + 1) 2 [.int .i64 0] := by
    have h := Row.new (((w.alloc (.cells #[.slice (some ⟨bS, 0, none⟩) nS capS] 24)).alloc (.cells #[.int .i64 most] 2)).alloc (.cells #[.int .i64 0, .int .i64 0] 27)) 2 [.int .i64 0]
    simp only [World.size_alloc] at h
    rw [hV]; exact h
  have HVL := hid (implValidLog_any bS nS capS zs hnS b n cap js hn V (hS.below bV hbs) (hR.below bV hbl))
  have HS := hid hS
  have HR := hid hR
  have HV := hid hV
  have BV := hid bV
  have R0 := hid r0
  have R1 := hid r1
  have R2 := hid r2
  have R3 := hid r3
  have g1 : Fence.wide.fn 18 := trivial
  have g3 : Fence.wide.fn 19 := trivial
  have hm : 1 ≤ 8 := by omega
  rw [tiR_most hg (by omega)]
  rw [hg] at HVL
  have hl9 : ¬ most < 0 := by omega
  refine (callsIn_wide (n := 8)).1 ?_
  refine callsIn_of_wp_marks Try.func6 rfl trivial ?_ rfl
  simp only [Try.ntmps6, List.size_toArray, List.length_cons, List.length_nil, Nat.reduceAdd, Nat.reduceSub, Array.replicate_succ, Array.replicate_zero, List.push_toArray, List.append_toArray, List.nil_append, List.cons_append]
  have c0 := r0.cell 0
  simp only [List.getElem?_cons_zero] at c0
  clear r0 r1 r2 r3 bV hV hS hR hn hnS
  gi_wp2_with (gi_at_call 18; rw [← HV.out]; refine (callsIn_wide.2 HVL.out).mono ?_; rintro e w1 ⟨rfl, hB1⟩; have hz1 := hB1.size; rw [sV] at hB1 hz1; have q1 := R1.out.below hB1 (by omega); have q2 := R2.out.below hB1 (by omega); have q3 := R3.out.below hB1 (by omega); have c1 := q1.cell 0; have e0 := q2.cell 0; have e1 := q2.cell 1; have f0 := q2.frozen 0; have f1 := q2.frozen 1; have e3 := q3.cell 0; have f3 := q3.frozen 0; simp only [List.getElem?_cons_zero, List.getElem?_cons_succ] at c1 e0 e1 e3)
  have s2 := ((q2.set 0 (.int .i64 0)).set 1 (.int .i64 0)).other (a := ⟨w.heap.size + 1 + 1 + 1, 0, none⟩) (by show w.heap.size + 1 + 1 + 1 ≠ w.heap.size + 1 + 1; omega) (.int .i64 2)
  have s3 := ((q3.other (a := ⟨w.heap.size + 1 + 1, 0, none⟩) (by show w.heap.size + 1 + 1 ≠ w.heap.size + 1 + 1 + 1; omega) (.int .i64 0)).other (a := ⟨w.heap.size + 1 + 1, 1, none⟩) (by show w.heap.size + 1 + 1 ≠ w.heap.size + 1 + 1 + 1; omega) (.int .i64 0)).set 0 (.int .i64 2)
  have k0 := s2.cell 0; have k1 := s2.cell 1; have k3 := s3.cell 0
  simp only [List.set_cons_zero, List.set_cons_succ, List.getElem?_cons_zero, List.getElem?_cons_succ] at k0 k1 k3
  exact ⟨.tuple #[.agg #[.int .i64 0, .int .i64 0], .int .i64 2], by simp [results, Try.f6, go_sem, k0, k1, k3], rfl, (((BV.out.trans (hB1.mono (by omega))).setCell (p := ⟨w.heap.size + 1 + 1, 0, none⟩) (by show w.heap.size ≤ w.heap.size + 1 + 1; omega) _).setCell (p := ⟨w.heap.size + 1 + 1, 1, none⟩) (by show w.heap.size ≤ w.heap.size + 1 + 1; omega) _).setCell (p := ⟨w.heap.size + 1 + 1 + 1, 0, none⟩) (by show w.heap.size ≤ w.heap.size + 1 + 1 + 1; omega) _⟩
/-- what lies there in the rounds: the least flow so far, and the boxes of the call -/
def TiW (w : World) (q : Nat) (bS nS capS : Nat) (most h : Int) (W : World) : Prop :=
  Row W q 2 [.int .i64 h] ∧ Row W w.heap.size 24 [.slice (some ⟨bS, 0, none⟩) nS capS] ∧ Row W (w.heap.size + 1) 2 [.int .i64 most] ∧ Row W (w.heap.size + 1 + 1) 27 [.int .i64 0, .int .i64 0] ∧ Row W (w.heap.size + 1 + 1 + 1) 2 [.int .i64 0]
theorem TiW.kept {w : World} {q bS nS capS : Nat} {most h : Int} {A B : World} {row : Option Nat} (hs : TiW w q bS nS capS most h A) (hg : A.grownBy B row) (hr : ∀ r, row = some r → ∃ o : Obj, A.heap[r]? = some o ∧ o.isCells = false) : TiW w q bS nS capS most h B :=
  ⟨row_kept hs.1 hg hr, row_kept hs.2.1 hg hr, row_kept hs.2.2.1 hg hr, row_kept hs.2.2.2.1 hg hr, row_kept hs.2.2.2.2 hg hr⟩
theorem TiW.keep {w : World} {q bS nS capS : Nat} {most h : Int} {A B : World} (hs : TiW w q bS nS capS most h A) (hb : Below A.heap.size A B) : TiW w q bS nS capS most h B :=
  ⟨hs.1.below hb hs.1.lt, hs.2.1.below hb hs.2.1.lt, hs.2.2.1.below hb hs.2.2.1.lt, hs.2.2.2.1.below hb hs.2.2.2.1.lt, hs.2.2.2.2.below hb hs.2.2.2.2.lt⟩
theorem TiW.store {w : World} {q bS nS capS : Nat} {most h h' : Int} {A : World} (hs : TiW w q bS nS capS most h A) (hq : w.heap.size + 1 + 1 + 1 < q) : TiW w q bS nS capS most h' (A.setCell ⟨q, 0, none⟩ (.int .i64 h')) :=
  ⟨hs.1.set 0 _, hs.2.1.other (a := ⟨q, 0, none⟩) (by show q ≠ w.heap.size; omega) _, hs.2.2.1.other (a := ⟨q, 0, none⟩) (by show q ≠ w.heap.size + 1; omega) _, hs.2.2.2.1.other (a := ⟨q, 0, none⟩) (by show q ≠ w.heap.size + 1 + 1; omega) _, hs.2.2.2.2.other (a := ⟨q, 0, none⟩) (by show q ≠ w.heap.size + 1 + 1 + 1; omega) _⟩
theorem row_typeT {w : World} {g : Nat} {T U : TypeId} {xs ys : List Value} (h : Row w g T xs) (k : Row w g U ys) : T = U := by
  unfold Row at h k
  rw [h] at k
  simp only [Option.some.injEq, Obj.cells.injEq] at k
  exact k.2.1
theorem TiW.off {w : World} {q p bS nS capS : Nat} {most h : Int} {A : World} {u : Value} (hs : TiW w q bS nS capS most h A) (hq : p ≠ q) (hp : w.heap.size + 1 + 1 + 1 < p) : TiW w q bS nS capS most h (A.setCell ⟨p, 0, none⟩ u) :=
  ⟨hs.1.other (a := ⟨p, 0, none⟩) hq _, hs.2.1.other (a := ⟨p, 0, none⟩) (by show p ≠ w.heap.size; omega) _, hs.2.2.1.other (a := ⟨p, 0, none⟩) (by show p ≠ w.heap.size + 1; omega) _, hs.2.2.2.1.other (a := ⟨p, 0, none⟩) (by show p ≠ w.heap.size + 1 + 1; omega) _, hs.2.2.2.2.other (a := ⟨p, 0, none⟩) (by show p ≠ w.heap.size + 1 + 1 + 1; omega) _⟩
theorem ownFrom_block {β : Type} {B D : Nat} {o : Obj} (hD : D < B) : OwnFrom B (fun (_ : β) W => W.heap[D]? = some o) :=
  fun s W W' row hs hg hr => (hg.5 D (lt_of_block hs) (fun e => by have := (hr D e.symm).1; omega)).trans hs
set_option maxRecDepth 100000 in
set_option maxHeartbeats 4000000 in
theorem implTi_main (bS nS capS : Nat) (zs : List Int) (hnS : nS = zs.length) (b n cap : Nat) (js : List (Int × Int)) (hn : n = js.length) (most : Int) (w : World) (hS : Stk w bS zs) (hR : Rst w b js) (hg : okG zs js = true) (hm0 : 0 ≤ most) (hm9 : most ≤ 1000000) :
    Calls Try.prog 6 #[.slice (some ⟨bS, 0, none⟩) nS capS, .slice (some ⟨b, 0, none⟩) n cap, .int .i64 most] w (GivesB w (.tuple #[.agg #[.int .i64 (tiR zs js most).1.1, .int .i64 (tiR zs js most).1.2], .int .i64 (tiR zs js most).2])) := by
  have hle := hR.2.2
  rw [← hn] at hle
  have hbl := hR.1
  have hbs := hS.1
  have hN := hid hn
  obtain ⟨V, hV⟩ : ∃ V, V = (((w.alloc (.cells #[.slice (some ⟨bS, 0, none⟩) nS capS] 24)).alloc (.cells #[.int .i64 most] 2)).alloc (.cells #[.int .i64 0, .int .i64 0] 27)).alloc (.cells #[.int .i64 0] 2) := ⟨_, rfl⟩
  have sV : V.heap.size = w.heap.size + 1 + 1 + 1 + 1 := by rw [hV]; simp
  have bV : Below w.heap.size w V := by rw [hV]; exact ((((Below.refl _ w).alloc (Nat.le_refl _) _).alloc (by simp) _).alloc (by simp; omega) _).alloc (by simp; omega) _
  have r0 : Row V w.heap.size 24 [.slice (some ⟨bS, 0, none⟩) nS capS] := by rw [hV]; exact (((Row.new w _ _).alloc _).alloc _).alloc _
  have r1 : Row V (w.heap.size + 1) 2 [.int .i64 most] := by
    have h := ((Row.new (w.alloc (.cells #[.slice (some ⟨bS, 0, none⟩) nS capS] 24)) 2 [.int .i64 most]).alloc (.cells #[.int .i64 0, .int .i64 0] 27)).alloc (.cells #[.int .i64 0] 2)
    simp only [World.size_alloc] at h
    rw [hV]; exact h
  have r2 : Row V (w.heap.size + 1 + 1) 27 [.int .i64 0, .int .i64 0] := by
    have h := (Row.new ((w.alloc (.cells #[.slice (some ⟨bS, 0, none⟩) nS capS] 24)).alloc (.cells #[.int .i64 most] 2)) 27 [.int .i64 0, .int .i64 0]).alloc (.cells #[.int .i64 0] 2)
    simp only [World.size_alloc] at h
    rw [hV]; exact h
  have r3 : Row V (w.heap.size + 1 + 1 + 1) 2 [.int .i64 0] := by
    have h := Row.new (((w.alloc (.cells #[.slice (some ⟨bS, 0, none⟩) nS capS] 24)).alloc (.cells #[.int .i64 most] 2)).alloc (.cells #[.int .i64 0, .int .i64 0] 27)) 2 [.int .i64 0]
    simp only [World.size_alloc] at h
    rw [hV]; exact h
  have HVL := hid (implValidLog_any bS nS capS zs hnS b n cap js hn V (hS.below bV hbs) (hR.below bV hbl))
  have HS := hid hS
  have HR := hid hR
  have HV := hid hV
  have BV := hid bV
  have R0 := hid r0
  have R1 := hid r1
  have R2 := hid r2
  have R3 := hid r3
  have g1 : Fence.wide.fn 18 := trivial
  have g3 : Fence.wide.fn 19 := trivial
  have hm : 1 ≤ 8 := by omega
  rw [hg] at HVL
  have HG := hid hg
  have hl1 : decide (most < 0) = false := by simpa using hm0
  have hl2 : decide (1000000 < most) = false := by simpa using hm9
  have HDY := hid (fun x => okG_dy hg x)
  have hv1 := (okG_out hg).1
  have HZ := hid (And.intro (okL_out hv1).2.2.2.1 (okL_out hv1).2.2.2.2)
  have HLF := hid (fun (a u b' v : Int) (h : -1000000000000 ≤ v - u ∧ v - u ≤ 1000000000000) (W : World) (s : Stk W bS zs) => leastFrom_any bS nS capS zs hnS hv1 a u b' v 0 h (by omega) W s)
  have HGT := hid (fun (a u b' v lo : Int) (h : -1000000000000 ≤ v - u ∧ v - u ≤ 1000000000000) (k : 0 ≤ lo ∧ lo ≤ 1000000000000) (W : World) (s : Stk W bS zs) => greatestTo_any bS nS capS zs hnS hv1 a u b' v lo h k W s)
  clear hv1 hg
  refine (callsIn_wide (n := 8)).1 ?_
  refine callsIn_of_wp_marks Try.func6 rfl trivial ?_ rfl
  simp only [Try.ntmps6, List.size_toArray, List.length_cons, List.length_nil, Nat.reduceAdd, Nat.reduceSub, Array.replicate_succ, Array.replicate_zero, List.push_toArray, List.append_toArray, List.nil_append, List.cons_append]
  have c0 := r0.cell 0
  simp only [List.getElem?_cons_zero] at c0
  clear r0 r1 r2 r3 bV hV hS hR hn hnS
  gi_wp2_with (first | (gi_at_call 18; rw [← HV.out]; refine (callsIn_wide.2 HVL.out).mono ?_; rintro e w1 ⟨rfl, hB1⟩; have hz1 := hB1.size; rw [sV] at hB1 hz1; have q1 := R1.out.below hB1 (by omega); have q2 := R2.out.below hB1 (by omega); have q3 := R3.out.below hB1 (by omega); have c1 := q1.cell 0; have e0 := q2.cell 0; have e1 := q2.cell 1; have f0 := q2.frozen 0; have f1 := q2.frozen 1; have e3 := q3.cell 0; have f3 := q3.frozen 0; simp only [List.getElem?_cons_zero, List.getElem?_cons_succ] at c1 e0 e1 e3) | (gi_at_call 19; refine (itv_in Fence.wide _ trivial rfl _ _ _ _).mono ?_; rintro e w' ⟨rfl, rfl⟩))
  clear c0 c1 e0 e1 e3 f0 f1 f3
  obtain ⟨V1, hV1⟩ : ∃ V1, V1 = ((w1.alloc (.cells #[.int .i64 0] 2)).alloc (.cells #[.slice (some ⟨b, 0, none⟩) n cap] 25)) := ⟨_, rfl⟩
  have q0 := R0.out.below hB1 (by omega)
  have sV1 : V1.heap.size = w1.heap.size + 1 + 1 := by rw [hV1]; simp
  have bV1 : Below w.heap.size w V1 := by rw [hV1]; exact (((BV.out.trans (hB1.mono (by omega))).alloc (by omega) _).alloc (by simp; omega) _)
  have T0 : TiW w w1.heap.size bS nS capS most 0 V1 := by
    rw [hV1]
    exact ⟨(Row.new w1 _ _).alloc _, (q0.alloc _).alloc _, (q1.alloc _).alloc _, (q2.alloc _).alloc _, (q3.alloc _).alloc _⟩
  have qB : Row V1 (w1.heap.size + 1) 25 [.slice (some ⟨b, 0, none⟩) n cap] := by
    have h := Row.new (w1.alloc (.cells #[.int .i64 0] 2)) 25 [.slice (some ⟨b, 0, none⟩) n cap]
    simp only [World.size_alloc] at h
    rw [hV1]; exact h
  rw [← hV1]
  clear hV1 q0 q1 q2 q3
  have cB := qB.cell 0
  simp only [List.getElem?_cons_zero] at cB
  have hq1 : w.heap.size + 1 + 1 + 1 < w1.heap.size := by omega
  have hC := HR.out.2.1
  have hcV : ∀ j, j < n → V1.cell? ⟨b, j * 2, none⟩ = some (.int .i64 (rd js j)) ∧ V1.cell? ⟨b, j * 2 + 1, none⟩ = some (.int .i64 (rv js j)) := fun j hj =>
    ⟨(bV1.cell (p := ⟨b, j * 2, none⟩) hbl).trans (hC j (by rw [← hN.out]; exact hj)).1, (bV1.cell (p := ⟨b, j * 2 + 1, none⟩) hbl).trans (hC j (by rw [← hN.out]; exact hj)).2⟩
  have HSL := hid (show ∀ g, g = b ∨ g = w1.heap.size + 1 → g < V1.heap.size from fun g hg => by rcases hg with rfl | rfl <;> omega)
  have BV1 := hid bV1
  have HT0 := hid T0
  clear hC T0 qB
  refine wpIn_rangeFunc_ownH rfl hm (gf := 48) (lb := #[.pointer (some ⟨w1.heap.size + 1, 0, none⟩)]) rfl trivial (enters_of Try.func48 (by kernel_rfl) rfl)
    (itv_stops Fence.wide 7 trivial rfl (by omega) (w1.heap.size + 1) b n cap js hN.out hle V1 (by omega) (by omega) cB hcV) KeepB.trans (keepB_b HSL.out) (Below.refl _ _) (fun _ => rfl)
    (fun pre W => (hiP (szL zs) js pre ≤ most ∧ TiW w w1.heap.size bS nS capS most (hiP (szL zs) js pre) W) ∧ (Below w.heap.size w W ∧ V1.heap.size ≤ W.heap.size))
    (fun c pre W => (c = .ret ∧ (∃ x : Fin (n - 1), most < hkI (szL zs) js x.1) ∧ Row W (w.heap.size + 1 + 1) 27 [.int .i64 0, .int .i64 0] ∧ Row W (w.heap.size + 1 + 1 + 1) 2 [.int .i64 6]) ∧ Below w.heap.size w W)
    (OwnFrom.and (Own.from (fun s A B row hs hg hr => ⟨hs.1, hs.2.kept hg hr⟩) _) (OwnFrom.and (ownFrom_below (Nat.le_refl _) (by omega)) (fun s A B row hs hg hr => Nat.le_trans hs hg.4)))
    (fun c => OwnFrom.and (Own.from (fun s A B row hs hg hr => ⟨hs.1, hs.2.1, row_kept hs.2.2.1 hg hr, row_kept hs.2.2.2 hg hr⟩) _) (ownFrom_below (Nat.le_refl _) (by omega)))
    ⟨⟨hm0, HT0.out⟩, BV1.out, Nat.le_refl _⟩
    (fun x a' W => ∃ g, a' = { tmps := #[.slice (some ⟨bS, 0, none⟩) nS capS, .slice (some ⟨b, 0, none⟩) n cap, .int .i64 most, .pointer (some ⟨w.heap.size, 0, none⟩), undef, .pointer (some ⟨w.heap.size + 1, 0, none⟩), .pointer (some ⟨w.heap.size + 1 + 1, 0, none⟩), .pointer (some ⟨w.heap.size + 1 + 1 + 1, 0, none⟩), .pointer (some ⟨w1.heap.size, 0, none⟩), undef, .pointer (some ⟨g, 0, none⟩), undef, undef, undef, undef, undef, .slice (some ⟨bS, 0, none⟩) nS capS, .slice (some ⟨b, 0, none⟩) n cap, .bool true, .bool false, undef, .int .i64 most, .bool false, .bool false, .int .i64 most, .bool false, .bool false, undef, .slice (some ⟨b, 0, none⟩) n cap, .func (.func 48) #[] #[.pointer (some ⟨w1.heap.size + 1, 0, none⟩)], .int .i64 ((x.1 : Int) + 1), .agg #[.int .i64 (rd js x.1), .int .i64 (rv js x.1), .int .i64 (rd js (x.1 + 1)), .int .i64 (rv js (x.1 + 1))], undef, undef, undef, undef, undef, undef, undef, undef, undef, undef, undef, undef, undef, undef, undef, undef, undef, undef, undef, undef, undef, undef, undef, undef, undef, undef, undef, undef, undef, undef, undef, undef, undef, undef, undef, undef, undef], defers := [] } ∧ Row W g 56 [.int .i64 (rd js x.1), .int .i64 (rv js x.1), .int .i64 (rd js (x.1 + 1)), .int .i64 (rv js (x.1 + 1))])
    (fun x a' => Own.from (fun s A B row hs hg hr => by obtain ⟨g, e, h⟩ := hs; exact ⟨g, e, row_kept h hg hr⟩) _) ?assign ?body ?done ?stop
  case assign =>
    intro l pre x W K hI hK
    have hzI := hI.2.2
    have bA := box4_bel W 56 (.int .i64 (rd js x.1)) (.int .i64 (rv js x.1)) (.int .i64 (rd js (x.1 + 1))) (.int .i64 (rv js (x.1 + 1)))
    have hAA := hK _ (W.alloc (.cells #[.int .i64 (rd js x.1), .int .i64 (rv js x.1), .int .i64 (rd js (x.1 + 1)), .int .i64 (rv js (x.1 + 1))] 56)) ((KeepsOthers.alloc W _).from _) (keepB_of bA (fun g hg => Nat.lt_of_lt_of_le (HSL.out g hg) hzI)) ⟨⟨hI.1.1, hI.1.2.keep bA⟩, hI.2.1.trans (bA.mono hI.2.1.size), by simp; omega⟩ ⟨W.heap.size, rfl, Row.new W _ _⟩
    clear hK
    simp only [itvA]
    gi_wp2
    exact hAA
  case body =>
    rintro l pre x a' W _ _ ⟨⟨hle1, hT⟩, hB5, hz5⟩ ⟨g, rfl, hrow⟩ _
    have hx := x.2
    have dy : 1 ≤ dyI js x.1 ∧ dyI js x.1 ≤ 100000 ∧ -1000000000000 ≤ wyI js x.1 ∧ wyI js x.1 ≤ 1000000000000 := HDY.out ⟨x.1, by have := hN.out; omega⟩
    have hb9 := hk_bd (z := szL zs) (js := js) (k := x.1) HZ.out dy.1
    have hl9 := lst_bd (z := szL zs) (way := wyI js x.1) HZ.out.1
    have hz9 := HZ.out.2
    have hge := hiP_ge (szL zs) js pre
    have hsn := hid (hiP_snoc (szL zs) js pre x)
    have HLX := hid (fun W (s : Stk W bS zs) => HLF.out (rd js x.1) (rv js x.1) (rd js (x.1 + 1)) (rv js (x.1 + 1)) ⟨dy.2.2.1, dy.2.2.2⟩ W s)
    have HDX := hid (fun W => days_any (rd js x.1) (rv js x.1) (rd js (x.1 + 1)) (rv js (x.1 + 1)) (by unfold dyI at dy; omega) W)
    have sS := HS.out.below hB5 hbs
    have hHK : hkI (szL zs) js x.1 = (lstI (szL zs) (wyI js x.1) 0 + dyI js x.1 - 1) / dyI js x.1 := rfl
    obtain ⟨HK, hHKe⟩ : ∃ y, hkI (szL zs) js x.1 = y := ⟨_, rfl⟩
    obtain ⟨L, hL⟩ : ∃ y, lstI (szL zs) (wyI js x.1) 0 = y := ⟨_, rfl⟩
    obtain ⟨d, hd⟩ : ∃ y, dyI js x.1 = y := ⟨_, rfl⟩
    obtain ⟨h, hh⟩ : ∃ y, hiP (szL zs) js pre = y := ⟨_, rfl⟩
    rw [show rv js (x.1 + 1) - rv js x.1 = wyI js x.1 from rfl, hL] at HLX
    rw [show rd js (x.1 + 1) - rd js x.1 = dyI js x.1 from rfl, hd] at HDX
    rw [hHKe] at hHK hb9 hsn
    rw [hL] at hHK hl9
    rw [hd] at hHK dy
    rw [hh] at hT hle1 hge hsn
    have HQ := hid (show most < HK → ∃ x : Fin (n - 1), most < hkI (szL zs) js x.1 from fun h => ⟨x, by rw [hHKe]; exact h⟩)
    obtain ⟨d1, d2, _, _⟩ := dy
    have HHK := hid hHK
    have n1 : IntKind.i64.wrap (L + d) = L + d := IntWalk.i64_in _ (by omega)
    have n2 : IntKind.i64.wrap (L + d - 1) = L + d - 1 := IntWalk.i64_in _ (by omega)
    have td : (L + d - 1).tdiv d = HK := by rw [HHK.out]; exact Int.tdiv_eq_ediv_of_nonneg (by omega)
    have nd : d ≠ 0 := by omega
    have n3 : IntKind.i64.wrap HK = HK := IntWalk.i64_in _ (by omega)
    obtain ⟨M, hM⟩ : ∃ y, max h HK = y := ⟨_, rfl⟩
    rw [hM] at hsn
    have MX : ∀ w, Sem.run Try.prog (Builtin.max_ #[2, 2] 2 #[.int .i64 h, .int .i64 HK]) w = .ok (.int .i64 M) w := fun w => by
      have : (if HK > h then HK else h) = max h HK := by split <;> omega
      rw [← hM, ← this]; rfl
    have hM2 : most < M → most < HK := by omega
    have HM2 := hid hM2
    have hM0 : 0 ≤ M ∧ M ≤ 1000000000000 := by omega
    have rst := hT.2.1
    have HH := hid hh
    clear hHK hL hd hh hHKe hM hM2 HLF HGT HDY HVL hB1
    gi_wp2
    refine region_held (S := fun W' : World => Row W' w.heap.size 24 [.slice (some ⟨bS, 0, none⟩) nS capS] ∧ Row W' g 56 [.int .i64 (rd js x.1), .int .i64 (rv js x.1), .int .i64 (rd js (x.1 + 1)), .int .i64 (rv js (x.1 + 1))]) (by kernel_rfl) (by kernel_rfl) (fun hnd => ?_)
    obtain ⟨W0, hW0⟩ : ∃ X, X = World.drew (W) := ⟨_, rfl⟩
    have hD0 : Below (W).heap.size (W) W0 := by rw [hW0]; exact (Below.refl _ _).drew
    have kD0 : KeepsOthers (W) W0 := by rw [hW0]; exact KeepsOthers.drew _
    replace rst := rst.below hD0 rst.lt
    replace hrow := hrow.below hD0 hrow.lt
    replace sS := sS.below hD0 sS.1
    replace hT := hT.keep hD0
    rw [← hW0]
    clear hW0
    have bR : Below (W).heap.size (W) W0 := hD0
    have kR : KeepsOthers (W) W0 := kD0
    clear hD0 kD0
    have hS0 : (fun W' : World => Row W' w.heap.size 24 [.slice (some ⟨bS, 0, none⟩) nS capS] ∧ Row W' g 56 [.int .i64 (rd js x.1), .int .i64 (rv js x.1), .int .i64 (rd js (x.1 + 1)), .int .i64 (rv js (x.1 + 1))]) W0 := ⟨rst, hrow⟩
    refine anyS_takeD (some 32) (i := 0) (v := ?_) hnd rfl rfl (by kernel_rfl) (by kernel_rfl) (by kernel_rfl) (fun _ _ _ h => h) ⟨by rfl, ?_, fun _ => rfl⟩ hS0 ?_
    rotate_left
    · intro w' hw'; have hrow0 := hw'.1; have e0x0 := Row.cell hrow0 0; simp only [List.getElem?_cons_zero, List.getElem?_cons_succ] at e0x0; clear hrow0; have hrow1 := hw'.2; have e1x0 := Row.cell hrow1 0; have e1x1 := Row.cell hrow1 1; have e1x2 := Row.cell hrow1 2; have e1x3 := Row.cell hrow1 3; simp only [List.getElem?_cons_zero, List.getElem?_cons_succ] at e1x0 e1x1 e1x2 e1x3; clear hrow1; clear hw'; go_simp; try with_reducible rfl
    try simp only [Act.put, List.setIfInBounds_toArray, List.set_cons_zero, List.set_cons_succ]
    refine anyS_takeD (some 33) (i := 1) (v := ?_) hnd rfl rfl (by kernel_rfl) (by kernel_rfl) (by kernel_rfl) (fun _ _ _ h => h) ⟨by rfl, ?_, fun _ => rfl⟩ hS0 ?_
    rotate_left
    · intro w' hw'; have hrow0 := hw'.1; have e0x0 := Row.cell hrow0 0; simp only [List.getElem?_cons_zero, List.getElem?_cons_succ] at e0x0; clear hrow0; have hrow1 := hw'.2; have e1x0 := Row.cell hrow1 0; have e1x1 := Row.cell hrow1 1; have e1x2 := Row.cell hrow1 2; have e1x3 := Row.cell hrow1 3; simp only [List.getElem?_cons_zero, List.getElem?_cons_succ] at e1x0 e1x1 e1x2 e1x3; clear hrow1; clear hw'; go_simp; try with_reducible rfl
    try simp only [Act.put, List.setIfInBounds_toArray, List.set_cons_zero, List.set_cons_succ]
    refine anyS_takeD (some 35) (i := 3) (v := ?_) hnd rfl rfl (by kernel_rfl) (by kernel_rfl) (by kernel_rfl) (fun _ _ _ h => h) ⟨by rfl, ?_, fun _ => rfl⟩ hS0 ?_
    rotate_left
    · intro w' hw'; have hrow0 := hw'.1; have e0x0 := Row.cell hrow0 0; simp only [List.getElem?_cons_zero, List.getElem?_cons_succ] at e0x0; clear hrow0; have hrow1 := hw'.2; have e1x0 := Row.cell hrow1 0; have e1x1 := Row.cell hrow1 1; have e1x2 := Row.cell hrow1 2; have e1x3 := Row.cell hrow1 3; simp only [List.getElem?_cons_zero, List.getElem?_cons_succ] at e1x0 e1x1 e1x2 e1x3; clear hrow1; clear hw'; go_simp; try with_reducible rfl
    try simp only [Act.put, List.setIfInBounds_toArray, List.set_cons_zero, List.set_cons_succ]
    refine anyS_call (i := 2) (by kernel_rfl) rfl (by rfl) (fun K hKK => ?_)
    go_simp
    refine ⟨trivial, (CallsIn.inRound l (callsIn_wide.2 (HLX.out W0 sS))).mono ?_⟩
    rintro e v1 ⟨rfl, hB1⟩
    dsimp only
    replace rst := rst.below hB1 rst.lt
    replace hrow := hrow.below hB1 hrow.lt
    replace sS := sS.below hB1 sS.1
    replace hT := hT.keep hB1
    replace kR := kR.trans (keepsOthers_of hB1)
    replace bR := bR.trans (hB1.mono bR.size)
    have hS1 : (fun W' : World => Row W' w.heap.size 24 [.slice (some ⟨bS, 0, none⟩) nS capS] ∧ Row W' g 56 [.int .i64 (rd js x.1), .int .i64 (rv js x.1), .int .i64 (rd js (x.1 + 1)), .int .i64 (rv js (x.1 + 1))]) v1 := ⟨rst, hrow⟩
    clear hB1
    refine hKK _ _ hS1 ?_
    try simp only [Act.put, List.setIfInBounds_toArray, List.set_cons_zero, List.set_cons_succ]
    refine anyS_call (i := 4) (by kernel_rfl) rfl (by rfl) (fun K hKK => ?_)
    go_simp
    refine ⟨trivial, (CallsIn.inRound l (callsIn_wide.2 (HDX.out v1))).mono ?_⟩
    rintro e v2 ⟨rfl, hB2⟩
    dsimp only
    replace rst := rst.below hB2 rst.lt
    replace hrow := hrow.below hB2 hrow.lt
    replace sS := sS.below hB2 sS.1
    replace hT := hT.keep hB2
    replace kR := kR.trans (keepsOthers_of hB2)
    replace bR := bR.trans (hB2.mono bR.size)
    have hS2 : (fun W' : World => Row W' w.heap.size 24 [.slice (some ⟨bS, 0, none⟩) nS capS] ∧ Row W' g 56 [.int .i64 (rd js x.1), .int .i64 (rv js x.1), .int .i64 (rd js (x.1 + 1)), .int .i64 (rv js (x.1 + 1))]) v2 := ⟨rst, hrow⟩
    clear hB2
    refine hKK _ _ hS2 ?_
    try simp only [Act.put, List.setIfInBounds_toArray, List.set_cons_zero, List.set_cons_succ]
    refine anyS_takeD (some 11) (i := 5) (v := ?_) hnd rfl rfl (by kernel_rfl) (by kernel_rfl) (by kernel_rfl) (fun _ _ _ h => h) ⟨by rfl, ?_, fun _ => rfl⟩ hS2 ?_
    rotate_left
    · intro w' hw'; go_simp; try with_reducible rfl
    try simp only [Act.put, List.setIfInBounds_toArray, List.set_cons_zero, List.set_cons_succ]
    refine anyS_takeD (some 12) (i := 6) (v := ?_) hnd rfl rfl (by kernel_rfl) (by kernel_rfl) (by kernel_rfl) (fun _ _ _ h => h) ⟨by rfl, ?_, fun _ => rfl⟩ hS2 ?_
    rotate_left
    · intro w' hw'; go_simp; try with_reducible rfl
    try simp only [Act.put, List.setIfInBounds_toArray, List.set_cons_zero, List.set_cons_succ]
    refine anyS_done (by kernel_rfl) ?_ _
    have bR1 := hid bR
    have kR1 := hid kR
    clear bR kR rst hrow sS
    gi_wp2
    refine region_held (S := fun _ : World => True) (by kernel_rfl) (by kernel_rfl) (fun hnd => ?_)
    obtain ⟨W9, hW9⟩ : ∃ X, X = World.drew v2 := ⟨_, rfl⟩
    have hD9 : Below v2.heap.size v2 W9 := by rw [hW9]; exact (Below.refl _ _).drew
    have kD9 : KeepsOthers v2 W9 := by rw [hW9]; exact KeepsOthers.drew _
    have hT9 := hT.keep hD9
    rw [← hW9]
    clear hW9
    have hS0 : (fun _ : World => True) W9 := trivial
    have rq := hT9.1
    have kq0 := rq.cell 0
    have kf0 := rq.frozen 0
    simp only [List.getElem?_cons_zero] at kq0
    refine anyS_takeD (some 38) (i := 1) (v := ?_) hnd rfl rfl (by kernel_rfl) (by kernel_rfl) (by kernel_rfl) (fun _ _ _ h => h) ⟨by rfl, ?_, fun _ => rfl⟩ hS0 ?_
    rotate_left
    · intro w' hw'; go_simp; try with_reducible rfl
    try simp only [Act.put, List.setIfInBounds_toArray, List.set_cons_zero, List.set_cons_succ]
    refine anyS_takeD (some 39) (i := 2) (v := ?_) hnd rfl rfl (by kernel_rfl) (by kernel_rfl) (by kernel_rfl) (fun _ _ _ h => h) ⟨by rfl, ?_, fun _ => rfl⟩ hS0 ?_
    rotate_left
    · intro w' hw'; go_simp; try with_reducible rfl
    try simp only [Act.put, List.setIfInBounds_toArray, List.set_cons_zero, List.set_cons_succ]
    refine anyS_takeD (some 40) (i := 3) (v := ?_) hnd rfl rfl (by kernel_rfl) (by kernel_rfl) (by kernel_rfl) (fun _ _ _ h => h) ⟨by rfl, ?_, fun _ => rfl⟩ hS0 ?_
    rotate_left
    · intro w' hw'; go_simp; try with_reducible rfl
    try simp only [Act.put, List.setIfInBounds_toArray, List.set_cons_zero, List.set_cons_succ]
    refine anyS_takeD (some 41) (i := 4) (v := ?_) hnd rfl rfl (by kernel_rfl) (by kernel_rfl) (by kernel_rfl) (fun _ _ _ h => h) ⟨by rfl, ?_, fun _ => rfl⟩ hS0 ?_
    rotate_left
    · intro w' hw'; go_simp; try with_reducible rfl
    try simp only [Act.put, List.setIfInBounds_toArray, List.set_cons_zero, List.set_cons_succ]
    refine anyS_takeD (some 42) (i := 5) (v := ?_) hnd rfl rfl (by kernel_rfl) (by kernel_rfl) (by kernel_rfl) (fun _ _ _ h => h) ⟨by rfl, ?_, fun _ => rfl⟩ hS0 ?_
    rotate_left
    · intro w' hw'; go_simp; try with_reducible rfl
    try simp only [Act.put, List.setIfInBounds_toArray, List.set_cons_zero, List.set_cons_succ]
    refine anyS_takeD (some 43) (i := 6) (v := ?_) hnd rfl rfl (by kernel_rfl) (by kernel_rfl) (by kernel_rfl) (fun _ _ _ h => h) ⟨by rfl, ?_, fun _ => rfl⟩ hS0 ?_
    rotate_left
    · intro w' hw'; go_simp; try with_reducible rfl
    try simp only [Act.put, List.setIfInBounds_toArray, List.set_cons_zero, List.set_cons_succ]
    refine anyS_call (i := 0) (by kernel_rfl) rfl (by rfl) (fun K hKK => ?_)
    go_simp
    refine hKK _ _ trivial ?_
    try simp only [Act.put, List.setIfInBounds_toArray, List.set_cons_zero, List.set_cons_succ]
    refine anyS_takeD (some 44) (i := 7) (v := ?_) hnd rfl rfl (by kernel_rfl) (by kernel_rfl) (by kernel_rfl) (fun _ _ _ h => h) ⟨by rfl, ?_, fun _ => rfl⟩ hS0 ?_
    rotate_left
    · intro w' hw'; go_simp; try with_reducible rfl
    try simp only [Act.put, List.setIfInBounds_toArray, List.set_cons_zero, List.set_cons_succ]
    refine anyS_oneD none (i := 8) (w' := W9.setCell ⟨w1.heap.size, 0, none⟩ (.int .i64 M)) hnd (by kernel_rfl) rfl rfl (by rfl) rfl ?_ trivial (anyS_done (by kernel_rfl) ?_ _)
    · go_simp

    try simp only [Act.put, List.setIfInBounds_toArray, List.set_cons_zero, List.set_cons_succ]
    have zW9 : W.heap.size ≤ W9.heap.size := Nat.le_trans bR1.out.size hD9.size
    have bX0 : Below W.heap.size W W9 := bR1.out.trans (hD9.mono bR1.out.size)
    have BX := hid (show Below w.heap.size w (W9.setCell ⟨w1.heap.size, 0, none⟩ (.int .i64 M)) from (hB5.trans (bX0.mono hB5.size)).setCell (p := ⟨w1.heap.size, 0, none⟩) (by show w.heap.size ≤ w1.heap.size; omega) _)
    have KX := hid (show KeepsOthers W (W9.setCell ⟨w1.heap.size, 0, none⟩ (.int .i64 M)) from (kR1.out.trans kD9).trans (KeepsOthers.setCell _ _ _))
    have KB := hid (show KeepB (fun g => g = b ∨ g = w1.heap.size + 1) W (W9.setCell ⟨w1.heap.size, 0, none⟩ (.int .i64 M)) from (keepB_of bX0 (fun g hg => Nat.lt_of_lt_of_le (HSL.out g hg) hz5)).trans (fun g hg => Below.heap_setCell W9 ⟨w1.heap.size, 0, none⟩ _ g (by rcases hg with rfl | rfl <;> simp <;> omega)))
    have TX := hT9.store (h' := M) hq1
    have zX : (W9.setCell ⟨w1.heap.size, 0, none⟩ (.int .i64 M)).heap.size = W9.heap.size := by simp
    obtain ⟨X, hX⟩ : ∃ X, X = W9.setCell ⟨w1.heap.size, 0, none⟩ (.int .i64 M) := ⟨_, rfl⟩
    rw [← hX] at BX KX KB TX zX ⊢
    clear hX rq kq0 kf0 hT hT9 hD9 kD9 bX0 n1 n2 n3 td MX
    have y0 := TX.1.cell 0
    have y1 := TX.2.2.1.cell 0
    simp only [List.getElem?_cons_zero] at y0 y1
    by_cases hc : most < M
    · have hcd : decide (most < M) = true := by simpa using hc
      have v0 := TX.2.2.2.1.cell 0; have v1 := TX.2.2.2.1.cell 1; have v3 := TX.2.2.2.2.cell 0
      have f0 := TX.2.2.2.1.frozen 0; have f1 := TX.2.2.2.1.frozen 1; have f3 := TX.2.2.2.2.frozen 0
      simp only [List.getElem?_cons_zero, List.getElem?_cons_succ] at v0 v1 v3
      have HR2 := hid (((TX.2.2.2.1.set 0 (.int .i64 0)).set 1 (.int .i64 0)).other (a := ⟨w.heap.size + 1 + 1 + 1, 0, none⟩) (by show w.heap.size + 1 + 1 + 1 ≠ w.heap.size + 1 + 1; omega) (.int .i64 6))
      have HR3 := hid (((TX.2.2.2.2.other (a := ⟨w.heap.size + 1 + 1, 0, none⟩) (by show w.heap.size + 1 + 1 ≠ w.heap.size + 1 + 1 + 1; omega) (.int .i64 0)).other (a := ⟨w.heap.size + 1 + 1, 1, none⟩) (by show w.heap.size + 1 + 1 ≠ w.heap.size + 1 + 1 + 1; omega) (.int .i64 0)).set 0 (.int .i64 6))
      have HQQ := hid (HQ.out (HM2.out hc))
      clear TX
      gi_wp2
      exact ⟨((((KX.out.trans (KeepsOthers.setCell _ _ _)).trans (KeepsOthers.setCell _ _ _)).trans (KeepsOthers.setCell _ _ _))).from _, ⟨rfl, HQQ.out, HR2.out, HR3.out⟩, ((BX.out.setCell (p := ⟨w.heap.size + 1 + 1, 0, none⟩) (by show w.heap.size ≤ w.heap.size + 1 + 1; omega) _).setCell (p := ⟨w.heap.size + 1 + 1, 1, none⟩) (by show w.heap.size ≤ w.heap.size + 1 + 1; omega) _).setCell (p := ⟨w.heap.size + 1 + 1 + 1, 0, none⟩) (by show w.heap.size ≤ w.heap.size + 1 + 1 + 1; omega) _⟩
    · have hcd : decide (most < M) = false := by simpa using hc
      have HTX := hid TX
      clear TX
      gi_wp2
      exact ⟨KX.out.from _, KB.out, ⟨by rw [hsn.out]; omega, by rw [hsn.out]; exact HTX.out⟩, BX.out, by omega⟩
  case done =>
    rintro D ys W hD rfl ⟨⟨hle1, hT⟩, hB5, hz5⟩ hK
    have hge := hiP_ge (szL zs) js (List.finRange (n - 1))
    have HALL := hid (fun x : Fin (n - 1) => hiP_all (szL zs) js x)
    have HRES := hid (tiR_yes HG.out ⟨hm0, hm9⟩ (show hiP (szL zs) js (List.finRange (js.length - 1)) ≤ most by rw [← hN.out]; exact hle1))
    rw [← hN.out] at HRES
    obtain ⟨H, hH⟩ : ∃ y, hiP (szL zs) js (List.finRange (n - 1)) = y := ⟨_, rfl⟩
    rw [hH] at hT hle1 hge HALL HRES
    have HLO := hid (loP_bd (m := n - 1) (js := js) hge HZ.out (fun x => (HDY.out ⟨x.1, by have := hN.out; have := x.2; omega⟩).1) HALL.out)
    rw [HRES.out]
    have y0 := hT.1.cell 0
    simp only [List.getElem?_cons_zero] at y0
    have DNE := hid (show ¬ D = W.heap.size from by have := lt_of_block hK; omega)
    obtain ⟨V2, hV2⟩ : ∃ V2, V2 = ((W.alloc (.cells #[.int .i64 H] 2)).alloc (.cells #[.slice (some ⟨b, 0, none⟩) n cap] 25)) := ⟨_, rfl⟩
    have sV2 : V2.heap.size = W.heap.size + 1 + 1 := by rw [hV2]; simp
    have bW2 : Below W.heap.size W V2 := by rw [hV2]; exact ((Below.refl _ W).alloc (Nat.le_refl _) _).alloc (by simp) _
    have bV2 : Below w.heap.size w V2 := hB5.trans (bW2.mono hB5.size)
    have T2 := hT.keep bW2
    have qL : Row V2 W.heap.size 2 [.int .i64 H] := by rw [hV2]; exact (Row.new W _ _).alloc _
    have qB : Row V2 (W.heap.size + 1) 25 [.slice (some ⟨b, 0, none⟩) n cap] := by
      have h := Row.new (W.alloc (.cells #[.int .i64 H] 2)) 25 [.slice (some ⟨b, 0, none⟩) n cap]
      simp only [World.size_alloc] at h
      rw [hV2]; exact h
    have kD : V2.heap[D]? = some (.deferred (some [])) := (bW2.block D (lt_of_block hK)).trans hK
    have lD : D < V2.heap.size := lt_of_block kD
    have HV2 := hid hV2
    clear hV2 hT hH
    gi_wp2_with (gi_at_call 19; refine (itv_in Fence.wide _ trivial rfl _ _ _ _).mono ?_; rintro e w' ⟨rfl, rfl⟩)
    rw [← HV2.out]
    have cB := qB.cell 0
    simp only [List.getElem?_cons_zero] at cB
    have hC := HR.out.2.1
    have hcV : ∀ j, j < n → V2.cell? ⟨b, j * 2, none⟩ = some (.int .i64 (rd js j)) ∧ V2.cell? ⟨b, j * 2 + 1, none⟩ = some (.int .i64 (rv js j)) := fun j hj =>
      ⟨(bV2.cell (p := ⟨b, j * 2, none⟩) hbl).trans (hC j (by rw [← hN.out]; exact hj)).1, (bV2.cell (p := ⟨b, j * 2 + 1, none⟩) hbl).trans (hC j (by rw [← hN.out]; exact hj)).2⟩
    have hzB := hB5.size
    have HSL2 := hid (show ∀ g, g = b ∨ g = W.heap.size + 1 → g < V2.heap.size from fun g hg => by rcases hg with rfl | rfl <;> omega)
    have BV2 := hid bV2
    have I0 := hid (show (Row V2 W.heap.size 2 [.int .i64 (loP (szL zs) js H ([] : List (Fin (n - 1))))] ∧ TiW w w1.heap.size bS nS capS most H V2) ∧ ((Below w.heap.size w V2 ∧ V2.heap.size ≤ V2.heap.size) ∧ V2.heap[D]? = some (.deferred (some []))) from ⟨⟨qL, T2⟩, ⟨bV2, Nat.le_refl _⟩, kD⟩)
    clear hC qL T2 qB bV2 kD y0 hK
    refine wpIn_rangeFunc_ownH rfl hm (gf := 48) (lb := #[.pointer (some ⟨W.heap.size + 1, 0, none⟩)]) rfl trivial (enters_of Try.func48 (by kernel_rfl) rfl)
      (itv_stops Fence.wide 7 trivial rfl (by omega) (W.heap.size + 1) b n cap js hN.out hle V2 (by omega) (by omega) cB hcV) KeepB.trans (keepB_b HSL2.out) (Below.refl _ _) (fun _ => rfl)
      (fun pre X => (Row X W.heap.size 2 [.int .i64 (loP (szL zs) js H pre)] ∧ TiW w w1.heap.size bS nS capS most H X) ∧ ((Below w.heap.size w X ∧ V2.heap.size ≤ X.heap.size) ∧ X.heap[D]? = some (.deferred (some []))))
      (fun _ _ _ => False)
      (OwnFrom.and (Own.from (fun s A B row hs hg hr => ⟨row_kept hs.1 hg hr, hs.2.kept hg hr⟩) _) (OwnFrom.and (OwnFrom.and (ownFrom_below (Nat.le_refl _) (by omega)) (fun s A B row hs hg hr => Nat.le_trans hs hg.4)) (ownFrom_block lD)))
      (fun _ _ _ _ _ hs _ _ => hs)
      I0.out
      (fun x a' X => ∃ g, a' = { tmps := #[.slice (some ⟨bS, 0, none⟩) nS capS, .slice (some ⟨b, 0, none⟩) n cap, .int .i64 most, .pointer (some ⟨w.heap.size, 0, none⟩), undef, .pointer (some ⟨w.heap.size + 1, 0, none⟩), .pointer (some ⟨w.heap.size + 1 + 1, 0, none⟩), .pointer (some ⟨w.heap.size + 1 + 1 + 1, 0, none⟩), .pointer (some ⟨w1.heap.size, 0, none⟩), undef, undef, undef, undef, .pointer (some ⟨W.heap.size, 0, none⟩), undef, .pointer (some ⟨g, 0, none⟩), .slice (some ⟨bS, 0, none⟩) nS capS, .slice (some ⟨b, 0, none⟩) n cap, .bool true, .bool false, undef, .int .i64 most, .bool false, .bool false, .int .i64 most, .bool false, .bool false, undef, .slice (some ⟨b, 0, none⟩) n cap, .func (.func 48) #[] #[.pointer (some ⟨w1.heap.size + 1, 0, none⟩)], undef, undef, undef, undef, undef, undef, undef, undef, undef, undef, undef, undef, undef, undef, undef, undef, undef, undef, undef, .int .i64 H, .slice (some ⟨b, 0, none⟩) n cap, .func (.func 48) #[] #[.pointer (some ⟨W.heap.size + 1, 0, none⟩)], .int .i64 ((x.1 : Int) + 1), .agg #[.int .i64 (rd js x.1), .int .i64 (rv js x.1), .int .i64 (rd js (x.1 + 1)), .int .i64 (rv js (x.1 + 1))], undef, undef, undef, undef, undef, undef, undef, undef, undef, undef, undef, undef, undef, undef, undef], defers := [] } ∧ Row X g 56 [.int .i64 (rd js x.1), .int .i64 (rv js x.1), .int .i64 (rd js (x.1 + 1)), .int .i64 (rv js (x.1 + 1))])
      (fun x a' => Own.from (fun s A B row hs hg hr => by obtain ⟨g, e, h⟩ := hs; exact ⟨g, e, row_kept h hg hr⟩) _) ?assign2 ?body2 ?done2 ?stop2
    case assign2 =>
      rintro l pre x X K ⟨⟨h1, h2⟩, ⟨h3, h4⟩, h5⟩ hKq
      have bA := box4_bel X 56 (.int .i64 (rd js x.1)) (.int .i64 (rv js x.1)) (.int .i64 (rd js (x.1 + 1))) (.int .i64 (rv js (x.1 + 1)))
      have hAA := hKq _ (X.alloc (.cells #[.int .i64 (rd js x.1), .int .i64 (rv js x.1), .int .i64 (rd js (x.1 + 1)), .int .i64 (rv js (x.1 + 1))] 56)) ((KeepsOthers.alloc X _).from _) (keepB_of bA (fun g hg => Nat.lt_of_lt_of_le (HSL2.out g hg) h4)) ⟨⟨h1.below bA h1.lt, h2.keep bA⟩, ⟨h3.trans (bA.mono h3.size), by simp; omega⟩, (bA.block D (lt_of_block h5)).trans h5⟩ ⟨X.heap.size, rfl, Row.new X _ _⟩
      clear hKq
      simp only [itvA]
      gi_wp2
      exact hAA
    case body2 =>
      rintro l pre x a' X _ _ ⟨⟨hL1, hT⟩, ⟨hB6, hz6⟩, hKD⟩ ⟨g, rfl, hrow⟩ _
      have hx := x.2
      have dy : 1 ≤ dyI js x.1 ∧ dyI js x.1 ≤ 100000 ∧ -1000000000000 ≤ wyI js x.1 ∧ wyI js x.1 ≤ 1000000000000 := HDY.out ⟨x.1, by have := hN.out; omega⟩
      have hg9 := gst_bd (z := szL zs) (js := js) (k := x.1) (H := H) HZ.out dy.1 (HALL.out x)
      have hl9 := lk_bd (z := szL zs) (js := js) (k := x.1) (H := H) HZ.out dy.1 (HALL.out x)
      have hlo := HLO.out pre
      have hsn := hid (loP_snoc (szL zs) js H pre x)
      have hmul : 0 ≤ H * dyI js x.1 ∧ H * dyI js x.1 ≤ 1000000000000 := by
        have h1 := Int.mul_le_mul_of_nonneg_right (show H ≤ 1000000 by omega) (show 0 ≤ dyI js x.1 by omega)
        have h2 := Int.mul_nonneg hge (show 0 ≤ dyI js x.1 by omega)
        omega
      have HGX := hid (fun W (s : Stk W bS zs) => HGT.out (rd js x.1) (rv js x.1) (rd js (x.1 + 1)) (rv js (x.1 + 1)) (H * dyI js x.1) ⟨dy.2.2.1, dy.2.2.2⟩ hmul W s)
      have HDX := hid (fun W => days_any (rd js x.1) (rv js x.1) (rd js (x.1 + 1)) (rv js (x.1 + 1)) (by unfold dyI at dy; omega) W)
      have sS := HS.out.below hB6 hbs
      have hLK : lkI (szL zs) js H x.1 = gstI (szL zs) (wyI js x.1) (H * dyI js x.1) / dyI js x.1 := rfl
      obtain ⟨LK, hLKe⟩ : ∃ y, lkI (szL zs) js H x.1 = y := ⟨_, rfl⟩
      rw [show rv js (x.1 + 1) - rv js x.1 = wyI js x.1 from rfl] at HGX
      rw [show rd js (x.1 + 1) - rd js x.1 = dyI js x.1 from rfl] at HDX
      obtain ⟨G, hG⟩ : ∃ y, gstI (szL zs) (wyI js x.1) (H * dyI js x.1) = y := ⟨_, rfl⟩
      rw [hG] at HGX hLK hg9
      obtain ⟨d, hd⟩ : ∃ y, dyI js x.1 = y := ⟨_, rfl⟩
      rw [hd] at HDX hLK dy HGX hmul hg9
      rw [hLKe] at hLK hl9 hsn
      obtain ⟨h, hh⟩ : ∃ y, loP (szL zs) js H pre = y := ⟨_, rfl⟩
      rw [hh] at hL1 hlo hsn
      obtain ⟨E, hE⟩ : ∃ y, H * d = y := ⟨_, rfl⟩
      rw [hE] at HGX hmul hg9
      obtain ⟨d1, d2, _, _⟩ := dy
      have HLKq := hid hLK
      have n1 : IntKind.i64.wrap (H * d) = E := by rw [hE]; exact IntWalk.i64_in _ (by omega)
      have td : G.tdiv d = LK := by rw [HLKq.out]; exact Int.tdiv_eq_ediv_of_nonneg (by omega)
      have nd : d ≠ 0 := by omega
      have n3 : IntKind.i64.wrap LK = LK := IntWalk.i64_in _ (by omega)
      obtain ⟨M, hM⟩ : ∃ y, min h LK = y := ⟨_, rfl⟩
      rw [hM] at hsn
      have MN : ∀ w, Sem.run Try.prog (Builtin.min_ #[2, 2] 2 #[.int .i64 h, .int .i64 LK]) w = .ok (.int .i64 M) w := fun w => by
        have : (if LK < h then LK else h) = min h LK := by split <;> omega
        rw [← hM, ← this]; rfl
      have GNE := hid (show W.heap.size ≠ g from fun e => by rw [e] at hL1; exact absurd (row_typeT hrow hL1) (by decide))
      have rst := hT.2.1
      have rhi := hT.1
      have hKD' := hid hKD
      clear hLK hG hd hh hLKe hM hE hKD
      gi_wp2
      refine region_held (S := fun W' : World => Row W' w.heap.size 24 [.slice (some ⟨bS, 0, none⟩) nS capS] ∧ Row W' g 56 [.int .i64 (rd js x.1), .int .i64 (rv js x.1), .int .i64 (rd js (x.1 + 1)), .int .i64 (rv js (x.1 + 1))] ∧ Row W' w1.heap.size 2 [.int .i64 H]) (by kernel_rfl) (by kernel_rfl) (fun hnd => ?_)
      obtain ⟨W0, hW0⟩ : ∃ Xq, Xq = World.drew (X) := ⟨_, rfl⟩
      have bR : Below (X).heap.size (X) W0 := by rw [hW0]; exact (Below.refl _ _).drew
      have kR : KeepsOthers (X) W0 := by rw [hW0]; exact KeepsOthers.drew _
      replace rst := rst.below bR rst.lt
      replace hrow := hrow.below bR hrow.lt
      replace rhi := rhi.below bR rhi.lt
      replace sS := sS.below bR sS.1
      replace hT := hT.keep bR
      replace hL1 := hL1.below bR hL1.lt
      rw [← hW0]
      clear hW0
      have hS0 : (fun W' : World => Row W' w.heap.size 24 [.slice (some ⟨bS, 0, none⟩) nS capS] ∧ Row W' g 56 [.int .i64 (rd js x.1), .int .i64 (rv js x.1), .int .i64 (rd js (x.1 + 1)), .int .i64 (rv js (x.1 + 1))] ∧ Row W' w1.heap.size 2 [.int .i64 H]) W0 := ⟨rst, hrow, rhi⟩
      refine anyS_takeD (some 55) (i := 1) (v := ?_) hnd rfl rfl (by kernel_rfl) (by kernel_rfl) (by kernel_rfl) (fun _ _ _ h => h) ⟨by rfl, ?_, fun _ => rfl⟩ hS0 ?_
      rotate_left
      · intro w' hw'; have hrow0 := hw'.1; have e0x0 := Row.cell hrow0 0; simp only [List.getElem?_cons_zero, List.getElem?_cons_succ] at e0x0; clear hrow0; have hrow1 := hw'.2.1; have e1x0 := Row.cell hrow1 0; have e1x1 := Row.cell hrow1 1; have e1x2 := Row.cell hrow1 2; have e1x3 := Row.cell hrow1 3; simp only [List.getElem?_cons_zero, List.getElem?_cons_succ] at e1x0 e1x1 e1x2 e1x3; clear hrow1; have hrow2 := hw'.2.2; have e2x0 := Row.cell hrow2 0; simp only [List.getElem?_cons_zero, List.getElem?_cons_succ] at e2x0; clear hrow2; clear hw'; go_simp; try with_reducible rfl
      try simp only [Act.put, List.setIfInBounds_toArray, List.set_cons_zero, List.set_cons_succ]
      refine anyS_takeD (some 56) (i := 2) (v := ?_) hnd rfl rfl (by kernel_rfl) (by kernel_rfl) (by kernel_rfl) (fun _ _ _ h => h) ⟨by rfl, ?_, fun _ => rfl⟩ hS0 ?_
      rotate_left
      · intro w' hw'; have hrow0 := hw'.1; have e0x0 := Row.cell hrow0 0; simp only [List.getElem?_cons_zero, List.getElem?_cons_succ] at e0x0; clear hrow0; have hrow1 := hw'.2.1; have e1x0 := Row.cell hrow1 0; have e1x1 := Row.cell hrow1 1; have e1x2 := Row.cell hrow1 2; have e1x3 := Row.cell hrow1 3; simp only [List.getElem?_cons_zero, List.getElem?_cons_succ] at e1x0 e1x1 e1x2 e1x3; clear hrow1; have hrow2 := hw'.2.2; have e2x0 := Row.cell hrow2 0; simp only [List.getElem?_cons_zero, List.getElem?_cons_succ] at e2x0; clear hrow2; clear hw'; go_simp; try with_reducible rfl
      try simp only [Act.put, List.setIfInBounds_toArray, List.set_cons_zero, List.set_cons_succ]
      refine anyS_takeD (some 57) (i := 3) (v := ?_) hnd rfl rfl (by kernel_rfl) (by kernel_rfl) (by kernel_rfl) (fun _ _ _ h => h) ⟨by rfl, ?_, fun _ => rfl⟩ hS0 ?_
      rotate_left
      · intro w' hw'; have hrow0 := hw'.1; have e0x0 := Row.cell hrow0 0; simp only [List.getElem?_cons_zero, List.getElem?_cons_succ] at e0x0; clear hrow0; have hrow1 := hw'.2.1; have e1x0 := Row.cell hrow1 0; have e1x1 := Row.cell hrow1 1; have e1x2 := Row.cell hrow1 2; have e1x3 := Row.cell hrow1 3; simp only [List.getElem?_cons_zero, List.getElem?_cons_succ] at e1x0 e1x1 e1x2 e1x3; clear hrow1; have hrow2 := hw'.2.2; have e2x0 := Row.cell hrow2 0; simp only [List.getElem?_cons_zero, List.getElem?_cons_succ] at e2x0; clear hrow2; clear hw'; go_simp; try with_reducible rfl
      try simp only [Act.put, List.setIfInBounds_toArray, List.set_cons_zero, List.set_cons_succ]
      refine anyS_takeD (some 58) (i := 4) (v := ?_) hnd rfl rfl (by kernel_rfl) (by kernel_rfl) (by kernel_rfl) (fun _ _ _ h => h) ⟨by rfl, ?_, fun _ => rfl⟩ hS0 ?_
      rotate_left
      · intro w' hw'; have hrow0 := hw'.1; have e0x0 := Row.cell hrow0 0; simp only [List.getElem?_cons_zero, List.getElem?_cons_succ] at e0x0; clear hrow0; have hrow1 := hw'.2.1; have e1x0 := Row.cell hrow1 0; have e1x1 := Row.cell hrow1 1; have e1x2 := Row.cell hrow1 2; have e1x3 := Row.cell hrow1 3; simp only [List.getElem?_cons_zero, List.getElem?_cons_succ] at e1x0 e1x1 e1x2 e1x3; clear hrow1; have hrow2 := hw'.2.2; have e2x0 := Row.cell hrow2 0; simp only [List.getElem?_cons_zero, List.getElem?_cons_succ] at e2x0; clear hrow2; clear hw'; go_simp; try with_reducible rfl
      try simp only [Act.put, List.setIfInBounds_toArray, List.set_cons_zero, List.set_cons_succ]
      refine anyS_takeD (some 62) (i := 8) (v := ?_) hnd rfl rfl (by kernel_rfl) (by kernel_rfl) (by kernel_rfl) (fun _ _ _ h => h) ⟨by rfl, ?_, fun _ => rfl⟩ hS0 ?_
      rotate_left
      · intro w' hw'; have hrow0 := hw'.1; have e0x0 := Row.cell hrow0 0; simp only [List.getElem?_cons_zero, List.getElem?_cons_succ] at e0x0; clear hrow0; have hrow1 := hw'.2.1; have e1x0 := Row.cell hrow1 0; have e1x1 := Row.cell hrow1 1; have e1x2 := Row.cell hrow1 2; have e1x3 := Row.cell hrow1 3; simp only [List.getElem?_cons_zero, List.getElem?_cons_succ] at e1x0 e1x1 e1x2 e1x3; clear hrow1; have hrow2 := hw'.2.2; have e2x0 := Row.cell hrow2 0; simp only [List.getElem?_cons_zero, List.getElem?_cons_succ] at e2x0; clear hrow2; clear hw'; go_simp; try with_reducible rfl
      try simp only [Act.put, List.setIfInBounds_toArray, List.set_cons_zero, List.set_cons_succ]
      refine anyS_two (i := 0) (k := 5) (by kernel_rfl) rfl rfl (by rfl) (by rfl) (fun K hKK => ?_) (fun K hKK => ?_)
      · have kq0 := hL1.cell 0
        simp only [List.getElem?_cons_zero] at kq0
        go_simp
        refine hKK _ _ hS0 ?_
        try simp only [Act.put, List.setIfInBounds_toArray, List.set_cons_zero, List.set_cons_succ]
        clear hKK K
        refine anyS_call (i := 5) (by kernel_rfl) rfl (by rfl) (fun K hKK => ?_)
        go_simp
        refine ⟨trivial, (CallsIn.inRound l (callsIn_wide.2 (HDX.out W0))).mono ?_⟩
        rintro e v2 ⟨rfl, hB2⟩
        dsimp only
        replace rst := rst.below hB2 rst.lt
        replace hrow := hrow.below hB2 hrow.lt
        replace rhi := rhi.below hB2 rhi.lt
        replace sS := sS.below hB2 sS.1
        replace hT := hT.keep hB2
        replace hL1 := hL1.below hB2 hL1.lt
        replace kR := kR.trans (keepsOthers_of hB2)
        replace bR := bR.trans (hB2.mono bR.size)
        have hS2 : (fun W' : World => Row W' w.heap.size 24 [.slice (some ⟨bS, 0, none⟩) nS capS] ∧ Row W' g 56 [.int .i64 (rd js x.1), .int .i64 (rv js x.1), .int .i64 (rd js (x.1 + 1)), .int .i64 (rv js (x.1 + 1))] ∧ Row W' w1.heap.size 2 [.int .i64 H]) v2 := ⟨rst, hrow, rhi⟩
        clear hB2
        refine hKK _ _ hS2 ?_
        try simp only [Act.put, List.setIfInBounds_toArray, List.set_cons_zero, List.set_cons_succ]
        clear hKK K
        refine anyS_takeD (some 60) (i := 6) (v := ?_) hnd rfl rfl (by kernel_rfl) (by kernel_rfl) (by kernel_rfl) (fun _ _ _ h => h) ⟨by rfl, ?_, fun _ => rfl⟩ hS2 ?_
        rotate_left
        · intro w' hw'; go_simp; try with_reducible rfl
        try simp only [Act.put, List.setIfInBounds_toArray, List.set_cons_zero, List.set_cons_succ]
        refine anyS_call (i := 7) (by kernel_rfl) rfl (by rfl) (fun K hKK => ?_)
        go_simp
        refine ⟨trivial, (CallsIn.inRound l (callsIn_wide.2 (HGX.out v2 sS))).mono ?_⟩
        rintro e v3 ⟨rfl, hB3⟩
        dsimp only
        replace rst := rst.below hB3 rst.lt
        replace hrow := hrow.below hB3 hrow.lt
        replace rhi := rhi.below hB3 rhi.lt
        replace sS := sS.below hB3 sS.1
        replace hT := hT.keep hB3
        replace hL1 := hL1.below hB3 hL1.lt
        replace kR := kR.trans (keepsOthers_of hB3)
        replace bR := bR.trans (hB3.mono bR.size)
        have hS3 : (fun W' : World => Row W' w.heap.size 24 [.slice (some ⟨bS, 0, none⟩) nS capS] ∧ Row W' g 56 [.int .i64 (rd js x.1), .int .i64 (rv js x.1), .int .i64 (rd js (x.1 + 1)), .int .i64 (rv js (x.1 + 1))] ∧ Row W' w1.heap.size 2 [.int .i64 H]) v3 := ⟨rst, hrow, rhi⟩
        clear hB3
        refine hKK _ _ hS3 ?_
        try simp only [Act.put, List.setIfInBounds_toArray, List.set_cons_zero, List.set_cons_succ]
        clear hKK K
        refine anyS_call (i := 9) (by kernel_rfl) rfl (by rfl) (fun K hKK => ?_)
        go_simp
        refine ⟨trivial, (CallsIn.inRound l (callsIn_wide.2 (HDX.out v3))).mono ?_⟩
        rintro e v4 ⟨rfl, hB4⟩
        dsimp only
        replace rst := rst.below hB4 rst.lt
        replace hrow := hrow.below hB4 hrow.lt
        replace rhi := rhi.below hB4 rhi.lt
        replace sS := sS.below hB4 sS.1
        replace hT := hT.keep hB4
        replace hL1 := hL1.below hB4 hL1.lt
        replace kR := kR.trans (keepsOthers_of hB4)
        replace bR := bR.trans (hB4.mono bR.size)
        have hS4 : (fun W' : World => Row W' w.heap.size 24 [.slice (some ⟨bS, 0, none⟩) nS capS] ∧ Row W' g 56 [.int .i64 (rd js x.1), .int .i64 (rv js x.1), .int .i64 (rd js (x.1 + 1)), .int .i64 (rv js (x.1 + 1))] ∧ Row W' w1.heap.size 2 [.int .i64 H]) v4 := ⟨rst, hrow, rhi⟩
        clear hB4
        refine hKK _ _ hS4 ?_
        try simp only [Act.put, List.setIfInBounds_toArray, List.set_cons_zero, List.set_cons_succ]
        clear hKK K
        refine anyS_takeD (some 64) (i := 10) (v := ?_) hnd rfl rfl (by kernel_rfl) (by kernel_rfl) (by kernel_rfl) (fun _ _ _ h => h) ⟨by rfl, ?_, fun _ => rfl⟩ hS4 ?_
        rotate_left
        · intro w' hw'; go_simp; try with_reducible rfl
        try simp only [Act.put, List.setIfInBounds_toArray, List.set_cons_zero, List.set_cons_succ]
        refine anyS_takeD (some 65) (i := 11) (v := ?_) hnd rfl rfl (by kernel_rfl) (by kernel_rfl) (by kernel_rfl) (fun _ _ _ h => h) ⟨by rfl, ?_, fun _ => rfl⟩ hS4 ?_
        rotate_left
        · intro w' hw'; go_simp; try with_reducible rfl
        try simp only [Act.put, List.setIfInBounds_toArray, List.set_cons_zero, List.set_cons_succ]
        refine anyS_oneD none (i := 12) (w' := v4.setCell ⟨W.heap.size, 0, none⟩ (.int .i64 M)) hnd (by kernel_rfl) rfl rfl (by rfl) rfl ?_ ?_ (anyS_done (by kernel_rfl) ?_ _)
        · have kq0 := hL1.cell 0; have kf0 := hL1.frozen 0; simp only [List.getElem?_cons_zero] at kq0; go_simp
        · exact ⟨rst.other (a := ⟨W.heap.size, 0, none⟩) (by show W.heap.size ≠ w.heap.size; omega) _, hrow.other (a := ⟨W.heap.size, 0, none⟩) (by show W.heap.size ≠ g; exact GNE.out) _, rhi.other (a := ⟨W.heap.size, 0, none⟩) (by show W.heap.size ≠ w1.heap.size; omega) _⟩
        have bX0 := bR
        have KX := hid (show KeepsOthers X (v4.setCell ⟨W.heap.size, 0, none⟩ (.int .i64 M)) from kR.trans (KeepsOthers.setCell _ _ _))
        have BX := hid (show Below w.heap.size w (v4.setCell ⟨W.heap.size, 0, none⟩ (.int .i64 M)) from (hB6.trans (bX0.mono hB6.size)).setCell (p := ⟨W.heap.size, 0, none⟩) (by show w.heap.size ≤ W.heap.size; omega) _)
        have KB := hid (show KeepB (fun g => g = b ∨ g = W.heap.size + 1) X (v4.setCell ⟨W.heap.size, 0, none⟩ (.int .i64 M)) from (keepB_of bX0 (fun g hg => Nat.lt_of_lt_of_le (HSL2.out g hg) hz6)).trans (fun g hg => Below.heap_setCell v4 ⟨W.heap.size, 0, none⟩ _ g (by rcases hg with rfl | rfl <;> simp <;> omega)))
        have TX := hid (show TiW w w1.heap.size bS nS capS most H (v4.setCell ⟨W.heap.size, 0, none⟩ (.int .i64 M)) from hT.off (by omega) (by omega))
        have LX := hid (hL1.set 0 (.int .i64 M))
        have DX := hid (show (v4.setCell ⟨W.heap.size, 0, none⟩ (.int .i64 M)).heap[D]? = some (.deferred (some [])) from (Below.heap_setCell v4 ⟨W.heap.size, 0, none⟩ _ D (by show D ≠ W.heap.size; intro e; exact DNE.out e)).trans ((bX0.block D (lt_of_block hKD'.out)).trans hKD'.out))
        have zX : X.heap.size ≤ (v4.setCell ⟨W.heap.size, 0, none⟩ (.int .i64 M)).heap.size := by simpa using bX0.size
        try simp only [Act.put, List.setIfInBounds_toArray, List.set_cons_zero, List.set_cons_succ]
        gi_wp2
        exact ⟨KX.out.from _, KB.out, ⟨by rw [hsn.out]; exact LX.out, TX.out⟩, ⟨BX.out, by omega⟩, DX.out⟩
      · go_simp
        refine ⟨trivial, (CallsIn.inRound l (callsIn_wide.2 (HDX.out W0))).mono ?_⟩
        rintro e v5 ⟨rfl, hB5⟩
        dsimp only
        replace rst := rst.below hB5 rst.lt
        replace hrow := hrow.below hB5 hrow.lt
        replace rhi := rhi.below hB5 rhi.lt
        replace sS := sS.below hB5 sS.1
        replace hT := hT.keep hB5
        replace hL1 := hL1.below hB5 hL1.lt
        replace kR := kR.trans (keepsOthers_of hB5)
        replace bR := bR.trans (hB5.mono bR.size)
        have hS5 : (fun W' : World => Row W' w.heap.size 24 [.slice (some ⟨bS, 0, none⟩) nS capS] ∧ Row W' g 56 [.int .i64 (rd js x.1), .int .i64 (rv js x.1), .int .i64 (rd js (x.1 + 1)), .int .i64 (rv js (x.1 + 1))] ∧ Row W' w1.heap.size 2 [.int .i64 H]) v5 := ⟨rst, hrow, rhi⟩
        clear hB5
        refine hKK _ _ hS5 ?_
        try simp only [Act.put, List.setIfInBounds_toArray, List.set_cons_zero, List.set_cons_succ]
        clear hKK K
        refine anyS_takeD (some 60) (i := 6) (v := ?_) hnd rfl rfl (by kernel_rfl) (by kernel_rfl) (by kernel_rfl) (fun _ _ _ h => h) ⟨by rfl, ?_, fun _ => rfl⟩ hS5 ?_
        rotate_left
        · intro w' hw'; go_simp; try with_reducible rfl
        try simp only [Act.put, List.setIfInBounds_toArray, List.set_cons_zero, List.set_cons_succ]
        refine anyS_two (i := 0) (k := 7) (by kernel_rfl) rfl rfl (by rfl) (by rfl) (fun K hKK => ?_) (fun K hKK => ?_)
        · have kq0 := hL1.cell 0
          simp only [List.getElem?_cons_zero] at kq0
          go_simp
          refine hKK _ _ hS5 ?_
          try simp only [Act.put, List.setIfInBounds_toArray, List.set_cons_zero, List.set_cons_succ]
          clear hKK K
          refine anyS_call (i := 7) (by kernel_rfl) rfl (by rfl) (fun K hKK => ?_)
          go_simp
          refine ⟨trivial, (CallsIn.inRound l (callsIn_wide.2 (HGX.out v5 sS))).mono ?_⟩
          rintro e v7 ⟨rfl, hB7⟩
          dsimp only
          replace rst := rst.below hB7 rst.lt
          replace hrow := hrow.below hB7 hrow.lt
          replace rhi := rhi.below hB7 rhi.lt
          replace sS := sS.below hB7 sS.1
          replace hT := hT.keep hB7
          replace hL1 := hL1.below hB7 hL1.lt
          replace kR := kR.trans (keepsOthers_of hB7)
          replace bR := bR.trans (hB7.mono bR.size)
          have hS7 : (fun W' : World => Row W' w.heap.size 24 [.slice (some ⟨bS, 0, none⟩) nS capS] ∧ Row W' g 56 [.int .i64 (rd js x.1), .int .i64 (rv js x.1), .int .i64 (rd js (x.1 + 1)), .int .i64 (rv js (x.1 + 1))] ∧ Row W' w1.heap.size 2 [.int .i64 H]) v7 := ⟨rst, hrow, rhi⟩
          clear hB7
          refine hKK _ _ hS7 ?_
          try simp only [Act.put, List.setIfInBounds_toArray, List.set_cons_zero, List.set_cons_succ]
          clear hKK K
          refine anyS_call (i := 9) (by kernel_rfl) rfl (by rfl) (fun K hKK => ?_)
          go_simp
          refine ⟨trivial, (CallsIn.inRound l (callsIn_wide.2 (HDX.out v7))).mono ?_⟩
          rintro e v8 ⟨rfl, hB8⟩
          dsimp only
          replace rst := rst.below hB8 rst.lt
          replace hrow := hrow.below hB8 hrow.lt
          replace rhi := rhi.below hB8 rhi.lt
          replace sS := sS.below hB8 sS.1
          replace hT := hT.keep hB8
          replace hL1 := hL1.below hB8 hL1.lt
          replace kR := kR.trans (keepsOthers_of hB8)
          replace bR := bR.trans (hB8.mono bR.size)
          have hS8 : (fun W' : World => Row W' w.heap.size 24 [.slice (some ⟨bS, 0, none⟩) nS capS] ∧ Row W' g 56 [.int .i64 (rd js x.1), .int .i64 (rv js x.1), .int .i64 (rd js (x.1 + 1)), .int .i64 (rv js (x.1 + 1))] ∧ Row W' w1.heap.size 2 [.int .i64 H]) v8 := ⟨rst, hrow, rhi⟩
          clear hB8
          refine hKK _ _ hS8 ?_
          try simp only [Act.put, List.setIfInBounds_toArray, List.set_cons_zero, List.set_cons_succ]
          clear hKK K
          refine anyS_takeD (some 64) (i := 10) (v := ?_) hnd rfl rfl (by kernel_rfl) (by kernel_rfl) (by kernel_rfl) (fun _ _ _ h => h) ⟨by rfl, ?_, fun _ => rfl⟩ hS8 ?_
          rotate_left
          · intro w' hw'; go_simp; try with_reducible rfl
          try simp only [Act.put, List.setIfInBounds_toArray, List.set_cons_zero, List.set_cons_succ]
          refine anyS_takeD (some 65) (i := 11) (v := ?_) hnd rfl rfl (by kernel_rfl) (by kernel_rfl) (by kernel_rfl) (fun _ _ _ h => h) ⟨by rfl, ?_, fun _ => rfl⟩ hS8 ?_
          rotate_left
          · intro w' hw'; go_simp; try with_reducible rfl
          try simp only [Act.put, List.setIfInBounds_toArray, List.set_cons_zero, List.set_cons_succ]
          refine anyS_oneD none (i := 12) (w' := v8.setCell ⟨W.heap.size, 0, none⟩ (.int .i64 M)) hnd (by kernel_rfl) rfl rfl (by rfl) rfl ?_ ?_ (anyS_done (by kernel_rfl) ?_ _)
          · have kq0 := hL1.cell 0; have kf0 := hL1.frozen 0; simp only [List.getElem?_cons_zero] at kq0; go_simp
          · exact ⟨rst.other (a := ⟨W.heap.size, 0, none⟩) (by show W.heap.size ≠ w.heap.size; omega) _, hrow.other (a := ⟨W.heap.size, 0, none⟩) (by show W.heap.size ≠ g; exact GNE.out) _, rhi.other (a := ⟨W.heap.size, 0, none⟩) (by show W.heap.size ≠ w1.heap.size; omega) _⟩
          have bX0 := bR
          have KX := hid (show KeepsOthers X (v8.setCell ⟨W.heap.size, 0, none⟩ (.int .i64 M)) from kR.trans (KeepsOthers.setCell _ _ _))
          have BX := hid (show Below w.heap.size w (v8.setCell ⟨W.heap.size, 0, none⟩ (.int .i64 M)) from (hB6.trans (bX0.mono hB6.size)).setCell (p := ⟨W.heap.size, 0, none⟩) (by show w.heap.size ≤ W.heap.size; omega) _)
          have KB := hid (show KeepB (fun g => g = b ∨ g = W.heap.size + 1) X (v8.setCell ⟨W.heap.size, 0, none⟩ (.int .i64 M)) from (keepB_of bX0 (fun g hg => Nat.lt_of_lt_of_le (HSL2.out g hg) hz6)).trans (fun g hg => Below.heap_setCell v8 ⟨W.heap.size, 0, none⟩ _ g (by rcases hg with rfl | rfl <;> simp <;> omega)))
          have TX := hid (show TiW w w1.heap.size bS nS capS most H (v8.setCell ⟨W.heap.size, 0, none⟩ (.int .i64 M)) from hT.off (by omega) (by omega))
          have LX := hid (hL1.set 0 (.int .i64 M))
          have DX := hid (show (v8.setCell ⟨W.heap.size, 0, none⟩ (.int .i64 M)).heap[D]? = some (.deferred (some [])) from (Below.heap_setCell v8 ⟨W.heap.size, 0, none⟩ _ D (by show D ≠ W.heap.size; intro e; exact DNE.out e)).trans ((bX0.block D (lt_of_block hKD'.out)).trans hKD'.out))
          have zX : X.heap.size ≤ (v8.setCell ⟨W.heap.size, 0, none⟩ (.int .i64 M)).heap.size := by simpa using bX0.size
          try simp only [Act.put, List.setIfInBounds_toArray, List.set_cons_zero, List.set_cons_succ]
          gi_wp2
          exact ⟨KX.out.from _, KB.out, ⟨by rw [hsn.out]; exact LX.out, TX.out⟩, ⟨BX.out, by omega⟩, DX.out⟩
        · go_simp
          refine ⟨trivial, (CallsIn.inRound l (callsIn_wide.2 (HGX.out v5 sS))).mono ?_⟩
          rintro e v9 ⟨rfl, hB9⟩
          dsimp only
          replace rst := rst.below hB9 rst.lt
          replace hrow := hrow.below hB9 hrow.lt
          replace rhi := rhi.below hB9 rhi.lt
          replace sS := sS.below hB9 sS.1
          replace hT := hT.keep hB9
          replace hL1 := hL1.below hB9 hL1.lt
          replace kR := kR.trans (keepsOthers_of hB9)
          replace bR := bR.trans (hB9.mono bR.size)
          have hS9 : (fun W' : World => Row W' w.heap.size 24 [.slice (some ⟨bS, 0, none⟩) nS capS] ∧ Row W' g 56 [.int .i64 (rd js x.1), .int .i64 (rv js x.1), .int .i64 (rd js (x.1 + 1)), .int .i64 (rv js (x.1 + 1))] ∧ Row W' w1.heap.size 2 [.int .i64 H]) v9 := ⟨rst, hrow, rhi⟩
          clear hB9
          refine hKK _ _ hS9 ?_
          try simp only [Act.put, List.setIfInBounds_toArray, List.set_cons_zero, List.set_cons_succ]
          clear hKK K
          refine anyS_two (i := 0) (k := 9) (by kernel_rfl) rfl rfl (by rfl) (by rfl) (fun K hKK => ?_) (fun K hKK => ?_)
          · have kq0 := hL1.cell 0
            simp only [List.getElem?_cons_zero] at kq0
            go_simp
            refine hKK _ _ hS9 ?_
            try simp only [Act.put, List.setIfInBounds_toArray, List.set_cons_zero, List.set_cons_succ]
            clear hKK K
            refine anyS_call (i := 9) (by kernel_rfl) rfl (by rfl) (fun K hKK => ?_)
            go_simp
            refine ⟨trivial, (CallsIn.inRound l (callsIn_wide.2 (HDX.out v9))).mono ?_⟩
            rintro e v11 ⟨rfl, hB11⟩
            dsimp only
            replace rst := rst.below hB11 rst.lt
            replace hrow := hrow.below hB11 hrow.lt
            replace rhi := rhi.below hB11 rhi.lt
            replace sS := sS.below hB11 sS.1
            replace hT := hT.keep hB11
            replace hL1 := hL1.below hB11 hL1.lt
            replace kR := kR.trans (keepsOthers_of hB11)
            replace bR := bR.trans (hB11.mono bR.size)
            have hS11 : (fun W' : World => Row W' w.heap.size 24 [.slice (some ⟨bS, 0, none⟩) nS capS] ∧ Row W' g 56 [.int .i64 (rd js x.1), .int .i64 (rv js x.1), .int .i64 (rd js (x.1 + 1)), .int .i64 (rv js (x.1 + 1))] ∧ Row W' w1.heap.size 2 [.int .i64 H]) v11 := ⟨rst, hrow, rhi⟩
            clear hB11
            refine hKK _ _ hS11 ?_
            try simp only [Act.put, List.setIfInBounds_toArray, List.set_cons_zero, List.set_cons_succ]
            clear hKK K
            refine anyS_takeD (some 64) (i := 10) (v := ?_) hnd rfl rfl (by kernel_rfl) (by kernel_rfl) (by kernel_rfl) (fun _ _ _ h => h) ⟨by rfl, ?_, fun _ => rfl⟩ hS11 ?_
            rotate_left
            · intro w' hw'; go_simp; try with_reducible rfl
            try simp only [Act.put, List.setIfInBounds_toArray, List.set_cons_zero, List.set_cons_succ]
            refine anyS_takeD (some 65) (i := 11) (v := ?_) hnd rfl rfl (by kernel_rfl) (by kernel_rfl) (by kernel_rfl) (fun _ _ _ h => h) ⟨by rfl, ?_, fun _ => rfl⟩ hS11 ?_
            rotate_left
            · intro w' hw'; go_simp; try with_reducible rfl
            try simp only [Act.put, List.setIfInBounds_toArray, List.set_cons_zero, List.set_cons_succ]
            refine anyS_oneD none (i := 12) (w' := v11.setCell ⟨W.heap.size, 0, none⟩ (.int .i64 M)) hnd (by kernel_rfl) rfl rfl (by rfl) rfl ?_ ?_ (anyS_done (by kernel_rfl) ?_ _)
            · have kq0 := hL1.cell 0; have kf0 := hL1.frozen 0; simp only [List.getElem?_cons_zero] at kq0; go_simp
            · exact ⟨rst.other (a := ⟨W.heap.size, 0, none⟩) (by show W.heap.size ≠ w.heap.size; omega) _, hrow.other (a := ⟨W.heap.size, 0, none⟩) (by show W.heap.size ≠ g; exact GNE.out) _, rhi.other (a := ⟨W.heap.size, 0, none⟩) (by show W.heap.size ≠ w1.heap.size; omega) _⟩
            have bX0 := bR
            have KX := hid (show KeepsOthers X (v11.setCell ⟨W.heap.size, 0, none⟩ (.int .i64 M)) from kR.trans (KeepsOthers.setCell _ _ _))
            have BX := hid (show Below w.heap.size w (v11.setCell ⟨W.heap.size, 0, none⟩ (.int .i64 M)) from (hB6.trans (bX0.mono hB6.size)).setCell (p := ⟨W.heap.size, 0, none⟩) (by show w.heap.size ≤ W.heap.size; omega) _)
            have KB := hid (show KeepB (fun g => g = b ∨ g = W.heap.size + 1) X (v11.setCell ⟨W.heap.size, 0, none⟩ (.int .i64 M)) from (keepB_of bX0 (fun g hg => Nat.lt_of_lt_of_le (HSL2.out g hg) hz6)).trans (fun g hg => Below.heap_setCell v11 ⟨W.heap.size, 0, none⟩ _ g (by rcases hg with rfl | rfl <;> simp <;> omega)))
            have TX := hid (show TiW w w1.heap.size bS nS capS most H (v11.setCell ⟨W.heap.size, 0, none⟩ (.int .i64 M)) from hT.off (by omega) (by omega))
            have LX := hid (hL1.set 0 (.int .i64 M))
            have DX := hid (show (v11.setCell ⟨W.heap.size, 0, none⟩ (.int .i64 M)).heap[D]? = some (.deferred (some [])) from (Below.heap_setCell v11 ⟨W.heap.size, 0, none⟩ _ D (by show D ≠ W.heap.size; intro e; exact DNE.out e)).trans ((bX0.block D (lt_of_block hKD'.out)).trans hKD'.out))
            have zX : X.heap.size ≤ (v11.setCell ⟨W.heap.size, 0, none⟩ (.int .i64 M)).heap.size := by simpa using bX0.size
            try simp only [Act.put, List.setIfInBounds_toArray, List.set_cons_zero, List.set_cons_succ]
            gi_wp2
            exact ⟨KX.out.from _, KB.out, ⟨by rw [hsn.out]; exact LX.out, TX.out⟩, ⟨BX.out, by omega⟩, DX.out⟩
          · go_simp
            refine ⟨trivial, (CallsIn.inRound l (callsIn_wide.2 (HDX.out v9))).mono ?_⟩
            rintro e v12 ⟨rfl, hB12⟩
            dsimp only
            replace rst := rst.below hB12 rst.lt
            replace hrow := hrow.below hB12 hrow.lt
            replace rhi := rhi.below hB12 rhi.lt
            replace sS := sS.below hB12 sS.1
            replace hT := hT.keep hB12
            replace hL1 := hL1.below hB12 hL1.lt
            replace kR := kR.trans (keepsOthers_of hB12)
            replace bR := bR.trans (hB12.mono bR.size)
            have hS12 : (fun W' : World => Row W' w.heap.size 24 [.slice (some ⟨bS, 0, none⟩) nS capS] ∧ Row W' g 56 [.int .i64 (rd js x.1), .int .i64 (rv js x.1), .int .i64 (rd js (x.1 + 1)), .int .i64 (rv js (x.1 + 1))] ∧ Row W' w1.heap.size 2 [.int .i64 H]) v12 := ⟨rst, hrow, rhi⟩
            clear hB12
            refine hKK _ _ hS12 ?_
            try simp only [Act.put, List.setIfInBounds_toArray, List.set_cons_zero, List.set_cons_succ]
            clear hKK K
            refine anyS_takeD (some 64) (i := 10) (v := ?_) hnd rfl rfl (by kernel_rfl) (by kernel_rfl) (by kernel_rfl) (fun _ _ _ h => h) ⟨by rfl, ?_, fun _ => rfl⟩ hS12 ?_
            rotate_left
            · intro w' hw'; go_simp; try with_reducible rfl
            try simp only [Act.put, List.setIfInBounds_toArray, List.set_cons_zero, List.set_cons_succ]
            refine anyS_call (i := 0) (by kernel_rfl) rfl (by rfl) (fun K hKK => ?_)
            have kq0 := hL1.cell 0
            simp only [List.getElem?_cons_zero] at kq0
            go_simp
            refine hKK _ _ hS12 ?_
            try simp only [Act.put, List.setIfInBounds_toArray, List.set_cons_zero, List.set_cons_succ]
            clear hKK K
            refine anyS_takeD (some 65) (i := 11) (v := ?_) hnd rfl rfl (by kernel_rfl) (by kernel_rfl) (by kernel_rfl) (fun _ _ _ h => h) ⟨by rfl, ?_, fun _ => rfl⟩ hS12 ?_
            rotate_left
            · intro w' hw'; go_simp; try with_reducible rfl
            try simp only [Act.put, List.setIfInBounds_toArray, List.set_cons_zero, List.set_cons_succ]
            refine anyS_oneD none (i := 12) (w' := v12.setCell ⟨W.heap.size, 0, none⟩ (.int .i64 M)) hnd (by kernel_rfl) rfl rfl (by rfl) rfl ?_ ?_ (anyS_done (by kernel_rfl) ?_ _)
            · have kq0 := hL1.cell 0; have kf0 := hL1.frozen 0; simp only [List.getElem?_cons_zero] at kq0; go_simp
            · exact ⟨rst.other (a := ⟨W.heap.size, 0, none⟩) (by show W.heap.size ≠ w.heap.size; omega) _, hrow.other (a := ⟨W.heap.size, 0, none⟩) (by show W.heap.size ≠ g; exact GNE.out) _, rhi.other (a := ⟨W.heap.size, 0, none⟩) (by show W.heap.size ≠ w1.heap.size; omega) _⟩
            have bX0 := bR
            have KX := hid (show KeepsOthers X (v12.setCell ⟨W.heap.size, 0, none⟩ (.int .i64 M)) from kR.trans (KeepsOthers.setCell _ _ _))
            have BX := hid (show Below w.heap.size w (v12.setCell ⟨W.heap.size, 0, none⟩ (.int .i64 M)) from (hB6.trans (bX0.mono hB6.size)).setCell (p := ⟨W.heap.size, 0, none⟩) (by show w.heap.size ≤ W.heap.size; omega) _)
            have KB := hid (show KeepB (fun g => g = b ∨ g = W.heap.size + 1) X (v12.setCell ⟨W.heap.size, 0, none⟩ (.int .i64 M)) from (keepB_of bX0 (fun g hg => Nat.lt_of_lt_of_le (HSL2.out g hg) hz6)).trans (fun g hg => Below.heap_setCell v12 ⟨W.heap.size, 0, none⟩ _ g (by rcases hg with rfl | rfl <;> simp <;> omega)))
            have TX := hid (show TiW w w1.heap.size bS nS capS most H (v12.setCell ⟨W.heap.size, 0, none⟩ (.int .i64 M)) from hT.off (by omega) (by omega))
            have LX := hid (hL1.set 0 (.int .i64 M))
            have DX := hid (show (v12.setCell ⟨W.heap.size, 0, none⟩ (.int .i64 M)).heap[D]? = some (.deferred (some [])) from (Below.heap_setCell v12 ⟨W.heap.size, 0, none⟩ _ D (by show D ≠ W.heap.size; intro e; exact DNE.out e)).trans ((bX0.block D (lt_of_block hKD'.out)).trans hKD'.out))
            have zX : X.heap.size ≤ (v12.setCell ⟨W.heap.size, 0, none⟩ (.int .i64 M)).heap.size := by simpa using bX0.size
            try simp only [Act.put, List.setIfInBounds_toArray, List.set_cons_zero, List.set_cons_succ]
            gi_wp2
            exact ⟨KX.out.from _, KB.out, ⟨by rw [hsn.out]; exact LX.out, TX.out⟩, ⟨BX.out, by omega⟩, DX.out⟩
    case done2 =>
      rintro D2 ys X hD2 rfl ⟨⟨hL1, hT⟩, ⟨hB6, hz6⟩, hKD⟩ hK2
      have hlo := HLO.out (List.finRange (n - 1))
      obtain ⟨lo, hlo2⟩ : ∃ y, loP (szL zs) js H (List.finRange (n - 1)) = y := ⟨_, rfl⟩
      rw [hlo2] at hL1 hlo HRES
      have y0 := hL1.cell 0
      have y1 := hT.1.cell 0
      have r2 := hT.2.2.2.1
      have r3 := hT.2.2.2.2
      have v0 := r2.cell 0; have v1 := r2.cell 1; have v3 := r3.cell 0
      have f0 := r2.frozen 0; have f1 := r2.frozen 1; have f3 := r3.frozen 0
      simp only [List.getElem?_cons_zero, List.getElem?_cons_succ] at y0 y1 v0 v1 v3
      have ne3 : w.heap.size + 1 + 1 + 1 ≠ w.heap.size + 1 + 1 := by omega
      have ne2 : w.heap.size + 1 + 1 ≠ w.heap.size + 1 + 1 + 1 := by omega
      have HS2 := hid (((r2.set 0 (.int .i64 lo)).set 1 (.int .i64 H)).other (a := ⟨w.heap.size + 1 + 1 + 1, 0, none⟩) ne3 (.int .i64 0))
      have HS3 := hid (((r3.other (a := ⟨w.heap.size + 1 + 1, 0, none⟩) ne2 (.int .i64 lo)).other (a := ⟨w.heap.size + 1 + 1, 1, none⟩) ne2 (.int .i64 H)).set 0 (.int .i64 0))
      have hD2' : V2.heap.size ≤ D2 := hD2
      have HBL := hid (show ∀ q, w.heap.size + 1 + 1 + 1 < q → (((X.setCell ⟨w.heap.size + 1 + 1, 0, none⟩ (.int .i64 lo)).setCell ⟨w.heap.size + 1 + 1, 1, none⟩ (.int .i64 H)).setCell ⟨w.heap.size + 1 + 1 + 1, 0, none⟩ (.int .i64 0)).heap[q]? = X.heap[q]? from fun q hq => ((Below.heap_setCell _ ⟨w.heap.size + 1 + 1 + 1, 0, none⟩ _ q (by show q ≠ w.heap.size + 1 + 1 + 1; omega)).trans (Below.heap_setCell _ ⟨w.heap.size + 1 + 1, 1, none⟩ _ q (by show q ≠ w.heap.size + 1 + 1; omega))).trans (Below.heap_setCell _ ⟨w.heap.size + 1 + 1, 0, none⟩ _ q (by show q ≠ w.heap.size + 1 + 1; omega)))
      have BF := hid (((hB6.setCell (p := ⟨w.heap.size + 1 + 1, 0, none⟩) (by show w.heap.size ≤ w.heap.size + 1 + 1; omega) (.int .i64 lo)).setCell (p := ⟨w.heap.size + 1 + 1, 1, none⟩) (by show w.heap.size ≤ w.heap.size + 1 + 1; omega) (.int .i64 H)).setCell (p := ⟨w.heap.size + 1 + 1 + 1, 0, none⟩) (by show w.heap.size ≤ w.heap.size + 1 + 1 + 1; omega) (.int .i64 0))
      have HK2 := hid hK2
      have HKD := hid hKD
      have hD9 : w.heap.size + 1 + 1 + 1 < D := by omega
      clear hL1 hT r2 r3 hK2 hKD hlo2
      gi_wp2
      obtain ⟨Y, hY⟩ : ∃ Y, Y = ((X.setCell ⟨w.heap.size + 1 + 1, 0, none⟩ (.int .i64 lo)).setCell ⟨w.heap.size + 1 + 1, 1, none⟩ (.int .i64 H)).setCell ⟨w.heap.size + 1 + 1 + 1, 0, none⟩ (.int .i64 0) := ⟨_, rfl⟩
      rw [← hY] at HS2 HS3 HBL BF ⊢
      clear hY y0 y1 v0 v1 v3 f0 f1 f3
      have k2 : Y.heap[D2]? = some (.deferred (some [])) := (HBL.out D2 (by omega)).trans HK2.out
      have k1 : Y.heap[D]? = some (.deferred (some [])) := (HBL.out D hD9).trans HKD.out
      have k1' : (Y.putObj D2 (.deferred none)).heap[D]? = some (.deferred (some [])) := (World.putObj_heap_other (by omega)).trans k1
      have s2 := row_kept (row_kept HS2.out (grownBy_putObj' _ D2 (.deferred none)) (fun r e => by cases e; exact ⟨_, k2, rfl⟩)) (grownBy_putObj' _ D (.deferred none)) (fun r e => by cases e; exact ⟨_, k1', rfl⟩)
      have s3 := row_kept (row_kept HS3.out (grownBy_putObj' _ D2 (.deferred none)) (fun r e => by cases e; exact ⟨_, k2, rfl⟩)) (grownBy_putObj' _ D (.deferred none)) (fun r e => by cases e; exact ⟨_, k1', rfl⟩)
      have z0 := s2.cell 0; have z1 := s2.cell 1; have z3 := s3.cell 0
      simp only [List.set_cons_zero, List.set_cons_succ, List.getElem?_cons_zero, List.getElem?_cons_succ] at z0 z1 z3
      refine ⟨by simp, .inl ⟨_, _, rfl, run_takeDeferred k2, ?_⟩⟩
      refine ⟨by simp, .inl ⟨_, _, rfl, run_takeDeferred k1', ?_⟩⟩
      exact ⟨.tuple #[.agg #[.int .i64 lo, .int .i64 H], .int .i64 0], by simp [results, Try.f6, go_sem, z0, z1, z3], by rw [HRES.out], (BF.out.trans (belowK_b (w := w) (Nat.le_refl _) _ D2 _ _ (by omega) k2 rfl rfl)).trans (belowK_b (w := w) (Nat.le_refl _) _ D _ _ (by omega) k1' rfl rfl)⟩
    case stop2 =>
      rintro D c pre W _ _ h _
      exact h.elim
  case stop =>
    rintro D c pre W hD ⟨j, hj, rfl⟩ ⟨⟨rfl, ⟨q, hq⟩, hr2, hr3⟩, hB5⟩ hK
    have hno : ¬ hiP (szL zs) js (List.finRange (js.length - 1)) ≤ most := fun h => by
      have := (show hkI (szL zs) js q.1 ≤ hiP (szL zs) js (List.finRange (js.length - 1)) from hiP_all (szL zs) js (⟨q.1, by have := q.2; have := hN.out; omega⟩ : Fin (js.length - 1)))
      omega
    rw [tiR_none HG.out ⟨hm0, hm9⟩ hno]
    have k2 := row_kept hr2 (grownBy_putObj' _ D (.deferred none)) (fun r e => by cases e; exact ⟨_, hK, rfl⟩)
    have k3 := row_kept hr3 (grownBy_putObj' _ D (.deferred none)) (fun r e => by cases e; exact ⟨_, hK, rfl⟩)
    have z0 := k2.cell 0; have z1 := k2.cell 1; have z3 := k3.cell 0
    simp only [List.getElem?_cons_zero, List.getElem?_cons_succ] at z0 z1 z3
    gi_wp2
    refine ⟨by simp, .inl ⟨_, _, rfl, run_takeDeferred hK, ?_⟩⟩
    exact ⟨.tuple #[.agg #[.int .i64 0, .int .i64 0], .int .i64 6], by simp [results, Try.f6, go_sem, z0, z1, z3], rfl, hB5.trans (belowK_b (w := w) (Nat.le_refl _) _ D _ _ (by omega) hK rfl rfl)⟩
end Go.Proofs.Ytofpgkbcodopiaa
