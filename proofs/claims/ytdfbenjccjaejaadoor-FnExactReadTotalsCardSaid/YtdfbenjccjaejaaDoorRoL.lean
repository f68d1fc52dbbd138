/- impl.readLines of impl.Total. -/
import Derived.Test.YtdfbenjccjaejaaDoorRoM
import Derived.Test.YtdfbenjccjaejaaDoorPiP
import Derived.Test.YtdfbenjccjaejaaDoorOwnT
namespace Go.Proofs.YtdfbenjccjaejaaDoor
open Go.RowKit Go.Shelf
set_option linter.unusedSimpArgs false
set_option linter.unusedVariables false
theorem tvals_snocR (l : List (Int × Int)) (a b : Int) : tvals (l ++ [(a, b)]) = tvals l ++ [.int .i64 a, .int .i64 b] := by
  unfold tvals
  rw [List.length_append, List.length_singleton, show (l.length + 1) * 2 = l.length * 2 + 1 + 1 by omega, numrs_succ, numrs_succ]
  have e1 : numrs (l ++ [(a, b)]) (l.length * 2) = numrs l (l.length * 2) := by
    unfold numrs
    apply List.map_congr_left
    intro i hi
    rw [List.mem_range] at hi
    have h2 : i / 2 < l.length := by omega
    unfold numr rd rv
    rw [List.getElem?_append_left h2]
  rw [e1, numr_even, numr_odd]
  simp [rd, rv]
theorem split_sizeL (sep : ByteArray) (save : Nat) : ∀ (k : Nat) (s p : ByteArray), p ∈ Lib.splitB sep save k s → p.size ≤ s.size
  | 0, s, p, h => by simp [Lib.splitB] at h; subst h; exact Nat.le_refl _
  | k + 1, s, p, h => by
    unfold Lib.splitB at h
    split at h
    · simp at h; subst h; exact Nat.le_refl _
    · simp only [List.mem_cons] at h
      rcases h with rfl | h
      · simp [ByteArray.size_extract]; omega
      · have := split_sizeL sep save k _ p h
        simp [ByteArray.size_extract] at this; omega
theorem take_nextL {ps : List ByteArray} {k : Nat} {p : ByteArray} (h : ps[k]? = some p) : ps.take (k + 1) = ps.take k ++ [p] := by
  have hk : k < ps.length := by
    by_cases c : k < ps.length
    · exact c
    · rw [List.getElem?_eq_none (by omega)] at h; cases h
  rw [List.getElem?_eq_getElem hk] at h
  injection h with h
  rw [List.take_succ_eq_append_getElem hk, h]
theorem owns_belowL {w w' : World} {base size n : Nat} {e : TypeId} {v : Value} {xs : List Value} (h : w.ownsRow base e size v n xs) (hb : Below w.heap.size w w') : w'.ownsRow base e size v n xs := by
  refine ⟨h.1, ?_⟩
  rcases h.2 with h0 | ⟨g, cap, cur, h1, h2, h3, h4⟩
  · exact .inl h0
  · exact .inr ⟨g, cap, cur, h1, h2, (hb.block g (lt_of_block h3)).trans h3, h4⟩
attribute [local go_sem] Oper.semAt_some
theorem owns_baseL {W : World} {base base' n : Nat} {e : TypeId} {sz : Nat} {v : Value} {vs : List Value} (h : W.ownsRow base e sz v n vs) (hb : base' ≤ base) : W.ownsRow base' e sz v n vs := ⟨h.1, by
  rcases h.2 with h | ⟨g, cap, cur, h2, h3, h4⟩
  · exact .inl h
  · exact .inr ⟨g, cap, cur, h2, Nat.le_trans hb h3, h4⟩⟩
def RpG (p : ByteArray) (w : World) (e : Ending) (w' : World) : Prop := ∃ x y : Int, e = .returned (.tuple #[.agg #[.int .i64 x, .int .i64 y], .bool (twoR p).isSome]) ∧ (∀ a b, twoR p = some (a, b) → x = a ∧ y = b) ∧ Below w.heap.size w w'
set_option maxRecDepth 100000 in
set_option maxHeartbeats 2000000 in
theorem implReadTotal_any (p : ByteArray) (hp : p.size ≤ 1048576) (w : World) {tS tR : TypeId} {pS pR : Value} {m : Int} (hLV : LV w tS pS tR pR m) : Calls Tryd.prog 13 #[.string p] w (RpG p w) := by
  have HLV := hid (fun W (h : Below w.heap.size w W) => hLV.below h (Nat.le_refl _))
  obtain ⟨n1, n2⟩ := cut_lenK p.data.toList [32]
  have hsz : p.data.toList.length = p.size := by rw [Array.length_toList]; rfl
  have HCUT := hid (fun W (h : LV W tS pS tR pR m) => show Calls Tryd.prog 19 #[.string p, .string ⟨#[32]⟩] W fun e w' => e = .returned (.tuple #[.string ⟨(Lib.cut p.data.toList [32]).1.toArray⟩, .string ⟨(Lib.cut p.data.toList [32]).2.1.toArray⟩, .bool (Lib.cut p.data.toList [32]).2.2]) ∧ ∃ n, w' = W.drewN n from Tryd.strings_Cut p ⟨#[32]⟩ m W (by omega) h.2.2.1)
  have HRP := hid (show twoR p = if (Lib.cut p.data.toList [32]).2.2 then (match pi64 (Lib.cut p.data.toList [32]).1, pi64 (Lib.cut p.data.toList [32]).2.1 with | some a, some b => some (a, b) | _, _ => none) else none from rfl)
  obtain ⟨⟨c1, c2, ok⟩, hc⟩ : ∃ c, Lib.cut p.data.toList [32] = c := ⟨_, rfl⟩
  rw [hc] at HCUT HRP n1 n2
  simp only at HCUT HRP n1 n2
  have HBV := hid (show Below w.heap.size w (w.alloc (.cells #[.int .i64 0, .int .i64 0] 33)) from (Below.refl _ _).alloc (Nat.le_refl _) _)
  have HRV := hid (Row.new w 33 [.int .i64 0, .int .i64 0])
  unfold RpG
  obtain ⟨R, hR⟩ : ∃ R, twoR p = R := ⟨_, rfl⟩
  rw [hR] at HRP ⊢
  have s1 : (⟨c1.toArray⟩ : ByteArray).size ≤ 1048576 := by show c1.toArray.size ≤ _; simp; omega
  have s2 : (⟨c2.toArray⟩ : ByteArray).size ≤ 1048576 := by show c2.toArray.size ≤ _; simp; omega
  clear hR hc hsz n1 n2 hLV hp
  cases e1 : pi64 c1 with
  | some v1 =>
    rw [e1] at HRP
    have H1 := hid (fun W => p64_yes ⟨c1.toArray⟩ s1 (v := v1) e1 W)
    cases e2 : pi64 c2 with
    | some v2 =>
      rw [e2] at HRP
      have H2 := hid (fun W => p64_yes ⟨c2.toArray⟩ s2 (v := v2) e2 W)
      obtain ⟨C1, hC1⟩ : ∃ C, (⟨c1.toArray⟩ : ByteArray) = C := ⟨_, rfl⟩
      obtain ⟨C2, hC2⟩ : ∃ C, (⟨c2.toArray⟩ : ByteArray) = C := ⟨_, rfl⟩
      rw [hC1, hC2] at HCUT
      rw [hC1] at H1
      rw [hC2] at H2
      clear hC1 hC2 s1 s2 e1 e2
      cases ok with
      | true =>
        go_enter Tryd.func13, Tryd.ntmps13
        go_wp2_with fail
        with_reducible refine (HCUT.out _ (HLV.out _ HBV.out)).mono ?_
        rintro e w1 ⟨rfl, d, rfl⟩
        have b1 := below_drewN HBV.out d
        have r1 := HRV.out.below (below_drewN (Below.refl _ _) d) HRV.out.lt
        obtain ⟨W1, hW1⟩ : ∃ X, X = (w.alloc (.cells #[.int .i64 0, .int .i64 0] 33)).drewN d := ⟨_, rfl⟩
        rw [← hW1] at b1 r1 ⊢
        clear hW1
        have B1 := hid b1; have R1 := hid r1
        clear b1 r1
        go_wp2_with fail
        with_reducible refine (H1.out _).mono ?_
        rintro e w2 ⟨rfl, hB⟩
        have B2 := hid (B1.out.trans (hB.mono B1.out.size))
        have R2 := hid (R1.out.below hB R1.out.lt)
        clear hB
        go_wp2_with fail
        with_reducible refine (H2.out _).mono ?_
        rintro e w3 ⟨rfl, hB⟩
        have B3 := hid (B2.out.trans (hB.mono B2.out.size))
        have R3 := hid (R2.out.below hB R2.out.lt)
        clear hB
        go_wp2_with fail
        refine wp_region_held (S := fun _ => True) (by kernel_rfl) ?_
        change wpAnyH _ _ _ _ _ _ _ _ (World.drew _)
        obtain ⟨V, hV⟩ : ∃ X, X = World.drew w3 := ⟨_, rfl⟩
        rw [← hV]
        have b4 : Below w.heap.size w V := by rw [hV]; exact B3.out.drew
        have r4 : Row V w.heap.size 33 [.int .i64 0, .int .i64 0] := by rw [hV]; exact R3.out.below ((Below.refl _ w3).drew) R3.out.lt
        clear hV
        have c0 := r4.cell 0; have c1 := r4.cell 1; have f0 := r4.frozen 0; have f1 := r4.frozen 1
        simp only [List.getElem?_cons_zero, List.getElem?_cons_succ] at c0 c1
        have b5 := (b4.setCell (p := ⟨w.heap.size, 0, none⟩) (Nat.le_refl _) (.int .i64 v1)).setCell (p := ⟨w.heap.size, 1, none⟩) (Nat.le_refl _) (.int .i64 v2)
        have r5 := (r4.set 0 (.int .i64 v1)).set 1 (.int .i64 v2)
        have d0 := r5.cell 0; have d1 := r5.cell 1
        simp only [List.set_cons_zero, List.set_cons_succ, List.getElem?_cons_zero, List.getElem?_cons_succ] at d0 d1
        clear b4 r4 r5
        have hs : (fun _ : World => True) V := trivial
        refine wpAnyH_takeD (some 27) (i := 0) (v := ?_) rfl rfl (by kernel_rfl) (by kernel_rfl) (by kernel_rfl) (fun _ _ _ h => h) (.inl ⟨by kernel_rfl, ?_⟩) (by exact trivial) ?_
        rotate_left
        · intro w' hw'; go_simp; try with_reducible rfl
        try simp only [Act.put, List.setIfInBounds_toArray, List.set_cons_zero, List.set_cons_succ]
        refine wpAnyH_takeD (some 28) (i := 1) (v := ?_) rfl rfl (by kernel_rfl) (by kernel_rfl) (by kernel_rfl) (fun _ _ _ h => h) (.inl ⟨by kernel_rfl, ?_⟩) (by exact trivial) ?_
        rotate_left
        · intro w' hw'; go_simp; try with_reducible rfl
        try simp only [Act.put, List.setIfInBounds_toArray, List.set_cons_zero, List.set_cons_succ]
        refine wpAnyH_takeD (some 29) (i := 2) (v := ?_) rfl rfl (by kernel_rfl) (by kernel_rfl) (by kernel_rfl) (fun _ _ _ h => h) (.inl ⟨by kernel_rfl, ?_⟩) (by exact trivial) ?_
        rotate_left
        · intro w' hw'; go_simp; try with_reducible rfl
        try simp only [Act.put, List.setIfInBounds_toArray, List.set_cons_zero, List.set_cons_succ]
        refine wpAnyH_takeD (some 30) (i := 3) (v := ?_) rfl rfl (by kernel_rfl) (by kernel_rfl) (by kernel_rfl) (fun _ _ _ h => h) (.inl ⟨by kernel_rfl, ?_⟩) (by exact trivial) ?_
        rotate_left
        · intro w' hw'; go_simp; try with_reducible rfl
        try simp only [Act.put, List.setIfInBounds_toArray, List.set_cons_zero, List.set_cons_succ]
        refine wpAnyH_takeD (some 31) (i := 4) (v := ?_) rfl rfl (by kernel_rfl) (by kernel_rfl) (by kernel_rfl) (fun _ _ _ h => h) (.inl ⟨by kernel_rfl, ?_⟩) (by exact trivial) ?_
        rotate_left
        · intro w' hw'; go_simp; try with_reducible rfl
        try simp only [Act.put, List.setIfInBounds_toArray, List.set_cons_zero, List.set_cons_succ]
        refine wpAnyH_takeD (some 32) (i := 5) (v := ?_) rfl rfl (by kernel_rfl) (by kernel_rfl) (by kernel_rfl) (fun _ _ _ h => h) (.inl ⟨by kernel_rfl, ?_⟩) (by exact trivial) ?_
        rotate_left
        · intro w' hw'; go_simp; try with_reducible rfl
        try simp only [Act.put, List.setIfInBounds_toArray, List.set_cons_zero, List.set_cons_succ]
        refine wpAnyH_takeD (some 33) (i := 6) (v := ?_) rfl rfl (by kernel_rfl) (by kernel_rfl) (by kernel_rfl) (fun _ _ _ h => h) (.inl ⟨by kernel_rfl, ?_⟩) (by exact trivial) ?_
        rotate_left
        · intro w' hw'; go_simp; try with_reducible rfl
        try simp only [Act.put, List.setIfInBounds_toArray, List.set_cons_zero, List.set_cons_succ]
        refine wpAnyH_takeD (some 34) (i := 7) (v := ?_) rfl rfl (by kernel_rfl) (by kernel_rfl) (by kernel_rfl) (fun _ _ _ h => h) (.inl ⟨by kernel_rfl, ?_⟩) (by exact trivial) ?_
        rotate_left
        · intro w' hw'; go_simp; try with_reducible rfl
        try simp only [Act.put, List.setIfInBounds_toArray, List.set_cons_zero, List.set_cons_succ]
        refine wpAnyH_takeD (some 35) (i := 8) (v := ?_) rfl rfl (by kernel_rfl) (by kernel_rfl) (by kernel_rfl) (fun _ _ _ h => h) (.inl ⟨by kernel_rfl, ?_⟩) (by exact trivial) ?_
        rotate_left
        · intro w' hw'; go_simp; try with_reducible rfl
        try simp only [Act.put, List.setIfInBounds_toArray, List.set_cons_zero, List.set_cons_succ]
        refine wpAnyH_takeD (some 36) (i := 9) (v := ?_) rfl rfl (by kernel_rfl) (by kernel_rfl) (by kernel_rfl) (fun _ _ _ h => h) (.inl ⟨by kernel_rfl, ?_⟩) (by exact trivial) ?_
        rotate_left
        · intro w' hw'; go_simp; try with_reducible rfl
        try simp only [Act.put, List.setIfInBounds_toArray, List.set_cons_zero, List.set_cons_succ]
        refine wpAnyH_takeD (some 37) (i := 10) (v := ?_) rfl rfl (by kernel_rfl) (by kernel_rfl) (by kernel_rfl) (fun _ _ _ h => h) (.inl ⟨by kernel_rfl, ?_⟩) (by exact trivial) ?_
        rotate_left
        · intro w' hw'; go_simp; try with_reducible rfl
        try simp only [Act.put, List.setIfInBounds_toArray, List.set_cons_zero, List.set_cons_succ]
        refine wpAnyH_takeD (some 38) (i := 11) (v := ?_) rfl rfl (by kernel_rfl) (by kernel_rfl) (by kernel_rfl) (fun _ _ _ h => h) (.inl ⟨by kernel_rfl, ?_⟩) (by exact trivial) ?_
        rotate_left
        · intro w' hw'; go_simp; try with_reducible rfl
        try simp only [Act.put, List.setIfInBounds_toArray, List.set_cons_zero, List.set_cons_succ]
        refine wpAnyH_all (rs := [12]) (by kernel_rfl) (by simp) ?_
        intro i hi; simp only [List.mem_singleton] at hi; subst hi
        refine wpOp_step rfl (fun K hK => ?_)
        go_simp
        refine hK _ _ ⟨trivial, ?_⟩
        try simp only [Act.put, List.setIfInBounds_toArray, List.set_cons_zero, List.set_cons_succ]
        clear hK K
        refine wpAnyH_takeD (some 3) (i := 13) (v := ?_) rfl rfl (by kernel_rfl) (by kernel_rfl) (by kernel_rfl) (fun _ _ _ h => h) (.inl ⟨by kernel_rfl, ?_⟩) (by exact trivial) ?_
        rotate_left
        · intro w' hw'; go_simp; try with_reducible rfl
        try simp only [Act.put, List.setIfInBounds_toArray, List.set_cons_zero, List.set_cons_succ]
        refine wpAnyH_done (by kernel_rfl) ?_ _
        go_wp2_with fail
        refine bodyPost_ret (v := .tuple #[.agg #[.int .i64 v1, .int .i64 v2], .bool true]) (by simp [results, Tryd.results13, go_sem, d0, d1]) rfl ⟨v1, v2, by rw [HRP.out]; rfl, ?_, b5⟩
        intro a b hab
        rw [HRP.out] at hab
        have hab2 : (v1, v2) = (a, b) := by simpa using hab
        injection hab2 with ha hb
        exact ⟨ha, hb⟩
      | false =>
        go_enter Tryd.func13, Tryd.ntmps13
        go_wp2_with fail
        with_reducible refine (HCUT.out _ (HLV.out _ HBV.out)).mono ?_
        rintro e w1 ⟨rfl, d, rfl⟩
        have b1 := below_drewN HBV.out d
        have r1 := HRV.out.below (below_drewN (Below.refl _ _) d) HRV.out.lt
        obtain ⟨W1, hW1⟩ : ∃ X, X = (w.alloc (.cells #[.int .i64 0, .int .i64 0] 33)).drewN d := ⟨_, rfl⟩
        rw [← hW1] at b1 r1 ⊢
        clear hW1
        have B1 := hid b1; have R1 := hid r1
        clear b1 r1
        go_wp2_with fail
        with_reducible refine (H1.out _).mono ?_
        rintro e w2 ⟨rfl, hB⟩
        have B2 := hid (B1.out.trans (hB.mono B1.out.size))
        have R2 := hid (R1.out.below hB R1.out.lt)
        clear hB
        go_wp2_with fail
        with_reducible refine (H2.out _).mono ?_
        rintro e w3 ⟨rfl, hB⟩
        have B3 := hid (B2.out.trans (hB.mono B2.out.size))
        have R3 := hid (R2.out.below hB R2.out.lt)
        clear hB
        go_wp2_with fail
        refine wp_region_held (S := fun _ => True) (by kernel_rfl) ?_
        change wpAnyH _ _ _ _ _ _ _ _ (World.drew _)
        obtain ⟨V, hV⟩ : ∃ X, X = World.drew w3 := ⟨_, rfl⟩
        rw [← hV]
        have b4 : Below w.heap.size w V := by rw [hV]; exact B3.out.drew
        have r4 : Row V w.heap.size 33 [.int .i64 0, .int .i64 0] := by rw [hV]; exact R3.out.below ((Below.refl _ w3).drew) R3.out.lt
        clear hV
        have c0 := r4.cell 0; have c1 := r4.cell 1; have f0 := r4.frozen 0; have f1 := r4.frozen 1
        simp only [List.getElem?_cons_zero, List.getElem?_cons_succ] at c0 c1
        have b5 := (b4.setCell (p := ⟨w.heap.size, 0, none⟩) (Nat.le_refl _) (.int .i64 v1)).setCell (p := ⟨w.heap.size, 1, none⟩) (Nat.le_refl _) (.int .i64 v2)
        have r5 := (r4.set 0 (.int .i64 v1)).set 1 (.int .i64 v2)
        have d0 := r5.cell 0; have d1 := r5.cell 1
        simp only [List.set_cons_zero, List.set_cons_succ, List.getElem?_cons_zero, List.getElem?_cons_succ] at d0 d1
        clear b4 r4 r5
        have hs : (fun _ : World => True) V := trivial
        refine wpAnyH_takeD (some 27) (i := 0) (v := ?_) rfl rfl (by kernel_rfl) (by kernel_rfl) (by kernel_rfl) (fun _ _ _ h => h) (.inl ⟨by kernel_rfl, ?_⟩) (by exact trivial) ?_
        rotate_left
        · intro w' hw'; go_simp; try with_reducible rfl
        try simp only [Act.put, List.setIfInBounds_toArray, List.set_cons_zero, List.set_cons_succ]
        refine wpAnyH_takeD (some 28) (i := 1) (v := ?_) rfl rfl (by kernel_rfl) (by kernel_rfl) (by kernel_rfl) (fun _ _ _ h => h) (.inl ⟨by kernel_rfl, ?_⟩) (by exact trivial) ?_
        rotate_left
        · intro w' hw'; go_simp; try with_reducible rfl
        try simp only [Act.put, List.setIfInBounds_toArray, List.set_cons_zero, List.set_cons_succ]
        refine wpAnyH_takeD (some 29) (i := 2) (v := ?_) rfl rfl (by kernel_rfl) (by kernel_rfl) (by kernel_rfl) (fun _ _ _ h => h) (.inl ⟨by kernel_rfl, ?_⟩) (by exact trivial) ?_
        rotate_left
        · intro w' hw'; go_simp; try with_reducible rfl
        try simp only [Act.put, List.setIfInBounds_toArray, List.set_cons_zero, List.set_cons_succ]
        refine wpAnyH_takeD (some 30) (i := 3) (v := ?_) rfl rfl (by kernel_rfl) (by kernel_rfl) (by kernel_rfl) (fun _ _ _ h => h) (.inl ⟨by kernel_rfl, ?_⟩) (by exact trivial) ?_
        rotate_left
        · intro w' hw'; go_simp; try with_reducible rfl
        try simp only [Act.put, List.setIfInBounds_toArray, List.set_cons_zero, List.set_cons_succ]
        refine wpAnyH_takeD (some 31) (i := 4) (v := ?_) rfl rfl (by kernel_rfl) (by kernel_rfl) (by kernel_rfl) (fun _ _ _ h => h) (.inl ⟨by kernel_rfl, ?_⟩) (by exact trivial) ?_
        rotate_left
        · intro w' hw'; go_simp; try with_reducible rfl
        try simp only [Act.put, List.setIfInBounds_toArray, List.set_cons_zero, List.set_cons_succ]
        refine wpAnyH_takeD (some 32) (i := 5) (v := undef) rfl rfl (by kernel_rfl) (by kernel_rfl) (by kernel_rfl) (fun _ _ _ h => h) (.inr ⟨by kernel_rfl, rfl⟩) (by exact trivial) ?_
        try simp only [Act.put, List.setIfInBounds_toArray, List.set_cons_zero, List.set_cons_succ]
        refine wpAnyH_takeD (some 33) (i := 6) (v := undef) rfl rfl (by kernel_rfl) (by kernel_rfl) (by kernel_rfl) (fun _ _ _ h => h) (.inr ⟨by kernel_rfl, rfl⟩) (by exact trivial) ?_
        try simp only [Act.put, List.setIfInBounds_toArray, List.set_cons_zero, List.set_cons_succ]
        refine wpAnyH_takeD (some 34) (i := 7) (v := ?_) rfl rfl (by kernel_rfl) (by kernel_rfl) (by kernel_rfl) (fun _ _ _ h => h) (.inl ⟨by kernel_rfl, ?_⟩) (by exact trivial) ?_
        rotate_left
        · intro w' hw'; go_simp; try with_reducible rfl
        try simp only [Act.put, List.setIfInBounds_toArray, List.set_cons_zero, List.set_cons_succ]
        refine wpAnyH_takeD (some 35) (i := 8) (v := ?_) rfl rfl (by kernel_rfl) (by kernel_rfl) (by kernel_rfl) (fun _ _ _ h => h) (.inl ⟨by kernel_rfl, ?_⟩) (by exact trivial) ?_
        rotate_left
        · intro w' hw'; go_simp; try with_reducible rfl
        try simp only [Act.put, List.setIfInBounds_toArray, List.set_cons_zero, List.set_cons_succ]
        refine wpAnyH_takeD (some 36) (i := 9) (v := undef) rfl rfl (by kernel_rfl) (by kernel_rfl) (by kernel_rfl) (fun _ _ _ h => h) (.inr ⟨by kernel_rfl, rfl⟩) (by exact trivial) ?_
        try simp only [Act.put, List.setIfInBounds_toArray, List.set_cons_zero, List.set_cons_succ]
        refine wpAnyH_takeD (some 37) (i := 10) (v := undef) rfl rfl (by kernel_rfl) (by kernel_rfl) (by kernel_rfl) (fun _ _ _ h => h) (.inr ⟨by kernel_rfl, rfl⟩) (by exact trivial) ?_
        try simp only [Act.put, List.setIfInBounds_toArray, List.set_cons_zero, List.set_cons_succ]
        refine wpAnyH_takeD (some 38) (i := 11) (v := ?_) rfl rfl (by kernel_rfl) (by kernel_rfl) (by kernel_rfl) (fun _ _ _ h => h) (.inl ⟨by kernel_rfl, ?_⟩) (by exact trivial) ?_
        rotate_left
        · intro w' hw'; go_simp; try with_reducible rfl
        try simp only [Act.put, List.setIfInBounds_toArray, List.set_cons_zero, List.set_cons_succ]
        refine wpAnyH_all (rs := [12]) (by kernel_rfl) (by simp) ?_
        intro i hi; simp only [List.mem_singleton] at hi; subst hi
        refine wpOp_step rfl (fun K hK => ?_)
        go_simp
        refine hK _ _ ⟨trivial, ?_⟩
        try simp only [Act.put, List.setIfInBounds_toArray, List.set_cons_zero, List.set_cons_succ]
        clear hK K
        refine wpAnyH_takeD (some 3) (i := 13) (v := ?_) rfl rfl (by kernel_rfl) (by kernel_rfl) (by kernel_rfl) (fun _ _ _ h => h) (.inl ⟨by kernel_rfl, ?_⟩) (by exact trivial) ?_
        rotate_left
        · intro w' hw'; go_simp; try with_reducible rfl
        try simp only [Act.put, List.setIfInBounds_toArray, List.set_cons_zero, List.set_cons_succ]
        refine wpAnyH_done (by kernel_rfl) ?_ _
        go_wp2_with fail
        refine bodyPost_ret (v := .tuple #[.agg #[.int .i64 v1, .int .i64 v2], .bool false]) (by simp [results, Tryd.results13, go_sem, d0, d1]) rfl ⟨v1, v2, by rw [HRP.out]; rfl, ?_, b5⟩
        intro a b hab
        rw [HRP.out] at hab
        simp at hab
    | none =>
      rw [e2] at HRP
      have H2 := hid (fun W (h : LV W tS pS tR pR m) => p64_no ⟨c2.toArray⟩ s2 e2 W h)
      obtain ⟨C1, hC1⟩ : ∃ C, (⟨c1.toArray⟩ : ByteArray) = C := ⟨_, rfl⟩
      obtain ⟨C2, hC2⟩ : ∃ C, (⟨c2.toArray⟩ : ByteArray) = C := ⟨_, rfl⟩
      rw [hC1, hC2] at HCUT
      rw [hC1] at H1
      rw [hC2] at H2
      clear hC1 hC2 s1 s2 e1 e2
      cases ok with
      | true =>
        go_enter Tryd.func13, Tryd.ntmps13
        go_wp2_with fail
        with_reducible refine (HCUT.out _ (HLV.out _ HBV.out)).mono ?_
        rintro e w1 ⟨rfl, d, rfl⟩
        have b1 := below_drewN HBV.out d
        have r1 := HRV.out.below (below_drewN (Below.refl _ _) d) HRV.out.lt
        obtain ⟨W1, hW1⟩ : ∃ X, X = (w.alloc (.cells #[.int .i64 0, .int .i64 0] 33)).drewN d := ⟨_, rfl⟩
        rw [← hW1] at b1 r1 ⊢
        clear hW1
        have B1 := hid b1; have R1 := hid r1
        clear b1 r1
        go_wp2_with fail
        with_reducible refine (H1.out _).mono ?_
        rintro e w2 ⟨rfl, hB⟩
        have B2 := hid (B1.out.trans (hB.mono B1.out.size))
        have R2 := hid (R1.out.below hB R1.out.lt)
        clear hB
        go_wp2_with fail
        with_reducible refine (H2.out _ (HLV.out _ B2.out)).mono ?_
        rintro e w3 ⟨x2, T2, q2, rfl, hB, -⟩
        have B3 := hid (B2.out.trans (hB.mono B2.out.size))
        have R3 := hid (R2.out.below hB R2.out.lt)
        clear hB
        go_wp2_with fail
        refine wp_region_held (S := fun _ => True) (by kernel_rfl) ?_
        change wpAnyH _ _ _ _ _ _ _ _ (World.drew _)
        obtain ⟨V, hV⟩ : ∃ X, X = World.drew w3 := ⟨_, rfl⟩
        rw [← hV]
        have b4 : Below w.heap.size w V := by rw [hV]; exact B3.out.drew
        have r4 : Row V w.heap.size 33 [.int .i64 0, .int .i64 0] := by rw [hV]; exact R3.out.below ((Below.refl _ w3).drew) R3.out.lt
        clear hV
        have c0 := r4.cell 0; have c1 := r4.cell 1; have f0 := r4.frozen 0; have f1 := r4.frozen 1
        simp only [List.getElem?_cons_zero, List.getElem?_cons_succ] at c0 c1
        have b5 := (b4.setCell (p := ⟨w.heap.size, 0, none⟩) (Nat.le_refl _) (.int .i64 v1)).setCell (p := ⟨w.heap.size, 1, none⟩) (Nat.le_refl _) (.int .i64 x2)
        have r5 := (r4.set 0 (.int .i64 v1)).set 1 (.int .i64 x2)
        have d0 := r5.cell 0; have d1 := r5.cell 1
        simp only [List.set_cons_zero, List.set_cons_succ, List.getElem?_cons_zero, List.getElem?_cons_succ] at d0 d1
        clear b4 r4 r5
        have hs : (fun _ : World => True) V := trivial
        refine wpAnyH_takeD (some 27) (i := 0) (v := ?_) rfl rfl (by kernel_rfl) (by kernel_rfl) (by kernel_rfl) (fun _ _ _ h => h) (.inl ⟨by kernel_rfl, ?_⟩) (by exact trivial) ?_
        rotate_left
        · intro w' hw'; go_simp; try with_reducible rfl
        try simp only [Act.put, List.setIfInBounds_toArray, List.set_cons_zero, List.set_cons_succ]
        refine wpAnyH_takeD (some 28) (i := 1) (v := ?_) rfl rfl (by kernel_rfl) (by kernel_rfl) (by kernel_rfl) (fun _ _ _ h => h) (.inl ⟨by kernel_rfl, ?_⟩) (by exact trivial) ?_
        rotate_left
        · intro w' hw'; go_simp; try with_reducible rfl
        try simp only [Act.put, List.setIfInBounds_toArray, List.set_cons_zero, List.set_cons_succ]
        refine wpAnyH_takeD (some 29) (i := 2) (v := ?_) rfl rfl (by kernel_rfl) (by kernel_rfl) (by kernel_rfl) (fun _ _ _ h => h) (.inl ⟨by kernel_rfl, ?_⟩) (by exact trivial) ?_
        rotate_left
        · intro w' hw'; go_simp; try with_reducible rfl
        try simp only [Act.put, List.setIfInBounds_toArray, List.set_cons_zero, List.set_cons_succ]
        refine wpAnyH_takeD (some 30) (i := 3) (v := ?_) rfl rfl (by kernel_rfl) (by kernel_rfl) (by kernel_rfl) (fun _ _ _ h => h) (.inl ⟨by kernel_rfl, ?_⟩) (by exact trivial) ?_
        rotate_left
        · intro w' hw'; go_simp; try with_reducible rfl
        try simp only [Act.put, List.setIfInBounds_toArray, List.set_cons_zero, List.set_cons_succ]
        refine wpAnyH_takeD (some 31) (i := 4) (v := ?_) rfl rfl (by kernel_rfl) (by kernel_rfl) (by kernel_rfl) (fun _ _ _ h => h) (.inl ⟨by kernel_rfl, ?_⟩) (by exact trivial) ?_
        rotate_left
        · intro w' hw'; go_simp; try with_reducible rfl
        try simp only [Act.put, List.setIfInBounds_toArray, List.set_cons_zero, List.set_cons_succ]
        refine wpAnyH_takeD (some 32) (i := 5) (v := ?_) rfl rfl (by kernel_rfl) (by kernel_rfl) (by kernel_rfl) (fun _ _ _ h => h) (.inl ⟨by kernel_rfl, ?_⟩) (by exact trivial) ?_
        rotate_left
        · intro w' hw'; go_simp; try with_reducible rfl
        try simp only [Act.put, List.setIfInBounds_toArray, List.set_cons_zero, List.set_cons_succ]
        refine wpAnyH_takeD (some 33) (i := 6) (v := ?_) rfl rfl (by kernel_rfl) (by kernel_rfl) (by kernel_rfl) (fun _ _ _ h => h) (.inl ⟨by kernel_rfl, ?_⟩) (by exact trivial) ?_
        rotate_left
        · intro w' hw'; go_simp; try with_reducible rfl
        try simp only [Act.put, List.setIfInBounds_toArray, List.set_cons_zero, List.set_cons_succ]
        refine wpAnyH_takeD (some 34) (i := 7) (v := ?_) rfl rfl (by kernel_rfl) (by kernel_rfl) (by kernel_rfl) (fun _ _ _ h => h) (.inl ⟨by kernel_rfl, ?_⟩) (by exact trivial) ?_
        rotate_left
        · intro w' hw'; go_simp; try with_reducible rfl
        try simp only [Act.put, List.setIfInBounds_toArray, List.set_cons_zero, List.set_cons_succ]
        refine wpAnyH_takeD (some 35) (i := 8) (v := ?_) rfl rfl (by kernel_rfl) (by kernel_rfl) (by kernel_rfl) (fun _ _ _ h => h) (.inl ⟨by kernel_rfl, ?_⟩) (by exact trivial) ?_
        rotate_left
        · intro w' hw'; go_simp; try with_reducible rfl
        try simp only [Act.put, List.setIfInBounds_toArray, List.set_cons_zero, List.set_cons_succ]
        refine wpAnyH_takeD (some 36) (i := 9) (v := ?_) rfl rfl (by kernel_rfl) (by kernel_rfl) (by kernel_rfl) (fun _ _ _ h => h) (.inl ⟨by kernel_rfl, ?_⟩) (by exact trivial) ?_
        rotate_left
        · intro w' hw'; go_simp; try with_reducible rfl
        try simp only [Act.put, List.setIfInBounds_toArray, List.set_cons_zero, List.set_cons_succ]
        refine wpAnyH_takeD (some 37) (i := 10) (v := ?_) rfl rfl (by kernel_rfl) (by kernel_rfl) (by kernel_rfl) (fun _ _ _ h => h) (.inl ⟨by kernel_rfl, ?_⟩) (by exact trivial) ?_
        rotate_left
        · intro w' hw'; go_simp; try with_reducible rfl
        try simp only [Act.put, List.setIfInBounds_toArray, List.set_cons_zero, List.set_cons_succ]
        refine wpAnyH_takeD (some 38) (i := 11) (v := ?_) rfl rfl (by kernel_rfl) (by kernel_rfl) (by kernel_rfl) (fun _ _ _ h => h) (.inl ⟨by kernel_rfl, ?_⟩) (by exact trivial) ?_
        rotate_left
        · intro w' hw'; go_simp; try with_reducible rfl
        try simp only [Act.put, List.setIfInBounds_toArray, List.set_cons_zero, List.set_cons_succ]
        refine wpAnyH_all (rs := [12]) (by kernel_rfl) (by simp) ?_
        intro i hi; simp only [List.mem_singleton] at hi; subst hi
        refine wpOp_step rfl (fun K hK => ?_)
        go_simp
        refine hK _ _ ⟨trivial, ?_⟩
        try simp only [Act.put, List.setIfInBounds_toArray, List.set_cons_zero, List.set_cons_succ]
        clear hK K
        refine wpAnyH_takeD (some 3) (i := 13) (v := ?_) rfl rfl (by kernel_rfl) (by kernel_rfl) (by kernel_rfl) (fun _ _ _ h => h) (.inl ⟨by kernel_rfl, ?_⟩) (by exact trivial) ?_
        rotate_left
        · intro w' hw'; go_simp; try with_reducible rfl
        try simp only [Act.put, List.setIfInBounds_toArray, List.set_cons_zero, List.set_cons_succ]
        refine wpAnyH_done (by kernel_rfl) ?_ _
        go_wp2_with fail
        refine bodyPost_ret (v := .tuple #[.agg #[.int .i64 v1, .int .i64 x2], .bool false]) (by simp [results, Tryd.results13, go_sem, d0, d1]) rfl ⟨v1, x2, by rw [HRP.out]; rfl, ?_, b5⟩
        intro a b hab
        rw [HRP.out] at hab
        simp at hab
      | false =>
        go_enter Tryd.func13, Tryd.ntmps13
        go_wp2_with fail
        with_reducible refine (HCUT.out _ (HLV.out _ HBV.out)).mono ?_
        rintro e w1 ⟨rfl, d, rfl⟩
        have b1 := below_drewN HBV.out d
        have r1 := HRV.out.below (below_drewN (Below.refl _ _) d) HRV.out.lt
        obtain ⟨W1, hW1⟩ : ∃ X, X = (w.alloc (.cells #[.int .i64 0, .int .i64 0] 33)).drewN d := ⟨_, rfl⟩
        rw [← hW1] at b1 r1 ⊢
        clear hW1
        have B1 := hid b1; have R1 := hid r1
        clear b1 r1
        go_wp2_with fail
        with_reducible refine (H1.out _).mono ?_
        rintro e w2 ⟨rfl, hB⟩
        have B2 := hid (B1.out.trans (hB.mono B1.out.size))
        have R2 := hid (R1.out.below hB R1.out.lt)
        clear hB
        go_wp2_with fail
        with_reducible refine (H2.out _ (HLV.out _ B2.out)).mono ?_
        rintro e w3 ⟨x2, T2, q2, rfl, hB, -⟩
        have B3 := hid (B2.out.trans (hB.mono B2.out.size))
        have R3 := hid (R2.out.below hB R2.out.lt)
        clear hB
        go_wp2_with fail
        refine wp_region_held (S := fun _ => True) (by kernel_rfl) ?_
        change wpAnyH _ _ _ _ _ _ _ _ (World.drew _)
        obtain ⟨V, hV⟩ : ∃ X, X = World.drew w3 := ⟨_, rfl⟩
        rw [← hV]
        have b4 : Below w.heap.size w V := by rw [hV]; exact B3.out.drew
        have r4 : Row V w.heap.size 33 [.int .i64 0, .int .i64 0] := by rw [hV]; exact R3.out.below ((Below.refl _ w3).drew) R3.out.lt
        clear hV
        have c0 := r4.cell 0; have c1 := r4.cell 1; have f0 := r4.frozen 0; have f1 := r4.frozen 1
        simp only [List.getElem?_cons_zero, List.getElem?_cons_succ] at c0 c1
        have b5 := (b4.setCell (p := ⟨w.heap.size, 0, none⟩) (Nat.le_refl _) (.int .i64 v1)).setCell (p := ⟨w.heap.size, 1, none⟩) (Nat.le_refl _) (.int .i64 x2)
        have r5 := (r4.set 0 (.int .i64 v1)).set 1 (.int .i64 x2)
        have d0 := r5.cell 0; have d1 := r5.cell 1
        simp only [List.set_cons_zero, List.set_cons_succ, List.getElem?_cons_zero, List.getElem?_cons_succ] at d0 d1
        clear b4 r4 r5
        have hs : (fun _ : World => True) V := trivial
        refine wpAnyH_takeD (some 27) (i := 0) (v := ?_) rfl rfl (by kernel_rfl) (by kernel_rfl) (by kernel_rfl) (fun _ _ _ h => h) (.inl ⟨by kernel_rfl, ?_⟩) (by exact trivial) ?_
        rotate_left
        · intro w' hw'; go_simp; try with_reducible rfl
        try simp only [Act.put, List.setIfInBounds_toArray, List.set_cons_zero, List.set_cons_succ]
        refine wpAnyH_takeD (some 28) (i := 1) (v := ?_) rfl rfl (by kernel_rfl) (by kernel_rfl) (by kernel_rfl) (fun _ _ _ h => h) (.inl ⟨by kernel_rfl, ?_⟩) (by exact trivial) ?_
        rotate_left
        · intro w' hw'; go_simp; try with_reducible rfl
        try simp only [Act.put, List.setIfInBounds_toArray, List.set_cons_zero, List.set_cons_succ]
        refine wpAnyH_takeD (some 29) (i := 2) (v := ?_) rfl rfl (by kernel_rfl) (by kernel_rfl) (by kernel_rfl) (fun _ _ _ h => h) (.inl ⟨by kernel_rfl, ?_⟩) (by exact trivial) ?_
        rotate_left
        · intro w' hw'; go_simp; try with_reducible rfl
        try simp only [Act.put, List.setIfInBounds_toArray, List.set_cons_zero, List.set_cons_succ]
        refine wpAnyH_takeD (some 30) (i := 3) (v := ?_) rfl rfl (by kernel_rfl) (by kernel_rfl) (by kernel_rfl) (fun _ _ _ h => h) (.inl ⟨by kernel_rfl, ?_⟩) (by exact trivial) ?_
        rotate_left
        · intro w' hw'; go_simp; try with_reducible rfl
        try simp only [Act.put, List.setIfInBounds_toArray, List.set_cons_zero, List.set_cons_succ]
        refine wpAnyH_takeD (some 31) (i := 4) (v := ?_) rfl rfl (by kernel_rfl) (by kernel_rfl) (by kernel_rfl) (fun _ _ _ h => h) (.inl ⟨by kernel_rfl, ?_⟩) (by exact trivial) ?_
        rotate_left
        · intro w' hw'; go_simp; try with_reducible rfl
        try simp only [Act.put, List.setIfInBounds_toArray, List.set_cons_zero, List.set_cons_succ]
        refine wpAnyH_takeD (some 32) (i := 5) (v := undef) rfl rfl (by kernel_rfl) (by kernel_rfl) (by kernel_rfl) (fun _ _ _ h => h) (.inr ⟨by kernel_rfl, rfl⟩) (by exact trivial) ?_
        try simp only [Act.put, List.setIfInBounds_toArray, List.set_cons_zero, List.set_cons_succ]
        refine wpAnyH_takeD (some 33) (i := 6) (v := undef) rfl rfl (by kernel_rfl) (by kernel_rfl) (by kernel_rfl) (fun _ _ _ h => h) (.inr ⟨by kernel_rfl, rfl⟩) (by exact trivial) ?_
        try simp only [Act.put, List.setIfInBounds_toArray, List.set_cons_zero, List.set_cons_succ]
        refine wpAnyH_takeD (some 34) (i := 7) (v := ?_) rfl rfl (by kernel_rfl) (by kernel_rfl) (by kernel_rfl) (fun _ _ _ h => h) (.inl ⟨by kernel_rfl, ?_⟩) (by exact trivial) ?_
        rotate_left
        · intro w' hw'; go_simp; try with_reducible rfl
        try simp only [Act.put, List.setIfInBounds_toArray, List.set_cons_zero, List.set_cons_succ]
        refine wpAnyH_takeD (some 35) (i := 8) (v := ?_) rfl rfl (by kernel_rfl) (by kernel_rfl) (by kernel_rfl) (fun _ _ _ h => h) (.inl ⟨by kernel_rfl, ?_⟩) (by exact trivial) ?_
        rotate_left
        · intro w' hw'; go_simp; try with_reducible rfl
        try simp only [Act.put, List.setIfInBounds_toArray, List.set_cons_zero, List.set_cons_succ]
        refine wpAnyH_takeD (some 36) (i := 9) (v := undef) rfl rfl (by kernel_rfl) (by kernel_rfl) (by kernel_rfl) (fun _ _ _ h => h) (.inr ⟨by kernel_rfl, rfl⟩) (by exact trivial) ?_
        try simp only [Act.put, List.setIfInBounds_toArray, List.set_cons_zero, List.set_cons_succ]
        refine wpAnyH_takeD (some 37) (i := 10) (v := undef) rfl rfl (by kernel_rfl) (by kernel_rfl) (by kernel_rfl) (fun _ _ _ h => h) (.inr ⟨by kernel_rfl, rfl⟩) (by exact trivial) ?_
        try simp only [Act.put, List.setIfInBounds_toArray, List.set_cons_zero, List.set_cons_succ]
        refine wpAnyH_takeD (some 38) (i := 11) (v := ?_) rfl rfl (by kernel_rfl) (by kernel_rfl) (by kernel_rfl) (fun _ _ _ h => h) (.inl ⟨by kernel_rfl, ?_⟩) (by exact trivial) ?_
        rotate_left
        · intro w' hw'; go_simp; try with_reducible rfl
        try simp only [Act.put, List.setIfInBounds_toArray, List.set_cons_zero, List.set_cons_succ]
        refine wpAnyH_all (rs := [12]) (by kernel_rfl) (by simp) ?_
        intro i hi; simp only [List.mem_singleton] at hi; subst hi
        refine wpOp_step rfl (fun K hK => ?_)
        go_simp
        refine hK _ _ ⟨trivial, ?_⟩
        try simp only [Act.put, List.setIfInBounds_toArray, List.set_cons_zero, List.set_cons_succ]
        clear hK K
        refine wpAnyH_takeD (some 3) (i := 13) (v := ?_) rfl rfl (by kernel_rfl) (by kernel_rfl) (by kernel_rfl) (fun _ _ _ h => h) (.inl ⟨by kernel_rfl, ?_⟩) (by exact trivial) ?_
        rotate_left
        · intro w' hw'; go_simp; try with_reducible rfl
        try simp only [Act.put, List.setIfInBounds_toArray, List.set_cons_zero, List.set_cons_succ]
        refine wpAnyH_done (by kernel_rfl) ?_ _
        go_wp2_with fail
        refine bodyPost_ret (v := .tuple #[.agg #[.int .i64 v1, .int .i64 x2], .bool false]) (by simp [results, Tryd.results13, go_sem, d0, d1]) rfl ⟨v1, x2, by rw [HRP.out]; rfl, ?_, b5⟩
        intro a b hab
        rw [HRP.out] at hab
        simp at hab
  | none =>
    rw [e1] at HRP
    have H1 := hid (fun W (h : LV W tS pS tR pR m) => p64_no ⟨c1.toArray⟩ s1 e1 W h)
    cases e2 : pi64 c2 with
    | some v2 =>
      rw [e2] at HRP
      have H2 := hid (fun W => p64_yes ⟨c2.toArray⟩ s2 (v := v2) e2 W)
      obtain ⟨C1, hC1⟩ : ∃ C, (⟨c1.toArray⟩ : ByteArray) = C := ⟨_, rfl⟩
      obtain ⟨C2, hC2⟩ : ∃ C, (⟨c2.toArray⟩ : ByteArray) = C := ⟨_, rfl⟩
      rw [hC1, hC2] at HCUT
      rw [hC1] at H1
      rw [hC2] at H2
      clear hC1 hC2 s1 s2 e1 e2
      cases ok with
      | true =>
        go_enter Tryd.func13, Tryd.ntmps13
        go_wp2_with fail
        with_reducible refine (HCUT.out _ (HLV.out _ HBV.out)).mono ?_
        rintro e w1 ⟨rfl, d, rfl⟩
        have b1 := below_drewN HBV.out d
        have r1 := HRV.out.below (below_drewN (Below.refl _ _) d) HRV.out.lt
        obtain ⟨W1, hW1⟩ : ∃ X, X = (w.alloc (.cells #[.int .i64 0, .int .i64 0] 33)).drewN d := ⟨_, rfl⟩
        rw [← hW1] at b1 r1 ⊢
        clear hW1
        have B1 := hid b1; have R1 := hid r1
        clear b1 r1
        go_wp2_with fail
        with_reducible refine (H1.out _ (HLV.out _ B1.out)).mono ?_
        rintro e w2 ⟨x1, T1, q1, rfl, hB, -⟩
        have B2 := hid (B1.out.trans (hB.mono B1.out.size))
        have R2 := hid (R1.out.below hB R1.out.lt)
        clear hB
        go_wp2_with fail
        with_reducible refine (H2.out _).mono ?_
        rintro e w3 ⟨rfl, hB⟩
        have B3 := hid (B2.out.trans (hB.mono B2.out.size))
        have R3 := hid (R2.out.below hB R2.out.lt)
        clear hB
        go_wp2_with fail
        refine wp_region_held (S := fun _ => True) (by kernel_rfl) ?_
        change wpAnyH _ _ _ _ _ _ _ _ (World.drew _)
        obtain ⟨V, hV⟩ : ∃ X, X = World.drew w3 := ⟨_, rfl⟩
        rw [← hV]
        have b4 : Below w.heap.size w V := by rw [hV]; exact B3.out.drew
        have r4 : Row V w.heap.size 33 [.int .i64 0, .int .i64 0] := by rw [hV]; exact R3.out.below ((Below.refl _ w3).drew) R3.out.lt
        clear hV
        have c0 := r4.cell 0; have c1 := r4.cell 1; have f0 := r4.frozen 0; have f1 := r4.frozen 1
        simp only [List.getElem?_cons_zero, List.getElem?_cons_succ] at c0 c1
        have b5 := (b4.setCell (p := ⟨w.heap.size, 0, none⟩) (Nat.le_refl _) (.int .i64 x1)).setCell (p := ⟨w.heap.size, 1, none⟩) (Nat.le_refl _) (.int .i64 v2)
        have r5 := (r4.set 0 (.int .i64 x1)).set 1 (.int .i64 v2)
        have d0 := r5.cell 0; have d1 := r5.cell 1
        simp only [List.set_cons_zero, List.set_cons_succ, List.getElem?_cons_zero, List.getElem?_cons_succ] at d0 d1
        clear b4 r4 r5
        have hs : (fun _ : World => True) V := trivial
        refine wpAnyH_takeD (some 27) (i := 0) (v := ?_) rfl rfl (by kernel_rfl) (by kernel_rfl) (by kernel_rfl) (fun _ _ _ h => h) (.inl ⟨by kernel_rfl, ?_⟩) (by exact trivial) ?_
        rotate_left
        · intro w' hw'; go_simp; try with_reducible rfl
        try simp only [Act.put, List.setIfInBounds_toArray, List.set_cons_zero, List.set_cons_succ]
        refine wpAnyH_takeD (some 28) (i := 1) (v := ?_) rfl rfl (by kernel_rfl) (by kernel_rfl) (by kernel_rfl) (fun _ _ _ h => h) (.inl ⟨by kernel_rfl, ?_⟩) (by exact trivial) ?_
        rotate_left
        · intro w' hw'; go_simp; try with_reducible rfl
        try simp only [Act.put, List.setIfInBounds_toArray, List.set_cons_zero, List.set_cons_succ]
        refine wpAnyH_takeD (some 29) (i := 2) (v := ?_) rfl rfl (by kernel_rfl) (by kernel_rfl) (by kernel_rfl) (fun _ _ _ h => h) (.inl ⟨by kernel_rfl, ?_⟩) (by exact trivial) ?_
        rotate_left
        · intro w' hw'; go_simp; try with_reducible rfl
        try simp only [Act.put, List.setIfInBounds_toArray, List.set_cons_zero, List.set_cons_succ]
        refine wpAnyH_takeD (some 30) (i := 3) (v := ?_) rfl rfl (by kernel_rfl) (by kernel_rfl) (by kernel_rfl) (fun _ _ _ h => h) (.inl ⟨by kernel_rfl, ?_⟩) (by exact trivial) ?_
        rotate_left
        · intro w' hw'; go_simp; try with_reducible rfl
        try simp only [Act.put, List.setIfInBounds_toArray, List.set_cons_zero, List.set_cons_succ]
        refine wpAnyH_takeD (some 31) (i := 4) (v := ?_) rfl rfl (by kernel_rfl) (by kernel_rfl) (by kernel_rfl) (fun _ _ _ h => h) (.inl ⟨by kernel_rfl, ?_⟩) (by exact trivial) ?_
        rotate_left
        · intro w' hw'; go_simp; try with_reducible rfl
        try simp only [Act.put, List.setIfInBounds_toArray, List.set_cons_zero, List.set_cons_succ]
        refine wpAnyH_takeD (some 32) (i := 5) (v := ?_) rfl rfl (by kernel_rfl) (by kernel_rfl) (by kernel_rfl) (fun _ _ _ h => h) (.inl ⟨by kernel_rfl, ?_⟩) (by exact trivial) ?_
        rotate_left
        · intro w' hw'; go_simp; try with_reducible rfl
        try simp only [Act.put, List.setIfInBounds_toArray, List.set_cons_zero, List.set_cons_succ]
        refine wpAnyH_takeD (some 33) (i := 6) (v := ?_) rfl rfl (by kernel_rfl) (by kernel_rfl) (by kernel_rfl) (fun _ _ _ h => h) (.inl ⟨by kernel_rfl, ?_⟩) (by exact trivial) ?_
        rotate_left
        · intro w' hw'; go_simp; try with_reducible rfl
        try simp only [Act.put, List.setIfInBounds_toArray, List.set_cons_zero, List.set_cons_succ]
        refine wpAnyH_takeD (some 34) (i := 7) (v := ?_) rfl rfl (by kernel_rfl) (by kernel_rfl) (by kernel_rfl) (fun _ _ _ h => h) (.inl ⟨by kernel_rfl, ?_⟩) (by exact trivial) ?_
        rotate_left
        · intro w' hw'; go_simp; try with_reducible rfl
        try simp only [Act.put, List.setIfInBounds_toArray, List.set_cons_zero, List.set_cons_succ]
        refine wpAnyH_takeD (some 35) (i := 8) (v := ?_) rfl rfl (by kernel_rfl) (by kernel_rfl) (by kernel_rfl) (fun _ _ _ h => h) (.inl ⟨by kernel_rfl, ?_⟩) (by exact trivial) ?_
        rotate_left
        · intro w' hw'; go_simp; try with_reducible rfl
        try simp only [Act.put, List.setIfInBounds_toArray, List.set_cons_zero, List.set_cons_succ]
        refine wpAnyH_takeD (some 36) (i := 9) (v := undef) rfl rfl (by kernel_rfl) (by kernel_rfl) (by kernel_rfl) (fun _ _ _ h => h) (.inr ⟨by kernel_rfl, rfl⟩) (by exact trivial) ?_
        try simp only [Act.put, List.setIfInBounds_toArray, List.set_cons_zero, List.set_cons_succ]
        refine wpAnyH_takeD (some 37) (i := 10) (v := undef) rfl rfl (by kernel_rfl) (by kernel_rfl) (by kernel_rfl) (fun _ _ _ h => h) (.inr ⟨by kernel_rfl, rfl⟩) (by exact trivial) ?_
        try simp only [Act.put, List.setIfInBounds_toArray, List.set_cons_zero, List.set_cons_succ]
        refine wpAnyH_takeD (some 38) (i := 11) (v := ?_) rfl rfl (by kernel_rfl) (by kernel_rfl) (by kernel_rfl) (fun _ _ _ h => h) (.inl ⟨by kernel_rfl, ?_⟩) (by exact trivial) ?_
        rotate_left
        · intro w' hw'; go_simp; try with_reducible rfl
        try simp only [Act.put, List.setIfInBounds_toArray, List.set_cons_zero, List.set_cons_succ]
        refine wpAnyH_all (rs := [12]) (by kernel_rfl) (by simp) ?_
        intro i hi; simp only [List.mem_singleton] at hi; subst hi
        refine wpOp_step rfl (fun K hK => ?_)
        go_simp
        refine hK _ _ ⟨trivial, ?_⟩
        try simp only [Act.put, List.setIfInBounds_toArray, List.set_cons_zero, List.set_cons_succ]
        clear hK K
        refine wpAnyH_takeD (some 3) (i := 13) (v := ?_) rfl rfl (by kernel_rfl) (by kernel_rfl) (by kernel_rfl) (fun _ _ _ h => h) (.inl ⟨by kernel_rfl, ?_⟩) (by exact trivial) ?_
        rotate_left
        · intro w' hw'; go_simp; try with_reducible rfl
        try simp only [Act.put, List.setIfInBounds_toArray, List.set_cons_zero, List.set_cons_succ]
        refine wpAnyH_done (by kernel_rfl) ?_ _
        go_wp2_with fail
        refine bodyPost_ret (v := .tuple #[.agg #[.int .i64 x1, .int .i64 v2], .bool false]) (by simp [results, Tryd.results13, go_sem, d0, d1]) rfl ⟨x1, v2, by rw [HRP.out]; rfl, ?_, b5⟩
        intro a b hab
        rw [HRP.out] at hab
        simp at hab
      | false =>
        go_enter Tryd.func13, Tryd.ntmps13
        go_wp2_with fail
        with_reducible refine (HCUT.out _ (HLV.out _ HBV.out)).mono ?_
        rintro e w1 ⟨rfl, d, rfl⟩
        have b1 := below_drewN HBV.out d
        have r1 := HRV.out.below (below_drewN (Below.refl _ _) d) HRV.out.lt
        obtain ⟨W1, hW1⟩ : ∃ X, X = (w.alloc (.cells #[.int .i64 0, .int .i64 0] 33)).drewN d := ⟨_, rfl⟩
        rw [← hW1] at b1 r1 ⊢
        clear hW1
        have B1 := hid b1; have R1 := hid r1
        clear b1 r1
        go_wp2_with fail
        with_reducible refine (H1.out _ (HLV.out _ B1.out)).mono ?_
        rintro e w2 ⟨x1, T1, q1, rfl, hB, -⟩
        have B2 := hid (B1.out.trans (hB.mono B1.out.size))
        have R2 := hid (R1.out.below hB R1.out.lt)
        clear hB
        go_wp2_with fail
        with_reducible refine (H2.out _).mono ?_
        rintro e w3 ⟨rfl, hB⟩
        have B3 := hid (B2.out.trans (hB.mono B2.out.size))
        have R3 := hid (R2.out.below hB R2.out.lt)
        clear hB
        go_wp2_with fail
        refine wp_region_held (S := fun _ => True) (by kernel_rfl) ?_
        change wpAnyH _ _ _ _ _ _ _ _ (World.drew _)
        obtain ⟨V, hV⟩ : ∃ X, X = World.drew w3 := ⟨_, rfl⟩
        rw [← hV]
        have b4 : Below w.heap.size w V := by rw [hV]; exact B3.out.drew
        have r4 : Row V w.heap.size 33 [.int .i64 0, .int .i64 0] := by rw [hV]; exact R3.out.below ((Below.refl _ w3).drew) R3.out.lt
        clear hV
        have c0 := r4.cell 0; have c1 := r4.cell 1; have f0 := r4.frozen 0; have f1 := r4.frozen 1
        simp only [List.getElem?_cons_zero, List.getElem?_cons_succ] at c0 c1
        have b5 := (b4.setCell (p := ⟨w.heap.size, 0, none⟩) (Nat.le_refl _) (.int .i64 x1)).setCell (p := ⟨w.heap.size, 1, none⟩) (Nat.le_refl _) (.int .i64 v2)
        have r5 := (r4.set 0 (.int .i64 x1)).set 1 (.int .i64 v2)
        have d0 := r5.cell 0; have d1 := r5.cell 1
        simp only [List.set_cons_zero, List.set_cons_succ, List.getElem?_cons_zero, List.getElem?_cons_succ] at d0 d1
        clear b4 r4 r5
        have hs : (fun _ : World => True) V := trivial
        refine wpAnyH_takeD (some 27) (i := 0) (v := ?_) rfl rfl (by kernel_rfl) (by kernel_rfl) (by kernel_rfl) (fun _ _ _ h => h) (.inl ⟨by kernel_rfl, ?_⟩) (by exact trivial) ?_
        rotate_left
        · intro w' hw'; go_simp; try with_reducible rfl
        try simp only [Act.put, List.setIfInBounds_toArray, List.set_cons_zero, List.set_cons_succ]
        refine wpAnyH_takeD (some 28) (i := 1) (v := ?_) rfl rfl (by kernel_rfl) (by kernel_rfl) (by kernel_rfl) (fun _ _ _ h => h) (.inl ⟨by kernel_rfl, ?_⟩) (by exact trivial) ?_
        rotate_left
        · intro w' hw'; go_simp; try with_reducible rfl
        try simp only [Act.put, List.setIfInBounds_toArray, List.set_cons_zero, List.set_cons_succ]
        refine wpAnyH_takeD (some 29) (i := 2) (v := ?_) rfl rfl (by kernel_rfl) (by kernel_rfl) (by kernel_rfl) (fun _ _ _ h => h) (.inl ⟨by kernel_rfl, ?_⟩) (by exact trivial) ?_
        rotate_left
        · intro w' hw'; go_simp; try with_reducible rfl
        try simp only [Act.put, List.setIfInBounds_toArray, List.set_cons_zero, List.set_cons_succ]
        refine wpAnyH_takeD (some 30) (i := 3) (v := ?_) rfl rfl (by kernel_rfl) (by kernel_rfl) (by kernel_rfl) (fun _ _ _ h => h) (.inl ⟨by kernel_rfl, ?_⟩) (by exact trivial) ?_
        rotate_left
        · intro w' hw'; go_simp; try with_reducible rfl
        try simp only [Act.put, List.setIfInBounds_toArray, List.set_cons_zero, List.set_cons_succ]
        refine wpAnyH_takeD (some 31) (i := 4) (v := ?_) rfl rfl (by kernel_rfl) (by kernel_rfl) (by kernel_rfl) (fun _ _ _ h => h) (.inl ⟨by kernel_rfl, ?_⟩) (by exact trivial) ?_
        rotate_left
        · intro w' hw'; go_simp; try with_reducible rfl
        try simp only [Act.put, List.setIfInBounds_toArray, List.set_cons_zero, List.set_cons_succ]
        refine wpAnyH_takeD (some 32) (i := 5) (v := undef) rfl rfl (by kernel_rfl) (by kernel_rfl) (by kernel_rfl) (fun _ _ _ h => h) (.inr ⟨by kernel_rfl, rfl⟩) (by exact trivial) ?_
        try simp only [Act.put, List.setIfInBounds_toArray, List.set_cons_zero, List.set_cons_succ]
        refine wpAnyH_takeD (some 33) (i := 6) (v := undef) rfl rfl (by kernel_rfl) (by kernel_rfl) (by kernel_rfl) (fun _ _ _ h => h) (.inr ⟨by kernel_rfl, rfl⟩) (by exact trivial) ?_
        try simp only [Act.put, List.setIfInBounds_toArray, List.set_cons_zero, List.set_cons_succ]
        refine wpAnyH_takeD (some 34) (i := 7) (v := ?_) rfl rfl (by kernel_rfl) (by kernel_rfl) (by kernel_rfl) (fun _ _ _ h => h) (.inl ⟨by kernel_rfl, ?_⟩) (by exact trivial) ?_
        rotate_left
        · intro w' hw'; go_simp; try with_reducible rfl
        try simp only [Act.put, List.setIfInBounds_toArray, List.set_cons_zero, List.set_cons_succ]
        refine wpAnyH_takeD (some 35) (i := 8) (v := ?_) rfl rfl (by kernel_rfl) (by kernel_rfl) (by kernel_rfl) (fun _ _ _ h => h) (.inl ⟨by kernel_rfl, ?_⟩) (by exact trivial) ?_
        rotate_left
        · intro w' hw'; go_simp; try with_reducible rfl
        try simp only [Act.put, List.setIfInBounds_toArray, List.set_cons_zero, List.set_cons_succ]
        refine wpAnyH_takeD (some 36) (i := 9) (v := undef) rfl rfl (by kernel_rfl) (by kernel_rfl) (by kernel_rfl) (fun _ _ _ h => h) (.inr ⟨by kernel_rfl, rfl⟩) (by exact trivial) ?_
        try simp only [Act.put, List.setIfInBounds_toArray, List.set_cons_zero, List.set_cons_succ]
        refine wpAnyH_takeD (some 37) (i := 10) (v := undef) rfl rfl (by kernel_rfl) (by kernel_rfl) (by kernel_rfl) (fun _ _ _ h => h) (.inr ⟨by kernel_rfl, rfl⟩) (by exact trivial) ?_
        try simp only [Act.put, List.setIfInBounds_toArray, List.set_cons_zero, List.set_cons_succ]
        refine wpAnyH_takeD (some 38) (i := 11) (v := ?_) rfl rfl (by kernel_rfl) (by kernel_rfl) (by kernel_rfl) (fun _ _ _ h => h) (.inl ⟨by kernel_rfl, ?_⟩) (by exact trivial) ?_
        rotate_left
        · intro w' hw'; go_simp; try with_reducible rfl
        try simp only [Act.put, List.setIfInBounds_toArray, List.set_cons_zero, List.set_cons_succ]
        refine wpAnyH_all (rs := [12]) (by kernel_rfl) (by simp) ?_
        intro i hi; simp only [List.mem_singleton] at hi; subst hi
        refine wpOp_step rfl (fun K hK => ?_)
        go_simp
        refine hK _ _ ⟨trivial, ?_⟩
        try simp only [Act.put, List.setIfInBounds_toArray, List.set_cons_zero, List.set_cons_succ]
        clear hK K
        refine wpAnyH_takeD (some 3) (i := 13) (v := ?_) rfl rfl (by kernel_rfl) (by kernel_rfl) (by kernel_rfl) (fun _ _ _ h => h) (.inl ⟨by kernel_rfl, ?_⟩) (by exact trivial) ?_
        rotate_left
        · intro w' hw'; go_simp; try with_reducible rfl
        try simp only [Act.put, List.setIfInBounds_toArray, List.set_cons_zero, List.set_cons_succ]
        refine wpAnyH_done (by kernel_rfl) ?_ _
        go_wp2_with fail
        refine bodyPost_ret (v := .tuple #[.agg #[.int .i64 x1, .int .i64 v2], .bool false]) (by simp [results, Tryd.results13, go_sem, d0, d1]) rfl ⟨x1, v2, by rw [HRP.out]; rfl, ?_, b5⟩
        intro a b hab
        rw [HRP.out] at hab
        simp at hab
    | none =>
      rw [e2] at HRP
      have H2 := hid (fun W (h : LV W tS pS tR pR m) => p64_no ⟨c2.toArray⟩ s2 e2 W h)
      obtain ⟨C1, hC1⟩ : ∃ C, (⟨c1.toArray⟩ : ByteArray) = C := ⟨_, rfl⟩
      obtain ⟨C2, hC2⟩ : ∃ C, (⟨c2.toArray⟩ : ByteArray) = C := ⟨_, rfl⟩
      rw [hC1, hC2] at HCUT
      rw [hC1] at H1
      rw [hC2] at H2
      clear hC1 hC2 s1 s2 e1 e2
      cases ok with
      | true =>
        go_enter Tryd.func13, Tryd.ntmps13
        go_wp2_with fail
        with_reducible refine (HCUT.out _ (HLV.out _ HBV.out)).mono ?_
        rintro e w1 ⟨rfl, d, rfl⟩
        have b1 := below_drewN HBV.out d
        have r1 := HRV.out.below (below_drewN (Below.refl _ _) d) HRV.out.lt
        obtain ⟨W1, hW1⟩ : ∃ X, X = (w.alloc (.cells #[.int .i64 0, .int .i64 0] 33)).drewN d := ⟨_, rfl⟩
        rw [← hW1] at b1 r1 ⊢
        clear hW1
        have B1 := hid b1; have R1 := hid r1
        clear b1 r1
        go_wp2_with fail
        with_reducible refine (H1.out _ (HLV.out _ B1.out)).mono ?_
        rintro e w2 ⟨x1, T1, q1, rfl, hB, -⟩
        have B2 := hid (B1.out.trans (hB.mono B1.out.size))
        have R2 := hid (R1.out.below hB R1.out.lt)
        clear hB
        go_wp2_with fail
        with_reducible refine (H2.out _ (HLV.out _ B2.out)).mono ?_
        rintro e w3 ⟨x2, T2, q2, rfl, hB, -⟩
        have B3 := hid (B2.out.trans (hB.mono B2.out.size))
        have R3 := hid (R2.out.below hB R2.out.lt)
        clear hB
        go_wp2_with fail
        refine wp_region_held (S := fun _ => True) (by kernel_rfl) ?_
        change wpAnyH _ _ _ _ _ _ _ _ (World.drew _)
        obtain ⟨V, hV⟩ : ∃ X, X = World.drew w3 := ⟨_, rfl⟩
        rw [← hV]
        have b4 : Below w.heap.size w V := by rw [hV]; exact B3.out.drew
        have r4 : Row V w.heap.size 33 [.int .i64 0, .int .i64 0] := by rw [hV]; exact R3.out.below ((Below.refl _ w3).drew) R3.out.lt
        clear hV
        have c0 := r4.cell 0; have c1 := r4.cell 1; have f0 := r4.frozen 0; have f1 := r4.frozen 1
        simp only [List.getElem?_cons_zero, List.getElem?_cons_succ] at c0 c1
        have b5 := (b4.setCell (p := ⟨w.heap.size, 0, none⟩) (Nat.le_refl _) (.int .i64 x1)).setCell (p := ⟨w.heap.size, 1, none⟩) (Nat.le_refl _) (.int .i64 x2)
        have r5 := (r4.set 0 (.int .i64 x1)).set 1 (.int .i64 x2)
        have d0 := r5.cell 0; have d1 := r5.cell 1
        simp only [List.set_cons_zero, List.set_cons_succ, List.getElem?_cons_zero, List.getElem?_cons_succ] at d0 d1
        clear b4 r4 r5
        have hs : (fun _ : World => True) V := trivial
        refine wpAnyH_takeD (some 27) (i := 0) (v := ?_) rfl rfl (by kernel_rfl) (by kernel_rfl) (by kernel_rfl) (fun _ _ _ h => h) (.inl ⟨by kernel_rfl, ?_⟩) (by exact trivial) ?_
        rotate_left
        · intro w' hw'; go_simp; try with_reducible rfl
        try simp only [Act.put, List.setIfInBounds_toArray, List.set_cons_zero, List.set_cons_succ]
        refine wpAnyH_takeD (some 28) (i := 1) (v := ?_) rfl rfl (by kernel_rfl) (by kernel_rfl) (by kernel_rfl) (fun _ _ _ h => h) (.inl ⟨by kernel_rfl, ?_⟩) (by exact trivial) ?_
        rotate_left
        · intro w' hw'; go_simp; try with_reducible rfl
        try simp only [Act.put, List.setIfInBounds_toArray, List.set_cons_zero, List.set_cons_succ]
        refine wpAnyH_takeD (some 29) (i := 2) (v := ?_) rfl rfl (by kernel_rfl) (by kernel_rfl) (by kernel_rfl) (fun _ _ _ h => h) (.inl ⟨by kernel_rfl, ?_⟩) (by exact trivial) ?_
        rotate_left
        · intro w' hw'; go_simp; try with_reducible rfl
        try simp only [Act.put, List.setIfInBounds_toArray, List.set_cons_zero, List.set_cons_succ]
        refine wpAnyH_takeD (some 30) (i := 3) (v := ?_) rfl rfl (by kernel_rfl) (by kernel_rfl) (by kernel_rfl) (fun _ _ _ h => h) (.inl ⟨by kernel_rfl, ?_⟩) (by exact trivial) ?_
        rotate_left
        · intro w' hw'; go_simp; try with_reducible rfl
        try simp only [Act.put, List.setIfInBounds_toArray, List.set_cons_zero, List.set_cons_succ]
        refine wpAnyH_takeD (some 31) (i := 4) (v := ?_) rfl rfl (by kernel_rfl) (by kernel_rfl) (by kernel_rfl) (fun _ _ _ h => h) (.inl ⟨by kernel_rfl, ?_⟩) (by exact trivial) ?_
        rotate_left
        · intro w' hw'; go_simp; try with_reducible rfl
        try simp only [Act.put, List.setIfInBounds_toArray, List.set_cons_zero, List.set_cons_succ]
        refine wpAnyH_takeD (some 32) (i := 5) (v := ?_) rfl rfl (by kernel_rfl) (by kernel_rfl) (by kernel_rfl) (fun _ _ _ h => h) (.inl ⟨by kernel_rfl, ?_⟩) (by exact trivial) ?_
        rotate_left
        · intro w' hw'; go_simp; try with_reducible rfl
        try simp only [Act.put, List.setIfInBounds_toArray, List.set_cons_zero, List.set_cons_succ]
        refine wpAnyH_takeD (some 33) (i := 6) (v := ?_) rfl rfl (by kernel_rfl) (by kernel_rfl) (by kernel_rfl) (fun _ _ _ h => h) (.inl ⟨by kernel_rfl, ?_⟩) (by exact trivial) ?_
        rotate_left
        · intro w' hw'; go_simp; try with_reducible rfl
        try simp only [Act.put, List.setIfInBounds_toArray, List.set_cons_zero, List.set_cons_succ]
        refine wpAnyH_takeD (some 34) (i := 7) (v := ?_) rfl rfl (by kernel_rfl) (by kernel_rfl) (by kernel_rfl) (fun _ _ _ h => h) (.inl ⟨by kernel_rfl, ?_⟩) (by exact trivial) ?_
        rotate_left
        · intro w' hw'; go_simp; try with_reducible rfl
        try simp only [Act.put, List.setIfInBounds_toArray, List.set_cons_zero, List.set_cons_succ]
        refine wpAnyH_takeD (some 35) (i := 8) (v := ?_) rfl rfl (by kernel_rfl) (by kernel_rfl) (by kernel_rfl) (fun _ _ _ h => h) (.inl ⟨by kernel_rfl, ?_⟩) (by exact trivial) ?_
        rotate_left
        · intro w' hw'; go_simp; try with_reducible rfl
        try simp only [Act.put, List.setIfInBounds_toArray, List.set_cons_zero, List.set_cons_succ]
        refine wpAnyH_takeD (some 36) (i := 9) (v := undef) rfl rfl (by kernel_rfl) (by kernel_rfl) (by kernel_rfl) (fun _ _ _ h => h) (.inr ⟨by kernel_rfl, rfl⟩) (by exact trivial) ?_
        try simp only [Act.put, List.setIfInBounds_toArray, List.set_cons_zero, List.set_cons_succ]
        refine wpAnyH_takeD (some 37) (i := 10) (v := undef) rfl rfl (by kernel_rfl) (by kernel_rfl) (by kernel_rfl) (fun _ _ _ h => h) (.inr ⟨by kernel_rfl, rfl⟩) (by exact trivial) ?_
        try simp only [Act.put, List.setIfInBounds_toArray, List.set_cons_zero, List.set_cons_succ]
        refine wpAnyH_takeD (some 38) (i := 11) (v := ?_) rfl rfl (by kernel_rfl) (by kernel_rfl) (by kernel_rfl) (fun _ _ _ h => h) (.inl ⟨by kernel_rfl, ?_⟩) (by exact trivial) ?_
        rotate_left
        · intro w' hw'; go_simp; try with_reducible rfl
        try simp only [Act.put, List.setIfInBounds_toArray, List.set_cons_zero, List.set_cons_succ]
        refine wpAnyH_all (rs := [12]) (by kernel_rfl) (by simp) ?_
        intro i hi; simp only [List.mem_singleton] at hi; subst hi
        refine wpOp_step rfl (fun K hK => ?_)
        go_simp
        refine hK _ _ ⟨trivial, ?_⟩
        try simp only [Act.put, List.setIfInBounds_toArray, List.set_cons_zero, List.set_cons_succ]
        clear hK K
        refine wpAnyH_takeD (some 3) (i := 13) (v := ?_) rfl rfl (by kernel_rfl) (by kernel_rfl) (by kernel_rfl) (fun _ _ _ h => h) (.inl ⟨by kernel_rfl, ?_⟩) (by exact trivial) ?_
        rotate_left
        · intro w' hw'; go_simp; try with_reducible rfl
        try simp only [Act.put, List.setIfInBounds_toArray, List.set_cons_zero, List.set_cons_succ]
        refine wpAnyH_done (by kernel_rfl) ?_ _
        go_wp2_with fail
        refine bodyPost_ret (v := .tuple #[.agg #[.int .i64 x1, .int .i64 x2], .bool false]) (by simp [results, Tryd.results13, go_sem, d0, d1]) rfl ⟨x1, x2, by rw [HRP.out]; rfl, ?_, b5⟩
        intro a b hab
        rw [HRP.out] at hab
        simp at hab
      | false =>
        go_enter Tryd.func13, Tryd.ntmps13
        go_wp2_with fail
        with_reducible refine (HCUT.out _ (HLV.out _ HBV.out)).mono ?_
        rintro e w1 ⟨rfl, d, rfl⟩
        have b1 := below_drewN HBV.out d
        have r1 := HRV.out.below (below_drewN (Below.refl _ _) d) HRV.out.lt
        obtain ⟨W1, hW1⟩ : ∃ X, X = (w.alloc (.cells #[.int .i64 0, .int .i64 0] 33)).drewN d := ⟨_, rfl⟩
        rw [← hW1] at b1 r1 ⊢
        clear hW1
        have B1 := hid b1; have R1 := hid r1
        clear b1 r1
        go_wp2_with fail
        with_reducible refine (H1.out _ (HLV.out _ B1.out)).mono ?_
        rintro e w2 ⟨x1, T1, q1, rfl, hB, -⟩
        have B2 := hid (B1.out.trans (hB.mono B1.out.size))
        have R2 := hid (R1.out.below hB R1.out.lt)
        clear hB
        go_wp2_with fail
        with_reducible refine (H2.out _ (HLV.out _ B2.out)).mono ?_
        rintro e w3 ⟨x2, T2, q2, rfl, hB, -⟩
        have B3 := hid (B2.out.trans (hB.mono B2.out.size))
        have R3 := hid (R2.out.below hB R2.out.lt)
        clear hB
        go_wp2_with fail
        refine wp_region_held (S := fun _ => True) (by kernel_rfl) ?_
        change wpAnyH _ _ _ _ _ _ _ _ (World.drew _)
        obtain ⟨V, hV⟩ : ∃ X, X = World.drew w3 := ⟨_, rfl⟩
        rw [← hV]
        have b4 : Below w.heap.size w V := by rw [hV]; exact B3.out.drew
        have r4 : Row V w.heap.size 33 [.int .i64 0, .int .i64 0] := by rw [hV]; exact R3.out.below ((Below.refl _ w3).drew) R3.out.lt
        clear hV
        have c0 := r4.cell 0; have c1 := r4.cell 1; have f0 := r4.frozen 0; have f1 := r4.frozen 1
        simp only [List.getElem?_cons_zero, List.getElem?_cons_succ] at c0 c1
        have b5 := (b4.setCell (p := ⟨w.heap.size, 0, none⟩) (Nat.le_refl _) (.int .i64 x1)).setCell (p := ⟨w.heap.size, 1, none⟩) (Nat.le_refl _) (.int .i64 x2)
        have r5 := (r4.set 0 (.int .i64 x1)).set 1 (.int .i64 x2)
        have d0 := r5.cell 0; have d1 := r5.cell 1
        simp only [List.set_cons_zero, List.set_cons_succ, List.getElem?_cons_zero, List.getElem?_cons_succ] at d0 d1
        clear b4 r4 r5
        have hs : (fun _ : World => True) V := trivial
        refine wpAnyH_takeD (some 27) (i := 0) (v := ?_) rfl rfl (by kernel_rfl) (by kernel_rfl) (by kernel_rfl) (fun _ _ _ h => h) (.inl ⟨by kernel_rfl, ?_⟩) (by exact trivial) ?_
        rotate_left
        · intro w' hw'; go_simp; try with_reducible rfl
        try simp only [Act.put, List.setIfInBounds_toArray, List.set_cons_zero, List.set_cons_succ]
        refine wpAnyH_takeD (some 28) (i := 1) (v := ?_) rfl rfl (by kernel_rfl) (by kernel_rfl) (by kernel_rfl) (fun _ _ _ h => h) (.inl ⟨by kernel_rfl, ?_⟩) (by exact trivial) ?_
        rotate_left
        · intro w' hw'; go_simp; try with_reducible rfl
        try simp only [Act.put, List.setIfInBounds_toArray, List.set_cons_zero, List.set_cons_succ]
        refine wpAnyH_takeD (some 29) (i := 2) (v := ?_) rfl rfl (by kernel_rfl) (by kernel_rfl) (by kernel_rfl) (fun _ _ _ h => h) (.inl ⟨by kernel_rfl, ?_⟩) (by exact trivial) ?_
        rotate_left
        · intro w' hw'; go_simp; try with_reducible rfl
        try simp only [Act.put, List.setIfInBounds_toArray, List.set_cons_zero, List.set_cons_succ]
        refine wpAnyH_takeD (some 30) (i := 3) (v := ?_) rfl rfl (by kernel_rfl) (by kernel_rfl) (by kernel_rfl) (fun _ _ _ h => h) (.inl ⟨by kernel_rfl, ?_⟩) (by exact trivial) ?_
        rotate_left
        · intro w' hw'; go_simp; try with_reducible rfl
        try simp only [Act.put, List.setIfInBounds_toArray, List.set_cons_zero, List.set_cons_succ]
        refine wpAnyH_takeD (some 31) (i := 4) (v := ?_) rfl rfl (by kernel_rfl) (by kernel_rfl) (by kernel_rfl) (fun _ _ _ h => h) (.inl ⟨by kernel_rfl, ?_⟩) (by exact trivial) ?_
        rotate_left
        · intro w' hw'; go_simp; try with_reducible rfl
        try simp only [Act.put, List.setIfInBounds_toArray, List.set_cons_zero, List.set_cons_succ]
        refine wpAnyH_takeD (some 32) (i := 5) (v := undef) rfl rfl (by kernel_rfl) (by kernel_rfl) (by kernel_rfl) (fun _ _ _ h => h) (.inr ⟨by kernel_rfl, rfl⟩) (by exact trivial) ?_
        try simp only [Act.put, List.setIfInBounds_toArray, List.set_cons_zero, List.set_cons_succ]
        refine wpAnyH_takeD (some 33) (i := 6) (v := undef) rfl rfl (by kernel_rfl) (by kernel_rfl) (by kernel_rfl) (fun _ _ _ h => h) (.inr ⟨by kernel_rfl, rfl⟩) (by exact trivial) ?_
        try simp only [Act.put, List.setIfInBounds_toArray, List.set_cons_zero, List.set_cons_succ]
        refine wpAnyH_takeD (some 34) (i := 7) (v := ?_) rfl rfl (by kernel_rfl) (by kernel_rfl) (by kernel_rfl) (fun _ _ _ h => h) (.inl ⟨by kernel_rfl, ?_⟩) (by exact trivial) ?_
        rotate_left
        · intro w' hw'; go_simp; try with_reducible rfl
        try simp only [Act.put, List.setIfInBounds_toArray, List.set_cons_zero, List.set_cons_succ]
        refine wpAnyH_takeD (some 35) (i := 8) (v := ?_) rfl rfl (by kernel_rfl) (by kernel_rfl) (by kernel_rfl) (fun _ _ _ h => h) (.inl ⟨by kernel_rfl, ?_⟩) (by exact trivial) ?_
        rotate_left
        · intro w' hw'; go_simp; try with_reducible rfl
        try simp only [Act.put, List.setIfInBounds_toArray, List.set_cons_zero, List.set_cons_succ]
        refine wpAnyH_takeD (some 36) (i := 9) (v := undef) rfl rfl (by kernel_rfl) (by kernel_rfl) (by kernel_rfl) (fun _ _ _ h => h) (.inr ⟨by kernel_rfl, rfl⟩) (by exact trivial) ?_
        try simp only [Act.put, List.setIfInBounds_toArray, List.set_cons_zero, List.set_cons_succ]
        refine wpAnyH_takeD (some 37) (i := 10) (v := undef) rfl rfl (by kernel_rfl) (by kernel_rfl) (by kernel_rfl) (fun _ _ _ h => h) (.inr ⟨by kernel_rfl, rfl⟩) (by exact trivial) ?_
        try simp only [Act.put, List.setIfInBounds_toArray, List.set_cons_zero, List.set_cons_succ]
        refine wpAnyH_takeD (some 38) (i := 11) (v := ?_) rfl rfl (by kernel_rfl) (by kernel_rfl) (by kernel_rfl) (fun _ _ _ h => h) (.inl ⟨by kernel_rfl, ?_⟩) (by exact trivial) ?_
        rotate_left
        · intro w' hw'; go_simp; try with_reducible rfl
        try simp only [Act.put, List.setIfInBounds_toArray, List.set_cons_zero, List.set_cons_succ]
        refine wpAnyH_all (rs := [12]) (by kernel_rfl) (by simp) ?_
        intro i hi; simp only [List.mem_singleton] at hi; subst hi
        refine wpOp_step rfl (fun K hK => ?_)
        go_simp
        refine hK _ _ ⟨trivial, ?_⟩
        try simp only [Act.put, List.setIfInBounds_toArray, List.set_cons_zero, List.set_cons_succ]
        clear hK K
        refine wpAnyH_takeD (some 3) (i := 13) (v := ?_) rfl rfl (by kernel_rfl) (by kernel_rfl) (by kernel_rfl) (fun _ _ _ h => h) (.inl ⟨by kernel_rfl, ?_⟩) (by exact trivial) ?_
        rotate_left
        · intro w' hw'; go_simp; try with_reducible rfl
        try simp only [Act.put, List.setIfInBounds_toArray, List.set_cons_zero, List.set_cons_succ]
        refine wpAnyH_done (by kernel_rfl) ?_ _
        go_wp2_with fail
        refine bodyPost_ret (v := .tuple #[.agg #[.int .i64 x1, .int .i64 x2], .bool false]) (by simp [results, Tryd.results13, go_sem, d0, d1]) rfl ⟨x1, x2, by rw [HRP.out]; rfl, ?_, b5⟩
        intro a b hab
        rw [HRP.out] at hab
        simp at hab
def wLs (t : ByteArray) : List ByteArray := (wLn 61 t).dropLast
def RlQ (qs : List ByteArray) (w : World) (e : Ending) (w' : World) : Prop := ∃ v ok, e = .returned (.tuple #[v, .bool ok]) ∧ Below w.heap.size w w' ∧ ((ok = true ∧ ∃ xs : List (Int × Int), qs.map twoR = xs.map some ∧ w'.ownsRow w.heap.size 33 2 v xs.length (tvals xs)) ∨ (ok = false ∧ ∃ p ∈ qs, twoR p = none))
set_option maxRecDepth 100000 in
set_option maxHeartbeats 4000000 in
theorem implReadLines_any (t : ByteArray) (ht : t.size ≤ 1048576) (w : World) {tS tR : TypeId} {pS pR : Value} {m : Int} (hL : LV w tS pS tR pR m) : Calls Tryd.prog 12 #[.string t, .int .i64 60, .func (.func 13) #[] #[]] w (RlQ (wLs t) w) := by
  obtain ⟨i0, hi0, iz0, iz1, iz2⟩ := info_parts Tryd.infoTotal
  have HSP := hid (show Calls Tryd.prog 18 #[.string t, .string ⟨#[10]⟩, .int .i64 61] w fun e w' => e = .returned (.slice (some ⟨w.heap.size, 0, none⟩) (wLn 61 t).length (min 61 (t.size + 1))) ∧ w' = w.alloc (.cells (Lib.cellsOf (wLn 61 t) (min 61 (t.size + 1))) 9) from Tryd.strings_SplitN t ⟨#[10]⟩ 61 m w (by omega) hL.2.2.1 (by decide) (by omega) (by omega))
  have HSZ := hid (fun p (h : p ∈ wLs t) => Nat.le_trans (split_sizeL _ _ _ _ p (List.dropLast_subset _ h)) ht)
  obtain ⟨h5, h1⟩ := wLn_len 61 t (by omega)
  have h6 : (wLn 61 t).length ≤ min 61 (t.size + 1) := by have := Lib.splitB_length_le ⟨#[10]⟩ 0 (min 61 (t.size + 1) - 1) t; unfold wLn; omega
  have hdl : ∀ k p, (wLs t)[k]? = some p → (wLn 61 t)[k]? = some p := fun k p h => by
    unfold wLs at h
    rw [List.getElem?_dropLast] at h
    split at h
    · exact h
    · cases h
  have hlen : (wLs t).length = (wLn 61 t).length - 1 := by unfold wLs; simp
  have HLV := hid (fun W (h : Below w.heap.size w W) => hL.below h (Nat.le_refl _))
  obtain ⟨qs, hqs⟩ : ∃ qs, wLs t = qs := ⟨_, rfl⟩
  obtain ⟨ps, hps⟩ : ∃ ps, wLn 61 t = ps := ⟨_, rfl⟩
  obtain ⟨cp, hcp⟩ : ∃ cp, min 61 (t.size + 1) = cp := ⟨_, rfl⟩
  rw [hps] at HSP h5 h1 h6 hdl hlen
  rw [hcp] at HSP h6
  rw [hqs] at HSZ hdl hlen ⊢
  obtain ⟨q, hq⟩ : ∃ q, ps.length = q := ⟨_, rfl⟩
  obtain ⟨n, hn⟩ : ∃ n, qs.length = n := ⟨_, rfl⟩
  have hrow := Row.new w 9 (ps.map Value.string ++ List.replicate (cp - ps.length) (Value.string ByteArray.empty))
  have hW : (w.alloc (.cells (ps.map Value.string ++ List.replicate (cp - ps.length) (Value.string ByteArray.empty)).toArray 9)) = w.alloc (.cells (Lib.cellsOf ps cp) 9) := rfl
  rw [hW] at hrow
  have hcl : ∀ k p, qs[k]? = some p → (w.alloc (.cells (Lib.cellsOf ps cp) 9)).cell? ⟨w.heap.size, k, none⟩ = some (.string p) := fun k p h0 => by
    have h := hdl k p h0
    have hk : k < ps.length := by
      by_cases c : k < ps.length
      · exact c
      · rw [List.getElem?_eq_none (by omega)] at h; cases h
    rw [hrow.cell k, List.getElem?_append_left (by simpa using hk), List.getElem?_map, h]
    rfl
  have hlt := hrow.lt
  have hB : Below w.heap.size w (w.alloc (.cells (Lib.cellsOf ps cp) 9)) := (Below.refl _ _).alloc (Nat.le_refl _) _
  rw [hq] at HSP h5 h1 h6 hlen
  rw [hn] at hlen
  have HM := hid hn; have HQ := hid (show q = n + 1 by omega)
  have a1 : IntKind.i64.wrap ((q : Int) - 1) = (n : Int) := by rw [IntWalk.i64_in _ (by omega)]; omega
  have a2 : (0 : Int) ≤ (n : Int) := by omega
  have a3 : (n : Int) ≤ (cp : Int) := by omega
  have a4 : (q : Int) - 1 = (n : Int) := by omega
  have hn60 : n ≤ 60 := by omega
  have hncp : n ≤ cp := by omega
  clear hn hps hcp hqs hW hrow hL ht hdl hlen h6 hq
  go_enter Tryd.func12, Tryd.ntmps12
  go_wp2_with fail
  with_reducible refine HSP.out.mono ?_
  rintro e w1 ⟨rfl, rfl⟩
  obtain ⟨W1, hW1⟩ : ∃ X, X = w.alloc (.cells (Lib.cellsOf ps cp) 9) := ⟨_, rfl⟩
  rw [← hW1] at hcl hlt hB ⊢
  have HCL := hid hcl; have HLT := hid hlt; have HB := hid hB; have HZ := hid hB.size
  clear hW1 hcl hlt hB HSP
  go_wp2_with fail
  go_loopw [8, 24] (fun s8 i wr => ∃ (k : Nat) (v : Value) (xs : List (Int × Int)), k ≤ n ∧ i = .int .i64 k ∧ v = s8 ∧ (qs.take k).map twoR = xs.map some ∧ xs.length = k ∧ wr.ownsRow W1.heap.size 33 2 v k (tvals xs) ∧ Below W1.heap.size W1 wr) (fun _ i _ => n - (intOf i).toNat)
  case atStart => exact ⟨0, _, [], Nat.zero_le _, rfl, rfl, rfl, rfl, ⟨rfl, .inl ⟨rfl, rfl⟩⟩, Below.refl _ _⟩
  case round =>
    obtain ⟨k, v, xs, hk, rfl, rfl, hA, hxl, hO, hB⟩ := hrel
    by_cases hkn : k < n
    · have k1 : (k : Int) < (n : Int) := by omega
      have k0 : (0 : Int) ≤ (k : Int) := by omega
      have w1' : IntKind.i64.wrap ((k : Int) + 1) = (k : Int) + 1 := IntWalk.i64_in _ (by omega)
      have hkl : k < qs.length := by rw [HM.out]; exact hkn
      have hpk : qs[k]? = some qs[k] := List.getElem?_eq_getElem hkl
      obtain ⟨p, hp⟩ : ∃ p, qs[k] = p := ⟨_, rfl⟩
      rw [hp] at hpk
      have hmem : p ∈ qs := List.mem_of_getElem? hpk
      have hcell : wr.cell? ⟨w.heap.size, k, none⟩ = some (.string p) := (hB.cell (p := ⟨w.heap.size, k, none⟩) HLT.out).trans (HCL.out k _ hpk)
      have HBR := hid (HB.out.trans (hB.mono HZ.out))
      have HRP := hid (implReadTotal_any p (HSZ.out p hmem) wr (HLV.out wr HBR.out))
      have HPK := hid hpk; have HO := hid hO; have HB3 := hid hB; have HA := hid hA; have HXL := hid hxl; have HMEM := hid hmem
      have hz1 := hB.size
      clear hA hO hB hpk hp hkl hxl hmem
      cases hr : twoR p with
      | none =>
        unfold RpG at HRP
        rw [hr] at HRP
        have HR := hid hr
        clear hr
        go_wp2_with fail
        with_reducible refine HRP.out.mono ?_
        rintro e w2 ⟨x, y, rfl, hxy, hB2⟩
        have HB4 := hid (HBR.out.trans (hB2.mono HBR.out.size))
        have HB5 := hid (HB4.out.alloc HB4.out.size (.cells #[.int .i64 x, .int .i64 y] 33))
        clear hxy hB2
        simp only [Option.isSome_none]
        go_wp2_with fail
        exact bodyPost_ret (v := .tuple #[.slice none 0 0, .bool false]) (by simp [results, Tryd.results12, go_sem]) rfl ⟨_, _, rfl, HB5.out, .inr ⟨rfl, p, HMEM.out, HR.out⟩⟩
      | some ab =>
        obtain ⟨a, b⟩ := ab
        have HSN := hid (show (qs.take (k + 1)).map twoR = (xs ++ [(a, b)]).map some from by rw [take_nextL HPK.out, List.map_append, HA.out, List.map_append]; simp [hr])
        unfold RpG at HRP
        rw [hr] at HRP
        clear hr
        go_wp2_with fail
        with_reducible refine HRP.out.mono ?_
        rintro e w2 ⟨x, y, rfl, hxy, hB2⟩
        obtain ⟨rfl, rfl⟩ := hxy a b rfl
        have HB5 := hid (HB3.out.trans (hB2.mono hz1))
        have HO4 := hid (((owns_belowL HO.out hB2).alloc (.cells #[.int .i64 x, .int .i64 y] 33)).alloc (.cells #[.int .i64 x, .int .i64 y] 33))
        have news := Row.new (w2.alloc (.cells #[.int .i64 x, .int .i64 y] 33)) 33 [.int .i64 x, .int .i64 y]
        have nc := hid (show ∀ j u, ([.int .i64 x, .int .i64 y] : List Value)[j]? = some u → ((w2.alloc (.cells #[.int .i64 x, .int .i64 y] 33)).alloc (.cells #[.int .i64 x, .int .i64 y] 33)).cell? ((⟨w2.heap.size + 1, 0, none⟩ : Addr).add j) = some u from fun j u hj => by
          rw [show (⟨w2.heap.size + 1, 0, none⟩ : Addr).add j = ⟨w2.heap.size + 1, j, none⟩ from by unfold Addr.add; split <;> simp_all]
          have := (news.cell j).trans hj
          simpa only [World.size_alloc] using this)
        have HONE := hid (show ∀ u ∈ ([.int .i64 x, .int .i64 y] : List Value), u.oneCell' = true from by intro u hu; simp at hu; rcases hu with rfl | rfl <;> rfl)
        have HB7 := hid (show Below W1.heap.size W1 ((w2.alloc (.cells #[.int .i64 x, .int .i64 y] 33)).alloc (.cells #[.int .i64 x, .int .i64 y] 33)) from (HB5.out.alloc HB5.out.size _).alloc (by have := HB5.out.size; simp; omega) _)
        have HBW := hid (show W1.heap.size ≤ ((w2.alloc (.cells #[.int .i64 x, .int .i64 y] 33)).alloc (.cells #[.int .i64 x, .int .i64 y] 33)).heap.size by simp; have := HB5.out.size; omega)
        simp only [Option.isSome_some]
        clear news hxy hB2
        go_wp2_with (at_builtin; refine wpList_append_own _ rfl _ _ 22 rfl W1.heap.size 33 i0 (.agg #[.int .i64 0, .int .i64 0]) 2 16 Tryd.underlying22 hi0 iz0 iz1 iz2 rfl (by decide) _ _ _ rfl HO4.out ⟨w2.heap.size + 1, 0, none⟩ 1 1 ([.int .i64 x, .int .i64 y] : List Value) rfl rfl nc.out HONE.out (by unfold maxLen; omega) (by omega) HBW.out ?_; rintro v' w7 hown' hgrow -; have OWN := hid hown'; have GRW := hid hgrow; clear hown' hgrow)
        have bel := HB7.out.grown GRW.out HBW.out (fun kk e => by have := (HO4.out.lt kk e).1; omega)
        have OW := OWN.out
        rw [show tvals xs ++ [.int .i64 x, .int .i64 y] = tvals (xs ++ [(x, y)]) from (tvals_snocR xs x y).symm] at OW
        have HOW := hid OW
        have HBE := hid bel
        clear bel OW
        go_wp2_with fail
        go_roundw
        case rel => exact ⟨k + 1, v', xs ++ [(x, y)], by omega, by go_num, rfl, HSN.out, by simp [HXL.out], HOW.out, HBE.out⟩
        case measure => simp [intOf]; omega
    · obtain rfl : k = n := by omega
      have kf : ¬ (k : Int) < (k : Int) := by omega
      rw [List.take_of_length_le (by rw [HM.out]; exact Nat.le_refl _)] at hA
      have HA := hid hA; have HO := hid hO; have HXL := hid hxl
      have HB2 := hid (HB.out.trans (hB.mono HZ.out))
      clear hA hO hB hxl
      go_wp2_with fail
      refine bodyPost_ret (v := .tuple #[v, .bool true]) (by simp [results, Tryd.results12, go_sem]) rfl ⟨v, true, rfl, HB2.out, .inl ⟨rfl, xs, HA.out, ?_⟩⟩
      rw [HXL.out]
      exact owns_baseL HO.out HZ.out
end Go.Proofs.YtdfbenjccjaejaaDoor
