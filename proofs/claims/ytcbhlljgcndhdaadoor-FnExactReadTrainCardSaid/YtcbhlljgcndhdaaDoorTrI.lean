/- impl.readPair. -/
import Derived.Test.YtcbhlljgcndhdaaDoorTrQ
import Derived.Test.YtcbhlljgcndhdaaDoorLw
import Derived.Lib.ParseIntBTie
namespace Go.Proofs.YtcbhlljgcndhdaaDoor
open Go.RowKit Go.Shelf
set_option linter.unusedSimpArgs false
set_option linter.unusedVariables false
theorem cut_len (s : List UInt8) (c : List UInt8) : (Lib.cut s c).1.length ≤ s.length ∧ (Lib.cut s c).2.1.length ≤ s.length := by
  unfold Lib.cut
  split
  · constructor
    · simp; omega
    · simp
  · simp
theorem parse16_some {l : List UInt8} {v : Int} (h : pi16 l = some v) : Lib.parseIntB 16 l = .ok v := by
  unfold pi16 at h
  cases hh : Lib.parseIntB 16 l with
  | ok u => rw [hh] at h; injection h with h; rw [h]
  | «syntax» => rw [hh] at h; cases h
  | range => rw [hh] at h; cases h
theorem pi16_bd {l : List UInt8} {v : Int} (h : pi16 l = some v) : -32768 ≤ v ∧ v ≤ 32767 := by
  have := Lib.parseIntB_bounds (parse16_some h)
  simp at this
  omega
theorem p16_yes (p : ByteArray) (hp : p.size ≤ 1048576) {v : Int} (hv : pi16 p.data.toList = some v) (w : World) :
    Calls Tryd.prog 20 #[.string p, .int .i64 10, .int .i64 16] w fun e w' => e = .returned (.tuple #[.int .i64 v, .nilIface]) ∧ Below w.heap.size w w' := by
  refine (Tryd.strconv_ParseInt_10_at16_ok p (by omega) v (parse16_some hv) w).mono ?_
  rintro e w' ⟨rfl, hw⟩
  refine ⟨rfl, ?_⟩
  rcases hw with rfl | ⟨t, rfl⟩
  · exact Below.refl _ _
  · exact Lib.bytesWorld_below _ _ _
theorem p16_no (p : ByteArray) (hp : p.size ≤ 1048576) (hv : pi16 p.data.toList = none) (w : World) {tS tR : TypeId} {pS pR : Value} {m : Int} (h : LV w tS pS tR pR m) :
    Calls Tryd.prog 20 #[.string p, .int .i64 10, .int .i64 16] w fun e w' => ∃ v T q, e = .returned (.tuple #[.int .i64 v, .iface T (.pointer (some q))]) ∧ Below w.heap.size w w' := by
  cases hh : Lib.parseIntB 16 p.data.toList with
  | ok u => unfold pi16 at hv; rw [hh] at hv; cases hv
  | «syntax» =>
    refine (Tryd.strconv_ParseInt_10_at16_syntax_var p (by omega) hh tS pS w h.1.1).mono ?_
    rintro e w' ⟨N, rfl, _, _, hB⟩
    exact ⟨_, _, _, rfl, hB⟩
  | range =>
    refine (Tryd.strconv_ParseInt_10_at16_range_var p (by omega) hh tR pR w h.2.1.1).mono ?_
    rintro e w' ⟨N, rfl, _, _, hB⟩
    exact ⟨_, _, _, rfl, hB⟩
set_option maxHeartbeats 1000000 in
theorem pairOfW_any (x y : Int) (w : World) : Calls Tryd.prog 21 #[.int .i64 x, .int .i64 y] w (GivesB w (.agg #[.int .i16 (IntKind.i16.wrap x), .int .i16 (IntKind.i16.wrap y)])) := by
  obtain ⟨X, hX⟩ : ∃ z, IntKind.i16.wrap x = z := ⟨_, rfl⟩
  obtain ⟨Y, hY⟩ : ∃ z, IntKind.i16.wrap y = z := ⟨_, rfl⟩
  rw [hX, hY]
  go_enter Tryd.func21, Tryd.ntmps21
  go_wp2_with fail
  exact bodyPost_ret (v := .agg #[.int .i16 X, .int .i16 Y]) (by simp [results, Tryd.results21, go_sem]) rfl ⟨rfl, (Below.refl _ _).alloc (Nat.le_refl _) _⟩
def RpG (p : ByteArray) (w : World) (e : Ending) (w' : World) : Prop := ∃ x y : Int, e = .returned (.tuple #[.agg #[.int .i16 x, .int .i16 y], .bool (rpF p).isSome]) ∧ (∀ a b, rpF p = some (a, b) → x = a ∧ y = b ∧ (-32768 ≤ a ∧ a ≤ 32767) ∧ (-32768 ≤ b ∧ b ≤ 32767)) ∧ Below w.heap.size w w'
set_option maxRecDepth 100000 in
set_option maxHeartbeats 4000000 in
theorem implReadPair_any (p : ByteArray) (hp : p.size ≤ 1048576) (w : World) {tS tR : TypeId} {pS pR : Value} {m : Int} (hLV : LV w tS pS tR pR m) : Calls Tryd.prog 14 #[.string p] w (RpG p w) := by
  have HLV := hid (fun W (h : Below w.heap.size w W) => hLV.below h (Nat.le_refl _))
  obtain ⟨n1, n2⟩ := cut_len p.data.toList [47]
  have hsz : p.data.toList.length = p.size := by rw [Array.length_toList]; rfl
  have HCUT := hid (fun W (h : LV W tS pS tR pR m) => show Calls Tryd.prog 19 #[.string p, .string ⟨#[47]⟩] W fun e w' => e = .returned (.tuple #[.string ⟨(Lib.cut p.data.toList [47]).1.toArray⟩, .string ⟨(Lib.cut p.data.toList [47]).2.1.toArray⟩, .bool (Lib.cut p.data.toList [47]).2.2]) ∧ ∃ n, w' = W.drewN n from Tryd.strings_Cut p ⟨#[47]⟩ m W (by omega) h.2.2.1)
  have HRP := hid (show rpF p = if (Lib.cut p.data.toList [47]).2.2 then (match pi16 (Lib.cut p.data.toList [47]).1, pi16 (Lib.cut p.data.toList [47]).2.1 with | some a, some b => some (a, b) | _, _ => none) else none from rfl)
  obtain ⟨⟨c1, c2, ok⟩, hc⟩ : ∃ c, Lib.cut p.data.toList [47] = c := ⟨_, rfl⟩
  rw [hc] at HCUT HRP n1 n2
  simp only at HCUT HRP n1 n2
  have HBV := hid (show Below w.heap.size w (w.alloc (.cells #[.int .i16 0, .int .i16 0] 36)) from (Below.refl _ _).alloc (Nat.le_refl _) _)
  have HRV := hid (Row.new w 36 [.int .i16 0, .int .i16 0])
  unfold RpG
  obtain ⟨R, hR⟩ : ∃ R, rpF p = R := ⟨_, rfl⟩
  rw [hR] at HRP ⊢
  have s1 : (⟨c1.toArray⟩ : ByteArray).size ≤ 1048576 := by show c1.toArray.size ≤ _; simp; omega
  have s2 : (⟨c2.toArray⟩ : ByteArray).size ≤ 1048576 := by show c2.toArray.size ≤ _; simp; omega
  clear hR hc hsz n1 n2 hLV hp
  cases e1 : pi16 c1 with
  | some v1 =>
    rw [e1] at HRP
    have H1 := hid (fun W => p16_yes ⟨c1.toArray⟩ s1 (v := v1) e1 W)
    cases e2 : pi16 c2 with
    | some v2 =>
      rw [e2] at HRP
      have H2 := hid (fun W => p16_yes ⟨c2.toArray⟩ s2 (v := v2) e2 W)
      obtain ⟨C1, hC1⟩ : ∃ C, (⟨c1.toArray⟩ : ByteArray) = C := ⟨_, rfl⟩
      obtain ⟨C2, hC2⟩ : ∃ C, (⟨c2.toArray⟩ : ByteArray) = C := ⟨_, rfl⟩
      rw [hC1, hC2] at HCUT
      rw [hC1] at H1
      rw [hC2] at H2
      have P1 := hid (pi16_bd e1)
      have P2 := hid (pi16_bd e2)
      clear hC1 hC2 s1 s2 e1 e2
      cases ok with
      | true =>
        go_enter Tryd.func14, Tryd.ntmps14
        go_wp2_with fail
        refine (HCUT.out _ (HLV.out _ HBV.out)).mono ?_
        rintro e w1 ⟨rfl, d, rfl⟩
        have b1 := below_drewN HBV.out d
        have r1 := HRV.out.below (below_drewN (Below.refl _ _) d) HRV.out.lt
        obtain ⟨W1, hW1⟩ : ∃ X, X = (w.alloc (.cells #[.int .i16 0, .int .i16 0] 36)).drewN d := ⟨_, rfl⟩
        rw [← hW1] at b1 r1 ⊢
        clear hW1
        have B1 := hid b1; have R1 := hid r1
        clear b1 r1
        go_wp2_with fail
        refine (H1.out _).mono ?_
        rintro e w2 ⟨rfl, hB⟩
        have B2 := hid (B1.out.trans (hB.mono B1.out.size))
        have R2 := hid (R1.out.below hB R1.out.lt)
        clear hB
        go_wp2_with fail
        refine (H2.out _).mono ?_
        rintro e w3 ⟨rfl, hB⟩
        have B3 := hid (B2.out.trans (hB.mono B2.out.size))
        have R3 := hid (R2.out.below hB R2.out.lt)
        clear hB
        go_wp2_with fail
        have HP := hid (fun W => pairOfW_any v1 v2 W)
        obtain ⟨X, hX⟩ : ∃ z, IntKind.i16.wrap v1 = z := ⟨_, rfl⟩
        obtain ⟨Y, hY⟩ : ∃ z, IntKind.i16.wrap v2 = z := ⟨_, rfl⟩
        rw [hX, hY] at HP
        have HX := hid hX; have HY := hid hY
        clear hX hY
        refine wp_region_held (S := fun _ => True) (by kernel_rfl) ?_
        change wpAnyH _ _ _ _ _ _ _ _ (World.drew _)
        have hs : (fun _ : World => True) (World.drew w3) := trivial
        refine wpAnyH_takeD (some 27) (i := 0) (v := ?_) rfl rfl (by kernel_rfl) (by kernel_rfl) (by kernel_rfl) (fun _ _ _ h => h) (.inl ⟨by kernel_rfl, ?_⟩) hs ?_
        rotate_left
        · intro w' hw'; go_simp; try with_reducible rfl
        try simp only [Act.put, List.setIfInBounds_toArray, List.set_cons_zero, List.set_cons_succ]
        refine wpAnyH_takeD (some 28) (i := 1) (v := ?_) rfl rfl (by kernel_rfl) (by kernel_rfl) (by kernel_rfl) (fun _ _ _ h => h) (.inl ⟨by kernel_rfl, ?_⟩) hs ?_
        rotate_left
        · intro w' hw'; go_simp; try with_reducible rfl
        try simp only [Act.put, List.setIfInBounds_toArray, List.set_cons_zero, List.set_cons_succ]
        refine wpAnyH_takeD (some 30) (i := 3) (v := ?_) rfl rfl (by kernel_rfl) (by kernel_rfl) (by kernel_rfl) (fun _ _ _ h => h) (.inl ⟨by kernel_rfl, ?_⟩) hs ?_
        rotate_left
        · intro w' hw'; go_simp; try with_reducible rfl
        try simp only [Act.put, List.setIfInBounds_toArray, List.set_cons_zero, List.set_cons_succ]
        refine wpAnyH_all (rs := [2]) (by kernel_rfl) (by simp) ?_
        intro i hi; simp only [List.mem_singleton] at hi; subst hi
        refine wpOp_step rfl (fun K hK => ?_)
        go_simp
        with_reducible refine (HP.out _).mono ?_
        rintro e w4 ⟨rfl, hB4⟩
        have r4 := R3.out.below ((Below.refl _ w3).drew.trans hB4) R3.out.lt
        have B4 := B3.out.trans (((Below.refl _ w3).drew.trans hB4).mono B3.out.size)
        have c0 := r4.cell 0; have c1 := r4.cell 1; have f0 := r4.frozen 0; have f1 := r4.frozen 1
        simp only [List.getElem?_cons_zero, List.getElem?_cons_succ] at c0 c1
        have b5 := (B4.setCell (p := ⟨w.heap.size, 0, none⟩) (Nat.le_refl _) (.int .i16 X)).setCell (p := ⟨w.heap.size, 1, none⟩) (Nat.le_refl _) (.int .i16 Y)
        have r5 := (r4.set 0 (.int .i16 X)).set 1 (.int .i16 Y)
        have d0 := r5.cell 0; have d1 := r5.cell 1
        simp only [List.set_cons_zero, List.set_cons_succ, List.getElem?_cons_zero, List.getElem?_cons_succ] at d0 d1
        clear B4 r4 r5 hB4
        refine hK _ _ ⟨trivial, ?_⟩
        try simp only [Act.put, List.setIfInBounds_toArray, List.set_cons_zero, List.set_cons_succ]
        clear hK K
        have hs : (fun _ : World => True) w4 := trivial
        refine wpAnyH_takeD (some 31) (i := 4) (v := ?_) rfl rfl (by kernel_rfl) (by kernel_rfl) (by kernel_rfl) (fun _ _ _ h => h) (.inl ⟨by kernel_rfl, ?_⟩) hs ?_
        rotate_left
        · intro w' hw'; go_simp; try with_reducible rfl
        try simp only [Act.put, List.setIfInBounds_toArray, List.set_cons_zero, List.set_cons_succ]
        refine wpAnyH_takeD (some 32) (i := 5) (v := ?_) rfl rfl (by kernel_rfl) (by kernel_rfl) (by kernel_rfl) (fun _ _ _ h => h) (.inl ⟨by kernel_rfl, ?_⟩) hs ?_
        rotate_left
        · intro w' hw'; go_simp; try with_reducible rfl
        try simp only [Act.put, List.setIfInBounds_toArray, List.set_cons_zero, List.set_cons_succ]
        refine wpAnyH_takeD (some 33) (i := 6) (v := ?_) rfl rfl (by kernel_rfl) (by kernel_rfl) (by kernel_rfl) (fun _ _ _ h => h) (.inl ⟨by kernel_rfl, ?_⟩) hs ?_
        rotate_left
        · intro w' hw'; go_simp; try with_reducible rfl
        try simp only [Act.put, List.setIfInBounds_toArray, List.set_cons_zero, List.set_cons_succ]
        refine wpAnyH_takeD (some 34) (i := 7) (v := ?_) rfl rfl (by kernel_rfl) (by kernel_rfl) (by kernel_rfl) (fun _ _ _ h => h) (.inl ⟨by kernel_rfl, ?_⟩) hs ?_
        rotate_left
        · intro w' hw'; go_simp; try with_reducible rfl
        try simp only [Act.put, List.setIfInBounds_toArray, List.set_cons_zero, List.set_cons_succ]
        refine wpAnyH_takeD (some 35) (i := 8) (v := ?_) rfl rfl (by kernel_rfl) (by kernel_rfl) (by kernel_rfl) (fun _ _ _ h => h) (.inl ⟨by kernel_rfl, ?_⟩) hs ?_
        rotate_left
        · intro w' hw'; go_simp; try with_reducible rfl
        try simp only [Act.put, List.setIfInBounds_toArray, List.set_cons_zero, List.set_cons_succ]
        refine wpAnyH_takeD (some 36) (i := 9) (v := ?_) rfl rfl (by kernel_rfl) (by kernel_rfl) (by kernel_rfl) (fun _ _ _ h => h) (.inl ⟨by kernel_rfl, ?_⟩) hs ?_
        rotate_left
        · intro w' hw'; go_simp; try with_reducible rfl
        try simp only [Act.put, List.setIfInBounds_toArray, List.set_cons_zero, List.set_cons_succ]
        refine wpAnyH_takeD (some 37) (i := 10) (v := ?_) rfl rfl (by kernel_rfl) (by kernel_rfl) (by kernel_rfl) (fun _ _ _ h => h) (.inl ⟨by kernel_rfl, ?_⟩) hs ?_
        rotate_left
        · intro w' hw'; go_simp; try with_reducible rfl
        try simp only [Act.put, List.setIfInBounds_toArray, List.set_cons_zero, List.set_cons_succ]
        refine wpAnyH_takeD (some 38) (i := 11) (v := ?_) rfl rfl (by kernel_rfl) (by kernel_rfl) (by kernel_rfl) (fun _ _ _ h => h) (.inl ⟨by kernel_rfl, ?_⟩) hs ?_
        rotate_left
        · intro w' hw'; go_simp; try with_reducible rfl
        try simp only [Act.put, List.setIfInBounds_toArray, List.set_cons_zero, List.set_cons_succ]
        refine wpAnyH_all (rs := [12]) (by kernel_rfl) (by simp) ?_
        intro i hi; simp only [List.mem_singleton] at hi; subst hi
        refine wpOp_step rfl (fun K hK => ?_)
        go_simp
        refine hK _ _ ⟨trivial, ?_⟩
        try simp only [Act.put, List.setIfInBounds_toArray, List.set_cons_zero, List.set_cons_succ]
        clear hK K
        refine wpAnyH_takeD (some 3) (i := 13) (v := ?_) rfl rfl (by kernel_rfl) (by kernel_rfl) (by kernel_rfl) (fun _ _ _ h => h) (.inl ⟨by kernel_rfl, ?_⟩) hs ?_
        rotate_left
        · intro w' hw'; go_simp; try with_reducible rfl
        try simp only [Act.put, List.setIfInBounds_toArray, List.set_cons_zero, List.set_cons_succ]
        refine wpAnyH_done (by kernel_rfl) ?_ _
        go_wp2_with fail
        refine bodyPost_ret (v := .tuple #[.agg #[.int .i16 X, .int .i16 Y], .bool true]) (by simp [results, Tryd.results14, go_sem, d0, d1]) rfl ⟨X, Y, by rw [HRP.out]; rfl, ?_, b5⟩
        intro a b hab
        rw [HRP.out] at hab
        have hab2 : (v1, v2) = (a, b) := by simpa using hab
        injection hab2 with ha hb
        subst ha; subst hb
        have p1 := P1.out; have p2 := P2.out
        have hX := HX.out; have hY := HY.out
        rw [IntWalk.i16_in _ p1] at hX
        rw [IntWalk.i16_in _ p2] at hY
        exact ⟨hX.symm, hY.symm, p1, p2⟩
      | false =>
        go_enter Tryd.func14, Tryd.ntmps14
        go_wp2_with fail
        refine (HCUT.out _ (HLV.out _ HBV.out)).mono ?_
        rintro e w1 ⟨rfl, d, rfl⟩
        have b1 := below_drewN HBV.out d
        have r1 := HRV.out.below (below_drewN (Below.refl _ _) d) HRV.out.lt
        obtain ⟨W1, hW1⟩ : ∃ X, X = (w.alloc (.cells #[.int .i16 0, .int .i16 0] 36)).drewN d := ⟨_, rfl⟩
        rw [← hW1] at b1 r1 ⊢
        clear hW1
        have B1 := hid b1; have R1 := hid r1
        clear b1 r1
        go_wp2_with fail
        refine (H1.out _).mono ?_
        rintro e w2 ⟨rfl, hB⟩
        have B2 := hid (B1.out.trans (hB.mono B1.out.size))
        have R2 := hid (R1.out.below hB R1.out.lt)
        clear hB
        go_wp2_with fail
        refine (H2.out _).mono ?_
        rintro e w3 ⟨rfl, hB⟩
        have B3 := hid (B2.out.trans (hB.mono B2.out.size))
        have R3 := hid (R2.out.below hB R2.out.lt)
        clear hB
        go_wp2_with fail
        have HP := hid (fun W => pairOfW_any v1 v2 W)
        obtain ⟨X, hX⟩ : ∃ z, IntKind.i16.wrap v1 = z := ⟨_, rfl⟩
        obtain ⟨Y, hY⟩ : ∃ z, IntKind.i16.wrap v2 = z := ⟨_, rfl⟩
        rw [hX, hY] at HP
        have HX := hid hX; have HY := hid hY
        clear hX hY
        refine wp_region_held (S := fun _ => True) (by kernel_rfl) ?_
        change wpAnyH _ _ _ _ _ _ _ _ (World.drew _)
        have hs : (fun _ : World => True) (World.drew w3) := trivial
        refine wpAnyH_takeD (some 27) (i := 0) (v := ?_) rfl rfl (by kernel_rfl) (by kernel_rfl) (by kernel_rfl) (fun _ _ _ h => h) (.inl ⟨by kernel_rfl, ?_⟩) hs ?_
        rotate_left
        · intro w' hw'; go_simp; try with_reducible rfl
        try simp only [Act.put, List.setIfInBounds_toArray, List.set_cons_zero, List.set_cons_succ]
        refine wpAnyH_takeD (some 28) (i := 1) (v := ?_) rfl rfl (by kernel_rfl) (by kernel_rfl) (by kernel_rfl) (fun _ _ _ h => h) (.inl ⟨by kernel_rfl, ?_⟩) hs ?_
        rotate_left
        · intro w' hw'; go_simp; try with_reducible rfl
        try simp only [Act.put, List.setIfInBounds_toArray, List.set_cons_zero, List.set_cons_succ]
        refine wpAnyH_takeD (some 30) (i := 3) (v := ?_) rfl rfl (by kernel_rfl) (by kernel_rfl) (by kernel_rfl) (fun _ _ _ h => h) (.inl ⟨by kernel_rfl, ?_⟩) hs ?_
        rotate_left
        · intro w' hw'; go_simp; try with_reducible rfl
        try simp only [Act.put, List.setIfInBounds_toArray, List.set_cons_zero, List.set_cons_succ]
        refine wpAnyH_all (rs := [2]) (by kernel_rfl) (by simp) ?_
        intro i hi; simp only [List.mem_singleton] at hi; subst hi
        refine wpOp_step rfl (fun K hK => ?_)
        go_simp
        with_reducible refine (HP.out _).mono ?_
        rintro e w4 ⟨rfl, hB4⟩
        have r4 := R3.out.below ((Below.refl _ w3).drew.trans hB4) R3.out.lt
        have B4 := B3.out.trans (((Below.refl _ w3).drew.trans hB4).mono B3.out.size)
        have c0 := r4.cell 0; have c1 := r4.cell 1; have f0 := r4.frozen 0; have f1 := r4.frozen 1
        simp only [List.getElem?_cons_zero, List.getElem?_cons_succ] at c0 c1
        have b5 := (B4.setCell (p := ⟨w.heap.size, 0, none⟩) (Nat.le_refl _) (.int .i16 X)).setCell (p := ⟨w.heap.size, 1, none⟩) (Nat.le_refl _) (.int .i16 Y)
        have r5 := (r4.set 0 (.int .i16 X)).set 1 (.int .i16 Y)
        have d0 := r5.cell 0; have d1 := r5.cell 1
        simp only [List.set_cons_zero, List.set_cons_succ, List.getElem?_cons_zero, List.getElem?_cons_succ] at d0 d1
        clear B4 r4 r5 hB4
        refine hK _ _ ⟨trivial, ?_⟩
        try simp only [Act.put, List.setIfInBounds_toArray, List.set_cons_zero, List.set_cons_succ]
        clear hK K
        have hs : (fun _ : World => True) w4 := trivial
        refine wpAnyH_takeD (some 31) (i := 4) (v := ?_) rfl rfl (by kernel_rfl) (by kernel_rfl) (by kernel_rfl) (fun _ _ _ h => h) (.inl ⟨by kernel_rfl, ?_⟩) hs ?_
        rotate_left
        · intro w' hw'; go_simp; try with_reducible rfl
        try simp only [Act.put, List.setIfInBounds_toArray, List.set_cons_zero, List.set_cons_succ]
        refine wpAnyH_takeD (some 32) (i := 5) (v := undef) rfl rfl (by kernel_rfl) (by kernel_rfl) (by kernel_rfl) (fun _ _ _ h => h) (.inr ⟨by kernel_rfl, rfl⟩) hs ?_
        try simp only [Act.put, List.setIfInBounds_toArray, List.set_cons_zero, List.set_cons_succ]
        refine wpAnyH_takeD (some 33) (i := 6) (v := undef) rfl rfl (by kernel_rfl) (by kernel_rfl) (by kernel_rfl) (fun _ _ _ h => h) (.inr ⟨by kernel_rfl, rfl⟩) hs ?_
        try simp only [Act.put, List.setIfInBounds_toArray, List.set_cons_zero, List.set_cons_succ]
        refine wpAnyH_takeD (some 34) (i := 7) (v := ?_) rfl rfl (by kernel_rfl) (by kernel_rfl) (by kernel_rfl) (fun _ _ _ h => h) (.inl ⟨by kernel_rfl, ?_⟩) hs ?_
        rotate_left
        · intro w' hw'; go_simp; try with_reducible rfl
        try simp only [Act.put, List.setIfInBounds_toArray, List.set_cons_zero, List.set_cons_succ]
        refine wpAnyH_takeD (some 35) (i := 8) (v := ?_) rfl rfl (by kernel_rfl) (by kernel_rfl) (by kernel_rfl) (fun _ _ _ h => h) (.inl ⟨by kernel_rfl, ?_⟩) hs ?_
        rotate_left
        · intro w' hw'; go_simp; try with_reducible rfl
        try simp only [Act.put, List.setIfInBounds_toArray, List.set_cons_zero, List.set_cons_succ]
        refine wpAnyH_takeD (some 36) (i := 9) (v := undef) rfl rfl (by kernel_rfl) (by kernel_rfl) (by kernel_rfl) (fun _ _ _ h => h) (.inr ⟨by kernel_rfl, rfl⟩) hs ?_
        try simp only [Act.put, List.setIfInBounds_toArray, List.set_cons_zero, List.set_cons_succ]
        refine wpAnyH_takeD (some 37) (i := 10) (v := undef) rfl rfl (by kernel_rfl) (by kernel_rfl) (by kernel_rfl) (fun _ _ _ h => h) (.inr ⟨by kernel_rfl, rfl⟩) hs ?_
        try simp only [Act.put, List.setIfInBounds_toArray, List.set_cons_zero, List.set_cons_succ]
        refine wpAnyH_takeD (some 38) (i := 11) (v := ?_) rfl rfl (by kernel_rfl) (by kernel_rfl) (by kernel_rfl) (fun _ _ _ h => h) (.inl ⟨by kernel_rfl, ?_⟩) hs ?_
        rotate_left
        · intro w' hw'; go_simp; try with_reducible rfl
        try simp only [Act.put, List.setIfInBounds_toArray, List.set_cons_zero, List.set_cons_succ]
        refine wpAnyH_all (rs := [12]) (by kernel_rfl) (by simp) ?_
        intro i hi; simp only [List.mem_singleton] at hi; subst hi
        refine wpOp_step rfl (fun K hK => ?_)
        go_simp
        refine hK _ _ ⟨trivial, ?_⟩
        try simp only [Act.put, List.setIfInBounds_toArray, List.set_cons_zero, List.set_cons_succ]
        clear hK K
        refine wpAnyH_takeD (some 3) (i := 13) (v := ?_) rfl rfl (by kernel_rfl) (by kernel_rfl) (by kernel_rfl) (fun _ _ _ h => h) (.inl ⟨by kernel_rfl, ?_⟩) hs ?_
        rotate_left
        · intro w' hw'; go_simp; try with_reducible rfl
        try simp only [Act.put, List.setIfInBounds_toArray, List.set_cons_zero, List.set_cons_succ]
        refine wpAnyH_done (by kernel_rfl) ?_ _
        go_wp2_with fail
        refine bodyPost_ret (v := .tuple #[.agg #[.int .i16 X, .int .i16 Y], .bool false]) (by simp [results, Tryd.results14, go_sem, d0, d1]) rfl ⟨X, Y, by rw [HRP.out]; rfl, ?_, b5⟩
        intro a b hab
        rw [HRP.out] at hab
        simp at hab
    | none =>
      rw [e2] at HRP
      have H2 := hid (fun W (h : LV W tS pS tR pR m) => p16_no ⟨c2.toArray⟩ s2 e2 W h)
      obtain ⟨C1, hC1⟩ : ∃ C, (⟨c1.toArray⟩ : ByteArray) = C := ⟨_, rfl⟩
      obtain ⟨C2, hC2⟩ : ∃ C, (⟨c2.toArray⟩ : ByteArray) = C := ⟨_, rfl⟩
      rw [hC1, hC2] at HCUT
      rw [hC1] at H1
      rw [hC2] at H2
      have P1 := hid (pi16_bd e1)
      clear hC1 hC2 s1 s2 e1 e2
      cases ok with
      | true =>
        go_enter Tryd.func14, Tryd.ntmps14
        go_wp2_with fail
        refine (HCUT.out _ (HLV.out _ HBV.out)).mono ?_
        rintro e w1 ⟨rfl, d, rfl⟩
        have b1 := below_drewN HBV.out d
        have r1 := HRV.out.below (below_drewN (Below.refl _ _) d) HRV.out.lt
        obtain ⟨W1, hW1⟩ : ∃ X, X = (w.alloc (.cells #[.int .i16 0, .int .i16 0] 36)).drewN d := ⟨_, rfl⟩
        rw [← hW1] at b1 r1 ⊢
        clear hW1
        have B1 := hid b1; have R1 := hid r1
        clear b1 r1
        go_wp2_with fail
        refine (H1.out _).mono ?_
        rintro e w2 ⟨rfl, hB⟩
        have B2 := hid (B1.out.trans (hB.mono B1.out.size))
        have R2 := hid (R1.out.below hB R1.out.lt)
        clear hB
        go_wp2_with fail
        refine (H2.out _ (HLV.out _ B2.out)).mono ?_
        rintro e w3 ⟨x2, T2, q2, rfl, hB⟩
        have B3 := hid (B2.out.trans (hB.mono B2.out.size))
        have R3 := hid (R2.out.below hB R2.out.lt)
        clear hB
        go_wp2_with fail
        have HP := hid (fun W => pairOfW_any v1 x2 W)
        obtain ⟨X, hX⟩ : ∃ z, IntKind.i16.wrap v1 = z := ⟨_, rfl⟩
        obtain ⟨Y, hY⟩ : ∃ z, IntKind.i16.wrap x2 = z := ⟨_, rfl⟩
        rw [hX, hY] at HP
        have HX := hid hX; have HY := hid hY
        clear hX hY
        refine wp_region_held (S := fun _ => True) (by kernel_rfl) ?_
        change wpAnyH _ _ _ _ _ _ _ _ (World.drew _)
        have hs : (fun _ : World => True) (World.drew w3) := trivial
        refine wpAnyH_takeD (some 27) (i := 0) (v := ?_) rfl rfl (by kernel_rfl) (by kernel_rfl) (by kernel_rfl) (fun _ _ _ h => h) (.inl ⟨by kernel_rfl, ?_⟩) hs ?_
        rotate_left
        · intro w' hw'; go_simp; try with_reducible rfl
        try simp only [Act.put, List.setIfInBounds_toArray, List.set_cons_zero, List.set_cons_succ]
        refine wpAnyH_takeD (some 28) (i := 1) (v := ?_) rfl rfl (by kernel_rfl) (by kernel_rfl) (by kernel_rfl) (fun _ _ _ h => h) (.inl ⟨by kernel_rfl, ?_⟩) hs ?_
        rotate_left
        · intro w' hw'; go_simp; try with_reducible rfl
        try simp only [Act.put, List.setIfInBounds_toArray, List.set_cons_zero, List.set_cons_succ]
        refine wpAnyH_takeD (some 30) (i := 3) (v := ?_) rfl rfl (by kernel_rfl) (by kernel_rfl) (by kernel_rfl) (fun _ _ _ h => h) (.inl ⟨by kernel_rfl, ?_⟩) hs ?_
        rotate_left
        · intro w' hw'; go_simp; try with_reducible rfl
        try simp only [Act.put, List.setIfInBounds_toArray, List.set_cons_zero, List.set_cons_succ]
        refine wpAnyH_all (rs := [2]) (by kernel_rfl) (by simp) ?_
        intro i hi; simp only [List.mem_singleton] at hi; subst hi
        refine wpOp_step rfl (fun K hK => ?_)
        go_simp
        with_reducible refine (HP.out _).mono ?_
        rintro e w4 ⟨rfl, hB4⟩
        have r4 := R3.out.below ((Below.refl _ w3).drew.trans hB4) R3.out.lt
        have B4 := B3.out.trans (((Below.refl _ w3).drew.trans hB4).mono B3.out.size)
        have c0 := r4.cell 0; have c1 := r4.cell 1; have f0 := r4.frozen 0; have f1 := r4.frozen 1
        simp only [List.getElem?_cons_zero, List.getElem?_cons_succ] at c0 c1
        have b5 := (B4.setCell (p := ⟨w.heap.size, 0, none⟩) (Nat.le_refl _) (.int .i16 X)).setCell (p := ⟨w.heap.size, 1, none⟩) (Nat.le_refl _) (.int .i16 Y)
        have r5 := (r4.set 0 (.int .i16 X)).set 1 (.int .i16 Y)
        have d0 := r5.cell 0; have d1 := r5.cell 1
        simp only [List.set_cons_zero, List.set_cons_succ, List.getElem?_cons_zero, List.getElem?_cons_succ] at d0 d1
        clear B4 r4 r5 hB4
        refine hK _ _ ⟨trivial, ?_⟩
        try simp only [Act.put, List.setIfInBounds_toArray, List.set_cons_zero, List.set_cons_succ]
        clear hK K
        have hs : (fun _ : World => True) w4 := trivial
        refine wpAnyH_takeD (some 31) (i := 4) (v := ?_) rfl rfl (by kernel_rfl) (by kernel_rfl) (by kernel_rfl) (fun _ _ _ h => h) (.inl ⟨by kernel_rfl, ?_⟩) hs ?_
        rotate_left
        · intro w' hw'; go_simp; try with_reducible rfl
        try simp only [Act.put, List.setIfInBounds_toArray, List.set_cons_zero, List.set_cons_succ]
        refine wpAnyH_takeD (some 32) (i := 5) (v := ?_) rfl rfl (by kernel_rfl) (by kernel_rfl) (by kernel_rfl) (fun _ _ _ h => h) (.inl ⟨by kernel_rfl, ?_⟩) hs ?_
        rotate_left
        · intro w' hw'; go_simp; try with_reducible rfl
        try simp only [Act.put, List.setIfInBounds_toArray, List.set_cons_zero, List.set_cons_succ]
        refine wpAnyH_takeD (some 33) (i := 6) (v := ?_) rfl rfl (by kernel_rfl) (by kernel_rfl) (by kernel_rfl) (fun _ _ _ h => h) (.inl ⟨by kernel_rfl, ?_⟩) hs ?_
        rotate_left
        · intro w' hw'; go_simp; try with_reducible rfl
        try simp only [Act.put, List.setIfInBounds_toArray, List.set_cons_zero, List.set_cons_succ]
        refine wpAnyH_takeD (some 34) (i := 7) (v := ?_) rfl rfl (by kernel_rfl) (by kernel_rfl) (by kernel_rfl) (fun _ _ _ h => h) (.inl ⟨by kernel_rfl, ?_⟩) hs ?_
        rotate_left
        · intro w' hw'; go_simp; try with_reducible rfl
        try simp only [Act.put, List.setIfInBounds_toArray, List.set_cons_zero, List.set_cons_succ]
        refine wpAnyH_takeD (some 35) (i := 8) (v := ?_) rfl rfl (by kernel_rfl) (by kernel_rfl) (by kernel_rfl) (fun _ _ _ h => h) (.inl ⟨by kernel_rfl, ?_⟩) hs ?_
        rotate_left
        · intro w' hw'; go_simp; try with_reducible rfl
        try simp only [Act.put, List.setIfInBounds_toArray, List.set_cons_zero, List.set_cons_succ]
        refine wpAnyH_takeD (some 36) (i := 9) (v := ?_) rfl rfl (by kernel_rfl) (by kernel_rfl) (by kernel_rfl) (fun _ _ _ h => h) (.inl ⟨by kernel_rfl, ?_⟩) hs ?_
        rotate_left
        · intro w' hw'; go_simp; try with_reducible rfl
        try simp only [Act.put, List.setIfInBounds_toArray, List.set_cons_zero, List.set_cons_succ]
        refine wpAnyH_takeD (some 37) (i := 10) (v := ?_) rfl rfl (by kernel_rfl) (by kernel_rfl) (by kernel_rfl) (fun _ _ _ h => h) (.inl ⟨by kernel_rfl, ?_⟩) hs ?_
        rotate_left
        · intro w' hw'; go_simp; try with_reducible rfl
        try simp only [Act.put, List.setIfInBounds_toArray, List.set_cons_zero, List.set_cons_succ]
        refine wpAnyH_takeD (some 38) (i := 11) (v := ?_) rfl rfl (by kernel_rfl) (by kernel_rfl) (by kernel_rfl) (fun _ _ _ h => h) (.inl ⟨by kernel_rfl, ?_⟩) hs ?_
        rotate_left
        · intro w' hw'; go_simp; try with_reducible rfl
        try simp only [Act.put, List.setIfInBounds_toArray, List.set_cons_zero, List.set_cons_succ]
        refine wpAnyH_all (rs := [12]) (by kernel_rfl) (by simp) ?_
        intro i hi; simp only [List.mem_singleton] at hi; subst hi
        refine wpOp_step rfl (fun K hK => ?_)
        go_simp
        refine hK _ _ ⟨trivial, ?_⟩
        try simp only [Act.put, List.setIfInBounds_toArray, List.set_cons_zero, List.set_cons_succ]
        clear hK K
        refine wpAnyH_takeD (some 3) (i := 13) (v := ?_) rfl rfl (by kernel_rfl) (by kernel_rfl) (by kernel_rfl) (fun _ _ _ h => h) (.inl ⟨by kernel_rfl, ?_⟩) hs ?_
        rotate_left
        · intro w' hw'; go_simp; try with_reducible rfl
        try simp only [Act.put, List.setIfInBounds_toArray, List.set_cons_zero, List.set_cons_succ]
        refine wpAnyH_done (by kernel_rfl) ?_ _
        go_wp2_with fail
        refine bodyPost_ret (v := .tuple #[.agg #[.int .i16 X, .int .i16 Y], .bool false]) (by simp [results, Tryd.results14, go_sem, d0, d1]) rfl ⟨X, Y, by rw [HRP.out]; rfl, ?_, b5⟩
        intro a b hab
        rw [HRP.out] at hab
        simp at hab
      | false =>
        go_enter Tryd.func14, Tryd.ntmps14
        go_wp2_with fail
        refine (HCUT.out _ (HLV.out _ HBV.out)).mono ?_
        rintro e w1 ⟨rfl, d, rfl⟩
        have b1 := below_drewN HBV.out d
        have r1 := HRV.out.below (below_drewN (Below.refl _ _) d) HRV.out.lt
        obtain ⟨W1, hW1⟩ : ∃ X, X = (w.alloc (.cells #[.int .i16 0, .int .i16 0] 36)).drewN d := ⟨_, rfl⟩
        rw [← hW1] at b1 r1 ⊢
        clear hW1
        have B1 := hid b1; have R1 := hid r1
        clear b1 r1
        go_wp2_with fail
        refine (H1.out _).mono ?_
        rintro e w2 ⟨rfl, hB⟩
        have B2 := hid (B1.out.trans (hB.mono B1.out.size))
        have R2 := hid (R1.out.below hB R1.out.lt)
        clear hB
        go_wp2_with fail
        refine (H2.out _ (HLV.out _ B2.out)).mono ?_
        rintro e w3 ⟨x2, T2, q2, rfl, hB⟩
        have B3 := hid (B2.out.trans (hB.mono B2.out.size))
        have R3 := hid (R2.out.below hB R2.out.lt)
        clear hB
        go_wp2_with fail
        have HP := hid (fun W => pairOfW_any v1 x2 W)
        obtain ⟨X, hX⟩ : ∃ z, IntKind.i16.wrap v1 = z := ⟨_, rfl⟩
        obtain ⟨Y, hY⟩ : ∃ z, IntKind.i16.wrap x2 = z := ⟨_, rfl⟩
        rw [hX, hY] at HP
        have HX := hid hX; have HY := hid hY
        clear hX hY
        refine wp_region_held (S := fun _ => True) (by kernel_rfl) ?_
        change wpAnyH _ _ _ _ _ _ _ _ (World.drew _)
        have hs : (fun _ : World => True) (World.drew w3) := trivial
        refine wpAnyH_takeD (some 27) (i := 0) (v := ?_) rfl rfl (by kernel_rfl) (by kernel_rfl) (by kernel_rfl) (fun _ _ _ h => h) (.inl ⟨by kernel_rfl, ?_⟩) hs ?_
        rotate_left
        · intro w' hw'; go_simp; try with_reducible rfl
        try simp only [Act.put, List.setIfInBounds_toArray, List.set_cons_zero, List.set_cons_succ]
        refine wpAnyH_takeD (some 28) (i := 1) (v := ?_) rfl rfl (by kernel_rfl) (by kernel_rfl) (by kernel_rfl) (fun _ _ _ h => h) (.inl ⟨by kernel_rfl, ?_⟩) hs ?_
        rotate_left
        · intro w' hw'; go_simp; try with_reducible rfl
        try simp only [Act.put, List.setIfInBounds_toArray, List.set_cons_zero, List.set_cons_succ]
        refine wpAnyH_takeD (some 30) (i := 3) (v := ?_) rfl rfl (by kernel_rfl) (by kernel_rfl) (by kernel_rfl) (fun _ _ _ h => h) (.inl ⟨by kernel_rfl, ?_⟩) hs ?_
        rotate_left
        · intro w' hw'; go_simp; try with_reducible rfl
        try simp only [Act.put, List.setIfInBounds_toArray, List.set_cons_zero, List.set_cons_succ]
        refine wpAnyH_all (rs := [2]) (by kernel_rfl) (by simp) ?_
        intro i hi; simp only [List.mem_singleton] at hi; subst hi
        refine wpOp_step rfl (fun K hK => ?_)
        go_simp
        with_reducible refine (HP.out _).mono ?_
        rintro e w4 ⟨rfl, hB4⟩
        have r4 := R3.out.below ((Below.refl _ w3).drew.trans hB4) R3.out.lt
        have B4 := B3.out.trans (((Below.refl _ w3).drew.trans hB4).mono B3.out.size)
        have c0 := r4.cell 0; have c1 := r4.cell 1; have f0 := r4.frozen 0; have f1 := r4.frozen 1
        simp only [List.getElem?_cons_zero, List.getElem?_cons_succ] at c0 c1
        have b5 := (B4.setCell (p := ⟨w.heap.size, 0, none⟩) (Nat.le_refl _) (.int .i16 X)).setCell (p := ⟨w.heap.size, 1, none⟩) (Nat.le_refl _) (.int .i16 Y)
        have r5 := (r4.set 0 (.int .i16 X)).set 1 (.int .i16 Y)
        have d0 := r5.cell 0; have d1 := r5.cell 1
        simp only [List.set_cons_zero, List.set_cons_succ, List.getElem?_cons_zero, List.getElem?_cons_succ] at d0 d1
        clear B4 r4 r5 hB4
        refine hK _ _ ⟨trivial, ?_⟩
        try simp only [Act.put, List.setIfInBounds_toArray, List.set_cons_zero, List.set_cons_succ]
        clear hK K
        have hs : (fun _ : World => True) w4 := trivial
        refine wpAnyH_takeD (some 31) (i := 4) (v := ?_) rfl rfl (by kernel_rfl) (by kernel_rfl) (by kernel_rfl) (fun _ _ _ h => h) (.inl ⟨by kernel_rfl, ?_⟩) hs ?_
        rotate_left
        · intro w' hw'; go_simp; try with_reducible rfl
        try simp only [Act.put, List.setIfInBounds_toArray, List.set_cons_zero, List.set_cons_succ]
        refine wpAnyH_takeD (some 32) (i := 5) (v := undef) rfl rfl (by kernel_rfl) (by kernel_rfl) (by kernel_rfl) (fun _ _ _ h => h) (.inr ⟨by kernel_rfl, rfl⟩) hs ?_
        try simp only [Act.put, List.setIfInBounds_toArray, List.set_cons_zero, List.set_cons_succ]
        refine wpAnyH_takeD (some 33) (i := 6) (v := undef) rfl rfl (by kernel_rfl) (by kernel_rfl) (by kernel_rfl) (fun _ _ _ h => h) (.inr ⟨by kernel_rfl, rfl⟩) hs ?_
        try simp only [Act.put, List.setIfInBounds_toArray, List.set_cons_zero, List.set_cons_succ]
        refine wpAnyH_takeD (some 34) (i := 7) (v := ?_) rfl rfl (by kernel_rfl) (by kernel_rfl) (by kernel_rfl) (fun _ _ _ h => h) (.inl ⟨by kernel_rfl, ?_⟩) hs ?_
        rotate_left
        · intro w' hw'; go_simp; try with_reducible rfl
        try simp only [Act.put, List.setIfInBounds_toArray, List.set_cons_zero, List.set_cons_succ]
        refine wpAnyH_takeD (some 35) (i := 8) (v := ?_) rfl rfl (by kernel_rfl) (by kernel_rfl) (by kernel_rfl) (fun _ _ _ h => h) (.inl ⟨by kernel_rfl, ?_⟩) hs ?_
        rotate_left
        · intro w' hw'; go_simp; try with_reducible rfl
        try simp only [Act.put, List.setIfInBounds_toArray, List.set_cons_zero, List.set_cons_succ]
        refine wpAnyH_takeD (some 36) (i := 9) (v := undef) rfl rfl (by kernel_rfl) (by kernel_rfl) (by kernel_rfl) (fun _ _ _ h => h) (.inr ⟨by kernel_rfl, rfl⟩) hs ?_
        try simp only [Act.put, List.setIfInBounds_toArray, List.set_cons_zero, List.set_cons_succ]
        refine wpAnyH_takeD (some 37) (i := 10) (v := undef) rfl rfl (by kernel_rfl) (by kernel_rfl) (by kernel_rfl) (fun _ _ _ h => h) (.inr ⟨by kernel_rfl, rfl⟩) hs ?_
        try simp only [Act.put, List.setIfInBounds_toArray, List.set_cons_zero, List.set_cons_succ]
        refine wpAnyH_takeD (some 38) (i := 11) (v := ?_) rfl rfl (by kernel_rfl) (by kernel_rfl) (by kernel_rfl) (fun _ _ _ h => h) (.inl ⟨by kernel_rfl, ?_⟩) hs ?_
        rotate_left
        · intro w' hw'; go_simp; try with_reducible rfl
        try simp only [Act.put, List.setIfInBounds_toArray, List.set_cons_zero, List.set_cons_succ]
        refine wpAnyH_all (rs := [12]) (by kernel_rfl) (by simp) ?_
        intro i hi; simp only [List.mem_singleton] at hi; subst hi
        refine wpOp_step rfl (fun K hK => ?_)
        go_simp
        refine hK _ _ ⟨trivial, ?_⟩
        try simp only [Act.put, List.setIfInBounds_toArray, List.set_cons_zero, List.set_cons_succ]
        clear hK K
        refine wpAnyH_takeD (some 3) (i := 13) (v := ?_) rfl rfl (by kernel_rfl) (by kernel_rfl) (by kernel_rfl) (fun _ _ _ h => h) (.inl ⟨by kernel_rfl, ?_⟩) hs ?_
        rotate_left
        · intro w' hw'; go_simp; try with_reducible rfl
        try simp only [Act.put, List.setIfInBounds_toArray, List.set_cons_zero, List.set_cons_succ]
        refine wpAnyH_done (by kernel_rfl) ?_ _
        go_wp2_with fail
        refine bodyPost_ret (v := .tuple #[.agg #[.int .i16 X, .int .i16 Y], .bool false]) (by simp [results, Tryd.results14, go_sem, d0, d1]) rfl ⟨X, Y, by rw [HRP.out]; rfl, ?_, b5⟩
        intro a b hab
        rw [HRP.out] at hab
        simp at hab
  | none =>
    rw [e1] at HRP
    have H1 := hid (fun W (h : LV W tS pS tR pR m) => p16_no ⟨c1.toArray⟩ s1 e1 W h)
    cases e2 : pi16 c2 with
    | some v2 =>
      rw [e2] at HRP
      have H2 := hid (fun W => p16_yes ⟨c2.toArray⟩ s2 (v := v2) e2 W)
      obtain ⟨C1, hC1⟩ : ∃ C, (⟨c1.toArray⟩ : ByteArray) = C := ⟨_, rfl⟩
      obtain ⟨C2, hC2⟩ : ∃ C, (⟨c2.toArray⟩ : ByteArray) = C := ⟨_, rfl⟩
      rw [hC1, hC2] at HCUT
      rw [hC1] at H1
      rw [hC2] at H2
      have P2 := hid (pi16_bd e2)
      clear hC1 hC2 s1 s2 e1 e2
      cases ok with
      | true =>
        go_enter Tryd.func14, Tryd.ntmps14
        go_wp2_with fail
        refine (HCUT.out _ (HLV.out _ HBV.out)).mono ?_
        rintro e w1 ⟨rfl, d, rfl⟩
        have b1 := below_drewN HBV.out d
        have r1 := HRV.out.below (below_drewN (Below.refl _ _) d) HRV.out.lt
        obtain ⟨W1, hW1⟩ : ∃ X, X = (w.alloc (.cells #[.int .i16 0, .int .i16 0] 36)).drewN d := ⟨_, rfl⟩
        rw [← hW1] at b1 r1 ⊢
        clear hW1
        have B1 := hid b1; have R1 := hid r1
        clear b1 r1
        go_wp2_with fail
        refine (H1.out _ (HLV.out _ B1.out)).mono ?_
        rintro e w2 ⟨x1, T1, q1, rfl, hB⟩
        have B2 := hid (B1.out.trans (hB.mono B1.out.size))
        have R2 := hid (R1.out.below hB R1.out.lt)
        clear hB
        go_wp2_with fail
        refine (H2.out _).mono ?_
        rintro e w3 ⟨rfl, hB⟩
        have B3 := hid (B2.out.trans (hB.mono B2.out.size))
        have R3 := hid (R2.out.below hB R2.out.lt)
        clear hB
        go_wp2_with fail
        have HP := hid (fun W => pairOfW_any x1 v2 W)
        obtain ⟨X, hX⟩ : ∃ z, IntKind.i16.wrap x1 = z := ⟨_, rfl⟩
        obtain ⟨Y, hY⟩ : ∃ z, IntKind.i16.wrap v2 = z := ⟨_, rfl⟩
        rw [hX, hY] at HP
        have HX := hid hX; have HY := hid hY
        clear hX hY
        refine wp_region_held (S := fun _ => True) (by kernel_rfl) ?_
        change wpAnyH _ _ _ _ _ _ _ _ (World.drew _)
        have hs : (fun _ : World => True) (World.drew w3) := trivial
        refine wpAnyH_takeD (some 27) (i := 0) (v := ?_) rfl rfl (by kernel_rfl) (by kernel_rfl) (by kernel_rfl) (fun _ _ _ h => h) (.inl ⟨by kernel_rfl, ?_⟩) hs ?_
        rotate_left
        · intro w' hw'; go_simp; try with_reducible rfl
        try simp only [Act.put, List.setIfInBounds_toArray, List.set_cons_zero, List.set_cons_succ]
        refine wpAnyH_takeD (some 28) (i := 1) (v := ?_) rfl rfl (by kernel_rfl) (by kernel_rfl) (by kernel_rfl) (fun _ _ _ h => h) (.inl ⟨by kernel_rfl, ?_⟩) hs ?_
        rotate_left
        · intro w' hw'; go_simp; try with_reducible rfl
        try simp only [Act.put, List.setIfInBounds_toArray, List.set_cons_zero, List.set_cons_succ]
        refine wpAnyH_takeD (some 30) (i := 3) (v := ?_) rfl rfl (by kernel_rfl) (by kernel_rfl) (by kernel_rfl) (fun _ _ _ h => h) (.inl ⟨by kernel_rfl, ?_⟩) hs ?_
        rotate_left
        · intro w' hw'; go_simp; try with_reducible rfl
        try simp only [Act.put, List.setIfInBounds_toArray, List.set_cons_zero, List.set_cons_succ]
        refine wpAnyH_all (rs := [2]) (by kernel_rfl) (by simp) ?_
        intro i hi; simp only [List.mem_singleton] at hi; subst hi
        refine wpOp_step rfl (fun K hK => ?_)
        go_simp
        with_reducible refine (HP.out _).mono ?_
        rintro e w4 ⟨rfl, hB4⟩
        have r4 := R3.out.below ((Below.refl _ w3).drew.trans hB4) R3.out.lt
        have B4 := B3.out.trans (((Below.refl _ w3).drew.trans hB4).mono B3.out.size)
        have c0 := r4.cell 0; have c1 := r4.cell 1; have f0 := r4.frozen 0; have f1 := r4.frozen 1
        simp only [List.getElem?_cons_zero, List.getElem?_cons_succ] at c0 c1
        have b5 := (B4.setCell (p := ⟨w.heap.size, 0, none⟩) (Nat.le_refl _) (.int .i16 X)).setCell (p := ⟨w.heap.size, 1, none⟩) (Nat.le_refl _) (.int .i16 Y)
        have r5 := (r4.set 0 (.int .i16 X)).set 1 (.int .i16 Y)
        have d0 := r5.cell 0; have d1 := r5.cell 1
        simp only [List.set_cons_zero, List.set_cons_succ, List.getElem?_cons_zero, List.getElem?_cons_succ] at d0 d1
        clear B4 r4 r5 hB4
        refine hK _ _ ⟨trivial, ?_⟩
        try simp only [Act.put, List.setIfInBounds_toArray, List.set_cons_zero, List.set_cons_succ]
        clear hK K
        have hs : (fun _ : World => True) w4 := trivial
        refine wpAnyH_takeD (some 31) (i := 4) (v := ?_) rfl rfl (by kernel_rfl) (by kernel_rfl) (by kernel_rfl) (fun _ _ _ h => h) (.inl ⟨by kernel_rfl, ?_⟩) hs ?_
        rotate_left
        · intro w' hw'; go_simp; try with_reducible rfl
        try simp only [Act.put, List.setIfInBounds_toArray, List.set_cons_zero, List.set_cons_succ]
        refine wpAnyH_takeD (some 32) (i := 5) (v := ?_) rfl rfl (by kernel_rfl) (by kernel_rfl) (by kernel_rfl) (fun _ _ _ h => h) (.inl ⟨by kernel_rfl, ?_⟩) hs ?_
        rotate_left
        · intro w' hw'; go_simp; try with_reducible rfl
        try simp only [Act.put, List.setIfInBounds_toArray, List.set_cons_zero, List.set_cons_succ]
        refine wpAnyH_takeD (some 33) (i := 6) (v := ?_) rfl rfl (by kernel_rfl) (by kernel_rfl) (by kernel_rfl) (fun _ _ _ h => h) (.inl ⟨by kernel_rfl, ?_⟩) hs ?_
        rotate_left
        · intro w' hw'; go_simp; try with_reducible rfl
        try simp only [Act.put, List.setIfInBounds_toArray, List.set_cons_zero, List.set_cons_succ]
        refine wpAnyH_takeD (some 34) (i := 7) (v := ?_) rfl rfl (by kernel_rfl) (by kernel_rfl) (by kernel_rfl) (fun _ _ _ h => h) (.inl ⟨by kernel_rfl, ?_⟩) hs ?_
        rotate_left
        · intro w' hw'; go_simp; try with_reducible rfl
        try simp only [Act.put, List.setIfInBounds_toArray, List.set_cons_zero, List.set_cons_succ]
        refine wpAnyH_takeD (some 35) (i := 8) (v := ?_) rfl rfl (by kernel_rfl) (by kernel_rfl) (by kernel_rfl) (fun _ _ _ h => h) (.inl ⟨by kernel_rfl, ?_⟩) hs ?_
        rotate_left
        · intro w' hw'; go_simp; try with_reducible rfl
        try simp only [Act.put, List.setIfInBounds_toArray, List.set_cons_zero, List.set_cons_succ]
        refine wpAnyH_takeD (some 36) (i := 9) (v := undef) rfl rfl (by kernel_rfl) (by kernel_rfl) (by kernel_rfl) (fun _ _ _ h => h) (.inr ⟨by kernel_rfl, rfl⟩) hs ?_
        try simp only [Act.put, List.setIfInBounds_toArray, List.set_cons_zero, List.set_cons_succ]
        refine wpAnyH_takeD (some 37) (i := 10) (v := undef) rfl rfl (by kernel_rfl) (by kernel_rfl) (by kernel_rfl) (fun _ _ _ h => h) (.inr ⟨by kernel_rfl, rfl⟩) hs ?_
        try simp only [Act.put, List.setIfInBounds_toArray, List.set_cons_zero, List.set_cons_succ]
        refine wpAnyH_takeD (some 38) (i := 11) (v := ?_) rfl rfl (by kernel_rfl) (by kernel_rfl) (by kernel_rfl) (fun _ _ _ h => h) (.inl ⟨by kernel_rfl, ?_⟩) hs ?_
        rotate_left
        · intro w' hw'; go_simp; try with_reducible rfl
        try simp only [Act.put, List.setIfInBounds_toArray, List.set_cons_zero, List.set_cons_succ]
        refine wpAnyH_all (rs := [12]) (by kernel_rfl) (by simp) ?_
        intro i hi; simp only [List.mem_singleton] at hi; subst hi
        refine wpOp_step rfl (fun K hK => ?_)
        go_simp
        refine hK _ _ ⟨trivial, ?_⟩
        try simp only [Act.put, List.setIfInBounds_toArray, List.set_cons_zero, List.set_cons_succ]
        clear hK K
        refine wpAnyH_takeD (some 3) (i := 13) (v := ?_) rfl rfl (by kernel_rfl) (by kernel_rfl) (by kernel_rfl) (fun _ _ _ h => h) (.inl ⟨by kernel_rfl, ?_⟩) hs ?_
        rotate_left
        · intro w' hw'; go_simp; try with_reducible rfl
        try simp only [Act.put, List.setIfInBounds_toArray, List.set_cons_zero, List.set_cons_succ]
        refine wpAnyH_done (by kernel_rfl) ?_ _
        go_wp2_with fail
        refine bodyPost_ret (v := .tuple #[.agg #[.int .i16 X, .int .i16 Y], .bool false]) (by simp [results, Tryd.results14, go_sem, d0, d1]) rfl ⟨X, Y, by rw [HRP.out]; rfl, ?_, b5⟩
        intro a b hab
        rw [HRP.out] at hab
        simp at hab
      | false =>
        go_enter Tryd.func14, Tryd.ntmps14
        go_wp2_with fail
        refine (HCUT.out _ (HLV.out _ HBV.out)).mono ?_
        rintro e w1 ⟨rfl, d, rfl⟩
        have b1 := below_drewN HBV.out d
        have r1 := HRV.out.below (below_drewN (Below.refl _ _) d) HRV.out.lt
        obtain ⟨W1, hW1⟩ : ∃ X, X = (w.alloc (.cells #[.int .i16 0, .int .i16 0] 36)).drewN d := ⟨_, rfl⟩
        rw [← hW1] at b1 r1 ⊢
        clear hW1
        have B1 := hid b1; have R1 := hid r1
        clear b1 r1
        go_wp2_with fail
        refine (H1.out _ (HLV.out _ B1.out)).mono ?_
        rintro e w2 ⟨x1, T1, q1, rfl, hB⟩
        have B2 := hid (B1.out.trans (hB.mono B1.out.size))
        have R2 := hid (R1.out.below hB R1.out.lt)
        clear hB
        go_wp2_with fail
        refine (H2.out _).mono ?_
        rintro e w3 ⟨rfl, hB⟩
        have B3 := hid (B2.out.trans (hB.mono B2.out.size))
        have R3 := hid (R2.out.below hB R2.out.lt)
        clear hB
        go_wp2_with fail
        have HP := hid (fun W => pairOfW_any x1 v2 W)
        obtain ⟨X, hX⟩ : ∃ z, IntKind.i16.wrap x1 = z := ⟨_, rfl⟩
        obtain ⟨Y, hY⟩ : ∃ z, IntKind.i16.wrap v2 = z := ⟨_, rfl⟩
        rw [hX, hY] at HP
        have HX := hid hX; have HY := hid hY
        clear hX hY
        refine wp_region_held (S := fun _ => True) (by kernel_rfl) ?_
        change wpAnyH _ _ _ _ _ _ _ _ (World.drew _)
        have hs : (fun _ : World => True) (World.drew w3) := trivial
        refine wpAnyH_takeD (some 27) (i := 0) (v := ?_) rfl rfl (by kernel_rfl) (by kernel_rfl) (by kernel_rfl) (fun _ _ _ h => h) (.inl ⟨by kernel_rfl, ?_⟩) hs ?_
        rotate_left
        · intro w' hw'; go_simp; try with_reducible rfl
        try simp only [Act.put, List.setIfInBounds_toArray, List.set_cons_zero, List.set_cons_succ]
        refine wpAnyH_takeD (some 28) (i := 1) (v := ?_) rfl rfl (by kernel_rfl) (by kernel_rfl) (by kernel_rfl) (fun _ _ _ h => h) (.inl ⟨by kernel_rfl, ?_⟩) hs ?_
        rotate_left
        · intro w' hw'; go_simp; try with_reducible rfl
        try simp only [Act.put, List.setIfInBounds_toArray, List.set_cons_zero, List.set_cons_succ]
        refine wpAnyH_takeD (some 30) (i := 3) (v := ?_) rfl rfl (by kernel_rfl) (by kernel_rfl) (by kernel_rfl) (fun _ _ _ h => h) (.inl ⟨by kernel_rfl, ?_⟩) hs ?_
        rotate_left
        · intro w' hw'; go_simp; try with_reducible rfl
        try simp only [Act.put, List.setIfInBounds_toArray, List.set_cons_zero, List.set_cons_succ]
        refine wpAnyH_all (rs := [2]) (by kernel_rfl) (by simp) ?_
        intro i hi; simp only [List.mem_singleton] at hi; subst hi
        refine wpOp_step rfl (fun K hK => ?_)
        go_simp
        with_reducible refine (HP.out _).mono ?_
        rintro e w4 ⟨rfl, hB4⟩
        have r4 := R3.out.below ((Below.refl _ w3).drew.trans hB4) R3.out.lt
        have B4 := B3.out.trans (((Below.refl _ w3).drew.trans hB4).mono B3.out.size)
        have c0 := r4.cell 0; have c1 := r4.cell 1; have f0 := r4.frozen 0; have f1 := r4.frozen 1
        simp only [List.getElem?_cons_zero, List.getElem?_cons_succ] at c0 c1
        have b5 := (B4.setCell (p := ⟨w.heap.size, 0, none⟩) (Nat.le_refl _) (.int .i16 X)).setCell (p := ⟨w.heap.size, 1, none⟩) (Nat.le_refl _) (.int .i16 Y)
        have r5 := (r4.set 0 (.int .i16 X)).set 1 (.int .i16 Y)
        have d0 := r5.cell 0; have d1 := r5.cell 1
        simp only [List.set_cons_zero, List.set_cons_succ, List.getElem?_cons_zero, List.getElem?_cons_succ] at d0 d1
        clear B4 r4 r5 hB4
        refine hK _ _ ⟨trivial, ?_⟩
        try simp only [Act.put, List.setIfInBounds_toArray, List.set_cons_zero, List.set_cons_succ]
        clear hK K
        have hs : (fun _ : World => True) w4 := trivial
        refine wpAnyH_takeD (some 31) (i := 4) (v := ?_) rfl rfl (by kernel_rfl) (by kernel_rfl) (by kernel_rfl) (fun _ _ _ h => h) (.inl ⟨by kernel_rfl, ?_⟩) hs ?_
        rotate_left
        · intro w' hw'; go_simp; try with_reducible rfl
        try simp only [Act.put, List.setIfInBounds_toArray, List.set_cons_zero, List.set_cons_succ]
        refine wpAnyH_takeD (some 32) (i := 5) (v := undef) rfl rfl (by kernel_rfl) (by kernel_rfl) (by kernel_rfl) (fun _ _ _ h => h) (.inr ⟨by kernel_rfl, rfl⟩) hs ?_
        try simp only [Act.put, List.setIfInBounds_toArray, List.set_cons_zero, List.set_cons_succ]
        refine wpAnyH_takeD (some 33) (i := 6) (v := undef) rfl rfl (by kernel_rfl) (by kernel_rfl) (by kernel_rfl) (fun _ _ _ h => h) (.inr ⟨by kernel_rfl, rfl⟩) hs ?_
        try simp only [Act.put, List.setIfInBounds_toArray, List.set_cons_zero, List.set_cons_succ]
        refine wpAnyH_takeD (some 34) (i := 7) (v := ?_) rfl rfl (by kernel_rfl) (by kernel_rfl) (by kernel_rfl) (fun _ _ _ h => h) (.inl ⟨by kernel_rfl, ?_⟩) hs ?_
        rotate_left
        · intro w' hw'; go_simp; try with_reducible rfl
        try simp only [Act.put, List.setIfInBounds_toArray, List.set_cons_zero, List.set_cons_succ]
        refine wpAnyH_takeD (some 35) (i := 8) (v := ?_) rfl rfl (by kernel_rfl) (by kernel_rfl) (by kernel_rfl) (fun _ _ _ h => h) (.inl ⟨by kernel_rfl, ?_⟩) hs ?_
        rotate_left
        · intro w' hw'; go_simp; try with_reducible rfl
        try simp only [Act.put, List.setIfInBounds_toArray, List.set_cons_zero, List.set_cons_succ]
        refine wpAnyH_takeD (some 36) (i := 9) (v := undef) rfl rfl (by kernel_rfl) (by kernel_rfl) (by kernel_rfl) (fun _ _ _ h => h) (.inr ⟨by kernel_rfl, rfl⟩) hs ?_
        try simp only [Act.put, List.setIfInBounds_toArray, List.set_cons_zero, List.set_cons_succ]
        refine wpAnyH_takeD (some 37) (i := 10) (v := undef) rfl rfl (by kernel_rfl) (by kernel_rfl) (by kernel_rfl) (fun _ _ _ h => h) (.inr ⟨by kernel_rfl, rfl⟩) hs ?_
        try simp only [Act.put, List.setIfInBounds_toArray, List.set_cons_zero, List.set_cons_succ]
        refine wpAnyH_takeD (some 38) (i := 11) (v := ?_) rfl rfl (by kernel_rfl) (by kernel_rfl) (by kernel_rfl) (fun _ _ _ h => h) (.inl ⟨by kernel_rfl, ?_⟩) hs ?_
        rotate_left
        · intro w' hw'; go_simp; try with_reducible rfl
        try simp only [Act.put, List.setIfInBounds_toArray, List.set_cons_zero, List.set_cons_succ]
        refine wpAnyH_all (rs := [12]) (by kernel_rfl) (by simp) ?_
        intro i hi; simp only [List.mem_singleton] at hi; subst hi
        refine wpOp_step rfl (fun K hK => ?_)
        go_simp
        refine hK _ _ ⟨trivial, ?_⟩
        try simp only [Act.put, List.setIfInBounds_toArray, List.set_cons_zero, List.set_cons_succ]
        clear hK K
        refine wpAnyH_takeD (some 3) (i := 13) (v := ?_) rfl rfl (by kernel_rfl) (by kernel_rfl) (by kernel_rfl) (fun _ _ _ h => h) (.inl ⟨by kernel_rfl, ?_⟩) hs ?_
        rotate_left
        · intro w' hw'; go_simp; try with_reducible rfl
        try simp only [Act.put, List.setIfInBounds_toArray, List.set_cons_zero, List.set_cons_succ]
        refine wpAnyH_done (by kernel_rfl) ?_ _
        go_wp2_with fail
        refine bodyPost_ret (v := .tuple #[.agg #[.int .i16 X, .int .i16 Y], .bool false]) (by simp [results, Tryd.results14, go_sem, d0, d1]) rfl ⟨X, Y, by rw [HRP.out]; rfl, ?_, b5⟩
        intro a b hab
        rw [HRP.out] at hab
        simp at hab
    | none =>
      rw [e2] at HRP
      have H2 := hid (fun W (h : LV W tS pS tR pR m) => p16_no ⟨c2.toArray⟩ s2 e2 W h)
      obtain ⟨C1, hC1⟩ : ∃ C, (⟨c1.toArray⟩ : ByteArray) = C := ⟨_, rfl⟩
      obtain ⟨C2, hC2⟩ : ∃ C, (⟨c2.toArray⟩ : ByteArray) = C := ⟨_, rfl⟩
      rw [hC1, hC2] at HCUT
      rw [hC1] at H1
      rw [hC2] at H2
      clear hC1 hC2 s1 s2 e1 e2
      cases ok with
      | true =>
        go_enter Tryd.func14, Tryd.ntmps14
        go_wp2_with fail
        refine (HCUT.out _ (HLV.out _ HBV.out)).mono ?_
        rintro e w1 ⟨rfl, d, rfl⟩
        have b1 := below_drewN HBV.out d
        have r1 := HRV.out.below (below_drewN (Below.refl _ _) d) HRV.out.lt
        obtain ⟨W1, hW1⟩ : ∃ X, X = (w.alloc (.cells #[.int .i16 0, .int .i16 0] 36)).drewN d := ⟨_, rfl⟩
        rw [← hW1] at b1 r1 ⊢
        clear hW1
        have B1 := hid b1; have R1 := hid r1
        clear b1 r1
        go_wp2_with fail
        refine (H1.out _ (HLV.out _ B1.out)).mono ?_
        rintro e w2 ⟨x1, T1, q1, rfl, hB⟩
        have B2 := hid (B1.out.trans (hB.mono B1.out.size))
        have R2 := hid (R1.out.below hB R1.out.lt)
        clear hB
        go_wp2_with fail
        refine (H2.out _ (HLV.out _ B2.out)).mono ?_
        rintro e w3 ⟨x2, T2, q2, rfl, hB⟩
        have B3 := hid (B2.out.trans (hB.mono B2.out.size))
        have R3 := hid (R2.out.below hB R2.out.lt)
        clear hB
        go_wp2_with fail
        have HP := hid (fun W => pairOfW_any x1 x2 W)
        obtain ⟨X, hX⟩ : ∃ z, IntKind.i16.wrap x1 = z := ⟨_, rfl⟩
        obtain ⟨Y, hY⟩ : ∃ z, IntKind.i16.wrap x2 = z := ⟨_, rfl⟩
        rw [hX, hY] at HP
        have HX := hid hX; have HY := hid hY
        clear hX hY
        refine wp_region_held (S := fun _ => True) (by kernel_rfl) ?_
        change wpAnyH _ _ _ _ _ _ _ _ (World.drew _)
        have hs : (fun _ : World => True) (World.drew w3) := trivial
        refine wpAnyH_takeD (some 27) (i := 0) (v := ?_) rfl rfl (by kernel_rfl) (by kernel_rfl) (by kernel_rfl) (fun _ _ _ h => h) (.inl ⟨by kernel_rfl, ?_⟩) hs ?_
        rotate_left
        · intro w' hw'; go_simp; try with_reducible rfl
        try simp only [Act.put, List.setIfInBounds_toArray, List.set_cons_zero, List.set_cons_succ]
        refine wpAnyH_takeD (some 28) (i := 1) (v := ?_) rfl rfl (by kernel_rfl) (by kernel_rfl) (by kernel_rfl) (fun _ _ _ h => h) (.inl ⟨by kernel_rfl, ?_⟩) hs ?_
        rotate_left
        · intro w' hw'; go_simp; try with_reducible rfl
        try simp only [Act.put, List.setIfInBounds_toArray, List.set_cons_zero, List.set_cons_succ]
        refine wpAnyH_takeD (some 30) (i := 3) (v := ?_) rfl rfl (by kernel_rfl) (by kernel_rfl) (by kernel_rfl) (fun _ _ _ h => h) (.inl ⟨by kernel_rfl, ?_⟩) hs ?_
        rotate_left
        · intro w' hw'; go_simp; try with_reducible rfl
        try simp only [Act.put, List.setIfInBounds_toArray, List.set_cons_zero, List.set_cons_succ]
        refine wpAnyH_all (rs := [2]) (by kernel_rfl) (by simp) ?_
        intro i hi; simp only [List.mem_singleton] at hi; subst hi
        refine wpOp_step rfl (fun K hK => ?_)
        go_simp
        with_reducible refine (HP.out _).mono ?_
        rintro e w4 ⟨rfl, hB4⟩
        have r4 := R3.out.below ((Below.refl _ w3).drew.trans hB4) R3.out.lt
        have B4 := B3.out.trans (((Below.refl _ w3).drew.trans hB4).mono B3.out.size)
        have c0 := r4.cell 0; have c1 := r4.cell 1; have f0 := r4.frozen 0; have f1 := r4.frozen 1
        simp only [List.getElem?_cons_zero, List.getElem?_cons_succ] at c0 c1
        have b5 := (B4.setCell (p := ⟨w.heap.size, 0, none⟩) (Nat.le_refl _) (.int .i16 X)).setCell (p := ⟨w.heap.size, 1, none⟩) (Nat.le_refl _) (.int .i16 Y)
        have r5 := (r4.set 0 (.int .i16 X)).set 1 (.int .i16 Y)
        have d0 := r5.cell 0; have d1 := r5.cell 1
        simp only [List.set_cons_zero, List.set_cons_succ, List.getElem?_cons_zero, List.getElem?_cons_succ] at d0 d1
        clear B4 r4 r5 hB4
        refine hK _ _ ⟨trivial, ?_⟩
        try simp only [Act.put, List.setIfInBounds_toArray, List.set_cons_zero, List.set_cons_succ]
        clear hK K
        have hs : (fun _ : World => True) w4 := trivial
        refine wpAnyH_takeD (some 31) (i := 4) (v := ?_) rfl rfl (by kernel_rfl) (by kernel_rfl) (by kernel_rfl) (fun _ _ _ h => h) (.inl ⟨by kernel_rfl, ?_⟩) hs ?_
        rotate_left
        · intro w' hw'; go_simp; try with_reducible rfl
        try simp only [Act.put, List.setIfInBounds_toArray, List.set_cons_zero, List.set_cons_succ]
        refine wpAnyH_takeD (some 32) (i := 5) (v := ?_) rfl rfl (by kernel_rfl) (by kernel_rfl) (by kernel_rfl) (fun _ _ _ h => h) (.inl ⟨by kernel_rfl, ?_⟩) hs ?_
        rotate_left
        · intro w' hw'; go_simp; try with_reducible rfl
        try simp only [Act.put, List.setIfInBounds_toArray, List.set_cons_zero, List.set_cons_succ]
        refine wpAnyH_takeD (some 33) (i := 6) (v := ?_) rfl rfl (by kernel_rfl) (by kernel_rfl) (by kernel_rfl) (fun _ _ _ h => h) (.inl ⟨by kernel_rfl, ?_⟩) hs ?_
        rotate_left
        · intro w' hw'; go_simp; try with_reducible rfl
        try simp only [Act.put, List.setIfInBounds_toArray, List.set_cons_zero, List.set_cons_succ]
        refine wpAnyH_takeD (some 34) (i := 7) (v := ?_) rfl rfl (by kernel_rfl) (by kernel_rfl) (by kernel_rfl) (fun _ _ _ h => h) (.inl ⟨by kernel_rfl, ?_⟩) hs ?_
        rotate_left
        · intro w' hw'; go_simp; try with_reducible rfl
        try simp only [Act.put, List.setIfInBounds_toArray, List.set_cons_zero, List.set_cons_succ]
        refine wpAnyH_takeD (some 35) (i := 8) (v := ?_) rfl rfl (by kernel_rfl) (by kernel_rfl) (by kernel_rfl) (fun _ _ _ h => h) (.inl ⟨by kernel_rfl, ?_⟩) hs ?_
        rotate_left
        · intro w' hw'; go_simp; try with_reducible rfl
        try simp only [Act.put, List.setIfInBounds_toArray, List.set_cons_zero, List.set_cons_succ]
        refine wpAnyH_takeD (some 36) (i := 9) (v := undef) rfl rfl (by kernel_rfl) (by kernel_rfl) (by kernel_rfl) (fun _ _ _ h => h) (.inr ⟨by kernel_rfl, rfl⟩) hs ?_
        try simp only [Act.put, List.setIfInBounds_toArray, List.set_cons_zero, List.set_cons_succ]
        refine wpAnyH_takeD (some 37) (i := 10) (v := undef) rfl rfl (by kernel_rfl) (by kernel_rfl) (by kernel_rfl) (fun _ _ _ h => h) (.inr ⟨by kernel_rfl, rfl⟩) hs ?_
        try simp only [Act.put, List.setIfInBounds_toArray, List.set_cons_zero, List.set_cons_succ]
        refine wpAnyH_takeD (some 38) (i := 11) (v := ?_) rfl rfl (by kernel_rfl) (by kernel_rfl) (by kernel_rfl) (fun _ _ _ h => h) (.inl ⟨by kernel_rfl, ?_⟩) hs ?_
        rotate_left
        · intro w' hw'; go_simp; try with_reducible rfl
        try simp only [Act.put, List.setIfInBounds_toArray, List.set_cons_zero, List.set_cons_succ]
        refine wpAnyH_all (rs := [12]) (by kernel_rfl) (by simp) ?_
        intro i hi; simp only [List.mem_singleton] at hi; subst hi
        refine wpOp_step rfl (fun K hK => ?_)
        go_simp
        refine hK _ _ ⟨trivial, ?_⟩
        try simp only [Act.put, List.setIfInBounds_toArray, List.set_cons_zero, List.set_cons_succ]
        clear hK K
        refine wpAnyH_takeD (some 3) (i := 13) (v := ?_) rfl rfl (by kernel_rfl) (by kernel_rfl) (by kernel_rfl) (fun _ _ _ h => h) (.inl ⟨by kernel_rfl, ?_⟩) hs ?_
        rotate_left
        · intro w' hw'; go_simp; try with_reducible rfl
        try simp only [Act.put, List.setIfInBounds_toArray, List.set_cons_zero, List.set_cons_succ]
        refine wpAnyH_done (by kernel_rfl) ?_ _
        go_wp2_with fail
        refine bodyPost_ret (v := .tuple #[.agg #[.int .i16 X, .int .i16 Y], .bool false]) (by simp [results, Tryd.results14, go_sem, d0, d1]) rfl ⟨X, Y, by rw [HRP.out]; rfl, ?_, b5⟩
        intro a b hab
        rw [HRP.out] at hab
        simp at hab
      | false =>
        go_enter Tryd.func14, Tryd.ntmps14
        go_wp2_with fail
        refine (HCUT.out _ (HLV.out _ HBV.out)).mono ?_
        rintro e w1 ⟨rfl, d, rfl⟩
        have b1 := below_drewN HBV.out d
        have r1 := HRV.out.below (below_drewN (Below.refl _ _) d) HRV.out.lt
        obtain ⟨W1, hW1⟩ : ∃ X, X = (w.alloc (.cells #[.int .i16 0, .int .i16 0] 36)).drewN d := ⟨_, rfl⟩
        rw [← hW1] at b1 r1 ⊢
        clear hW1
        have B1 := hid b1; have R1 := hid r1
        clear b1 r1
        go_wp2_with fail
        refine (H1.out _ (HLV.out _ B1.out)).mono ?_
        rintro e w2 ⟨x1, T1, q1, rfl, hB⟩
        have B2 := hid (B1.out.trans (hB.mono B1.out.size))
        have R2 := hid (R1.out.below hB R1.out.lt)
        clear hB
        go_wp2_with fail
        refine (H2.out _ (HLV.out _ B2.out)).mono ?_
        rintro e w3 ⟨x2, T2, q2, rfl, hB⟩
        have B3 := hid (B2.out.trans (hB.mono B2.out.size))
        have R3 := hid (R2.out.below hB R2.out.lt)
        clear hB
        go_wp2_with fail
        have HP := hid (fun W => pairOfW_any x1 x2 W)
        obtain ⟨X, hX⟩ : ∃ z, IntKind.i16.wrap x1 = z := ⟨_, rfl⟩
        obtain ⟨Y, hY⟩ : ∃ z, IntKind.i16.wrap x2 = z := ⟨_, rfl⟩
        rw [hX, hY] at HP
        have HX := hid hX; have HY := hid hY
        clear hX hY
        refine wp_region_held (S := fun _ => True) (by kernel_rfl) ?_
        change wpAnyH _ _ _ _ _ _ _ _ (World.drew _)
        have hs : (fun _ : World => True) (World.drew w3) := trivial
        refine wpAnyH_takeD (some 27) (i := 0) (v := ?_) rfl rfl (by kernel_rfl) (by kernel_rfl) (by kernel_rfl) (fun _ _ _ h => h) (.inl ⟨by kernel_rfl, ?_⟩) hs ?_
        rotate_left
        · intro w' hw'; go_simp; try with_reducible rfl
        try simp only [Act.put, List.setIfInBounds_toArray, List.set_cons_zero, List.set_cons_succ]
        refine wpAnyH_takeD (some 28) (i := 1) (v := ?_) rfl rfl (by kernel_rfl) (by kernel_rfl) (by kernel_rfl) (fun _ _ _ h => h) (.inl ⟨by kernel_rfl, ?_⟩) hs ?_
        rotate_left
        · intro w' hw'; go_simp; try with_reducible rfl
        try simp only [Act.put, List.setIfInBounds_toArray, List.set_cons_zero, List.set_cons_succ]
        refine wpAnyH_takeD (some 30) (i := 3) (v := ?_) rfl rfl (by kernel_rfl) (by kernel_rfl) (by kernel_rfl) (fun _ _ _ h => h) (.inl ⟨by kernel_rfl, ?_⟩) hs ?_
        rotate_left
        · intro w' hw'; go_simp; try with_reducible rfl
        try simp only [Act.put, List.setIfInBounds_toArray, List.set_cons_zero, List.set_cons_succ]
        refine wpAnyH_all (rs := [2]) (by kernel_rfl) (by simp) ?_
        intro i hi; simp only [List.mem_singleton] at hi; subst hi
        refine wpOp_step rfl (fun K hK => ?_)
        go_simp
        with_reducible refine (HP.out _).mono ?_
        rintro e w4 ⟨rfl, hB4⟩
        have r4 := R3.out.below ((Below.refl _ w3).drew.trans hB4) R3.out.lt
        have B4 := B3.out.trans (((Below.refl _ w3).drew.trans hB4).mono B3.out.size)
        have c0 := r4.cell 0; have c1 := r4.cell 1; have f0 := r4.frozen 0; have f1 := r4.frozen 1
        simp only [List.getElem?_cons_zero, List.getElem?_cons_succ] at c0 c1
        have b5 := (B4.setCell (p := ⟨w.heap.size, 0, none⟩) (Nat.le_refl _) (.int .i16 X)).setCell (p := ⟨w.heap.size, 1, none⟩) (Nat.le_refl _) (.int .i16 Y)
        have r5 := (r4.set 0 (.int .i16 X)).set 1 (.int .i16 Y)
        have d0 := r5.cell 0; have d1 := r5.cell 1
        simp only [List.set_cons_zero, List.set_cons_succ, List.getElem?_cons_zero, List.getElem?_cons_succ] at d0 d1
        clear B4 r4 r5 hB4
        refine hK _ _ ⟨trivial, ?_⟩
        try simp only [Act.put, List.setIfInBounds_toArray, List.set_cons_zero, List.set_cons_succ]
        clear hK K
        have hs : (fun _ : World => True) w4 := trivial
        refine wpAnyH_takeD (some 31) (i := 4) (v := ?_) rfl rfl (by kernel_rfl) (by kernel_rfl) (by kernel_rfl) (fun _ _ _ h => h) (.inl ⟨by kernel_rfl, ?_⟩) hs ?_
        rotate_left
        · intro w' hw'; go_simp; try with_reducible rfl
        try simp only [Act.put, List.setIfInBounds_toArray, List.set_cons_zero, List.set_cons_succ]
        refine wpAnyH_takeD (some 32) (i := 5) (v := undef) rfl rfl (by kernel_rfl) (by kernel_rfl) (by kernel_rfl) (fun _ _ _ h => h) (.inr ⟨by kernel_rfl, rfl⟩) hs ?_
        try simp only [Act.put, List.setIfInBounds_toArray, List.set_cons_zero, List.set_cons_succ]
        refine wpAnyH_takeD (some 33) (i := 6) (v := undef) rfl rfl (by kernel_rfl) (by kernel_rfl) (by kernel_rfl) (fun _ _ _ h => h) (.inr ⟨by kernel_rfl, rfl⟩) hs ?_
        try simp only [Act.put, List.setIfInBounds_toArray, List.set_cons_zero, List.set_cons_succ]
        refine wpAnyH_takeD (some 34) (i := 7) (v := ?_) rfl rfl (by kernel_rfl) (by kernel_rfl) (by kernel_rfl) (fun _ _ _ h => h) (.inl ⟨by kernel_rfl, ?_⟩) hs ?_
        rotate_left
        · intro w' hw'; go_simp; try with_reducible rfl
        try simp only [Act.put, List.setIfInBounds_toArray, List.set_cons_zero, List.set_cons_succ]
        refine wpAnyH_takeD (some 35) (i := 8) (v := ?_) rfl rfl (by kernel_rfl) (by kernel_rfl) (by kernel_rfl) (fun _ _ _ h => h) (.inl ⟨by kernel_rfl, ?_⟩) hs ?_
        rotate_left
        · intro w' hw'; go_simp; try with_reducible rfl
        try simp only [Act.put, List.setIfInBounds_toArray, List.set_cons_zero, List.set_cons_succ]
        refine wpAnyH_takeD (some 36) (i := 9) (v := undef) rfl rfl (by kernel_rfl) (by kernel_rfl) (by kernel_rfl) (fun _ _ _ h => h) (.inr ⟨by kernel_rfl, rfl⟩) hs ?_
        try simp only [Act.put, List.setIfInBounds_toArray, List.set_cons_zero, List.set_cons_succ]
        refine wpAnyH_takeD (some 37) (i := 10) (v := undef) rfl rfl (by kernel_rfl) (by kernel_rfl) (by kernel_rfl) (fun _ _ _ h => h) (.inr ⟨by kernel_rfl, rfl⟩) hs ?_
        try simp only [Act.put, List.setIfInBounds_toArray, List.set_cons_zero, List.set_cons_succ]
        refine wpAnyH_takeD (some 38) (i := 11) (v := ?_) rfl rfl (by kernel_rfl) (by kernel_rfl) (by kernel_rfl) (fun _ _ _ h => h) (.inl ⟨by kernel_rfl, ?_⟩) hs ?_
        rotate_left
        · intro w' hw'; go_simp; try with_reducible rfl
        try simp only [Act.put, List.setIfInBounds_toArray, List.set_cons_zero, List.set_cons_succ]
        refine wpAnyH_all (rs := [12]) (by kernel_rfl) (by simp) ?_
        intro i hi; simp only [List.mem_singleton] at hi; subst hi
        refine wpOp_step rfl (fun K hK => ?_)
        go_simp
        refine hK _ _ ⟨trivial, ?_⟩
        try simp only [Act.put, List.setIfInBounds_toArray, List.set_cons_zero, List.set_cons_succ]
        clear hK K
        refine wpAnyH_takeD (some 3) (i := 13) (v := ?_) rfl rfl (by kernel_rfl) (by kernel_rfl) (by kernel_rfl) (fun _ _ _ h => h) (.inl ⟨by kernel_rfl, ?_⟩) hs ?_
        rotate_left
        · intro w' hw'; go_simp; try with_reducible rfl
        try simp only [Act.put, List.setIfInBounds_toArray, List.set_cons_zero, List.set_cons_succ]
        refine wpAnyH_done (by kernel_rfl) ?_ _
        go_wp2_with fail
        refine bodyPost_ret (v := .tuple #[.agg #[.int .i16 X, .int .i16 Y], .bool false]) (by simp [results, Tryd.results14, go_sem, d0, d1]) rfl ⟨X, Y, by rw [HRP.out]; rfl, ?_, b5⟩
        intro a b hab
        rw [HRP.out] at hab
        simp at hab
end Go.Proofs.YtcbhlljgcndhdaaDoor
