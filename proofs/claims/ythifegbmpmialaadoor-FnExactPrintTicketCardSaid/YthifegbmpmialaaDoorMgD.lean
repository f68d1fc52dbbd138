/- Texts of this seat, merged: DvK DvL DvM DvN NextC Add OfS AddC AddS DvO DvP DvQ DvR DvS DvU DvV DvW Dx1 Dx2. -/
import Derived.Test.YthifegbmpmialaaDoorMgC

namespace Go.Proofs.YthifegbmpmialaaDoor
open Go.RowKit
set_option linter.unusedVariables false
set_option linter.unusedSimpArgs false
/-- what JournalOf gives -/
def JouR (c : Int) (X : List Value → Value → Int → World → Prop) (w : World) (e : Ending) (w' : World) : Prop :=
  ∃ dv nv l, e = .returned (.tuple #[nv, .int .i64 c]) ∧ nv.oneCell' = true ∧ X dv nv l w' ∧ Below w.heap.size w w'
set_option maxRecDepth 100000 in
set_option maxHeartbeats 8000000 in
theorem journal_of (B n cap : Nat) (zs ds : List Int) (pr : Int) (st : Bool) (tk : Int) (b N acap : Nat) (w : World) (c : Int) (hc : c = 0 ∨ c = 1 ∨ c = 2 ∨ c = 3 ∨ c = 4) (X : List Value → Value → Int → World → Prop) (hX : ∀ dv nv l W W', X dv nv l W → (∀ q, w.heap.size + 1 ≤ q → q < W.heap.size → W'.heap[q]? = W.heap[q]?) → W.heap.size ≤ W'.heap.size → X dv nv l W') (a0 a1 a2 a3 : Addr) (hSN : SN w a0 a1 a2 a3)
    (hR : ∀ W, Below w.heap.size w W → W.heap.size = w.heap.size + 1 → Calls Tryd.prog 52 #[.agg (dvC (.slice (some ⟨B, 0, none⟩) n cap) ds pr st tk).toArray, (.slice (some ⟨b, 0, none⟩) N acap)] W (RepR c X a0 a1 a2 a3 W)) :
    Calls Tryd.prog 32 #[.agg (dvC (.slice (some ⟨B, 0, none⟩) n cap) ds pr st tk).toArray, (.slice (some ⟨b, 0, none⟩) N acap)] w (JouR c X w) := by
  have hID : (Tryd.prog.info? 33).map (·.size) = some 12 := Tryd.infoDev
  have hIR : (Tryd.prog.info? 89).map (·.size) = some 14 := Tryd.infoRep
  obtain ⟨V, hV⟩ : ∃ V, V = w.alloc (.cells (dvC (.slice (some ⟨B, 0, none⟩) n cap) ds pr st tk).toArray 33) := ⟨_, rfl⟩
  have bV : Below w.heap.size w V := by rw [hV]; exact (Below.refl _ _).alloc (Nat.le_refl _) _
  have sV : V.heap.size = w.heap.size + 1 := by rw [hV]; simp
  have rP : Row V w.heap.size 33 (dvC (.slice (some ⟨B, 0, none⟩) n cap) ds pr st tk) := by rw [hV]; exact Row.new w _ _
  have sN := hSN.below bV trivial
  have HR := hid (hR V bV sV)
  have HV := hid hV; have HSN := hid hSN; have HSV := hid sV; have HX := hid hX; have HC := hid hc
  clear hSN hV sV hX hc hR
  go_enter Tryd.func32, Tryd.ntmps32
  go_wp2_with ((with_reducible refine wpList_load_row rfl 33 _ rfl w.heap.size ?_ 33 (dvC (.slice (some ⟨B, 0, none⟩) n cap) ds pr st tk).toArray (0, 0) _ ?_ Tryd.underlying33 ?_ ?_ ?_); rfl; (rw [← HV.out]; exact rP); rfl; exact hID)
  rw [← HV.out]
  refine HR.out.mono ?_
  rintro e w1 ⟨dv, nv, l, rfl, hd12, hone, hnv, hXX, hB1⟩
  have bW1 := bV.trans (hB1.mono bV.size)
  replace sN := sN.below hB1 trivial
  have hz1 := hB1.size
  have sV := HSV.out
  obtain ⟨V2, hV2⟩ : ∃ V2, V2 = w1.alloc (.cells #[.slice none 0 0, .int .u8 0, .int .u8 0, .int .u8 0, .int .u8 0, .int .u8 0, .int .u8 0, .int .u8 0, .int .u8 0, .int .i64 0, .bool false, .int .i64 0, .slice none 0 0, .int .i64 0] 89) := ⟨_, rfl⟩
  have r7 : Row V2 w1.heap.size 89 rpZ := by rw [hV2]; exact Row.new w1 _ _
  have bV2 : Below w1.heap.size w1 V2 := by rw [hV2]; exact (Below.refl _ _).alloc (Nat.le_refl _) _
  have T7 := r7.thereO 0 14 (by rw [rpZ_len]; omega)
  have T7' := T7
  rw [hV2] at T7'
  have HS14 := hid (show (rpC dv nv l).toArray.size = 14 by rw [List.size_toArray, rpC_length hd12])
  have hIR' : (Tryd.prog.info? 89).map (·.size) = some (rpC dv nv l).toArray.size := by rw [List.size_toArray, rpC_length hd12]; exact hIR
  obtain ⟨g7, hg7⟩ : ∃ y, w1.heap.size = y := ⟨_, rfl⟩
  have h7 : Row (V2.setCells w1.heap.size 0 (rpC dv nv l)) w1.heap.size 89 (rpC dv nv l) := r7.setAll (ys := rpC dv nv l) (by rw [rpC_length hd12, rpZ_len])
  have b7 : Below w1.heap.size w1 (V2.setCells w1.heap.size 0 (rpC dv nv l)) := below_setCellsD (g := w1.heap.size) (rpC dv nv l) 0 _ bV2 (Nat.le_refl _)
  have H7 := hid h7; have B7 := hid b7; have HO := hid hone; have HD := hid hd12; have HXX := hid hXX; have HNV := hid hnv; have BW1 := hid bW1; have SN1 := hid sN; have HV2 := hid hV2; have HZ1 := hid hz1; have HG7 := hid hg7
  clear h7 b7 r7 rP T7 bV2 bW1 sN hB1 hXX hz1 hV2 hg7 bV sV
  go_wp2_with ((with_reducible refine wpList_store_mid rfl 89 _ _ rfl w1.heap.size 0 (rpC dv nv l).toArray ?_ ?_ ?_ ?_ (all_oneCell_toArray (rpC_ones HO.out HNV.out)) ?_); rfl; rfl; (rw [HS14.out]; exact T7'); exact hIR')
  rw [← HV2.out]
  obtain ⟨W2, hW2⟩ : ∃ X, X = V2.setCells w1.heap.size 0 (rpC dv nv l) := ⟨_, rfl⟩
  have r7 := H7.out; have b7 := B7.out
  rw [← hW2] at r7 b7
  have hW2' : World.setCells V2 w1.heap.size 0 (rpC dv nv l).toArray.toList = W2 := hW2.symm
  first | rw [hW2'] | rw [← hW2]
  have hz := HZ1.out
  have hsv := HSV.out
  have sN := SN1.out.below b7 trivial
  have bW2 := BW1.out.trans (b7.mono BW1.out.size)
  have hsz2 := b7.size
  have HB7 := hid b7
  rw [HG7.out] at r7 hsz2 ⊢
  have hG7 := HG7.out
  clear hW2 hW2' H7 B7 SN1 T7' b7
  refine wp_region_held (S := fun W' : World => Row W' g7 89 (rpC dv nv l) ∧ SN W' a0 a1 a2 a3) (by kernel_rfl) ?_
  change wpAnyH _ _ _ _ _ _ _ _ (World.drew _)
  obtain ⟨W0, hW0⟩ : ∃ X, X = World.drew (W2) := ⟨_, rfl⟩
  have hD0 : Below (W2).heap.size (W2) W0 := by rw [hW0]; exact (Below.refl _ _).drew
  replace r7 := r7.below hD0 r7.lt
  replace sN := sN.below hD0 sN.1
  have bW0 := bW2.trans (hD0.mono bW2.size)
  have bR : Below W0.heap.size W0 W0 := Below.refl _ _
  rw [← hW0]
  have bR0 := hD0
  clear hW0 hD0
  have l_r7 := r7.lt
  have l_sN := sN.1
  have hS0 : (fun W' : World => Row W' g7 89 (rpC dv nv l) ∧ SN W' a0 a1 a2 a3) W0 := ⟨r7, sN⟩
  refine wpAnyH_takeD (some 14) (i := 0) (v := ?_) rfl rfl (by kernel_rfl) (by kernel_rfl) (by kernel_rfl) (fun _ _ _ h => h) (.inl ⟨by kernel_rfl, ?_⟩) hS0 ?_
  rotate_left
  · intro w' hw'; have e7 := rpC_notes hw'.1 HD.out; skip; clear hw'; go_simp; try with_reducible rfl
  try simp only [Act.put, List.setIfInBounds_toArray, List.set_cons_zero, List.set_cons_succ]
  refine wpAnyH_takeD (some 15) (i := 1) (v := ?_) rfl rfl (by kernel_rfl) (by kernel_rfl) (by kernel_rfl) (fun _ _ _ h => h) (.inl ⟨by kernel_rfl, ?_⟩) hS0 ?_
  rotate_left
  · intro w' hw'; have e7 := rpC_notes hw'.1 HD.out; skip; clear hw'; go_simp; try with_reducible rfl
  try simp only [Act.put, List.setIfInBounds_toArray, List.set_cons_zero, List.set_cons_succ]
  refine wpAnyH_takeD (some 16) (i := 2) (v := ?_) rfl rfl (by kernel_rfl) (by kernel_rfl) (by kernel_rfl) (fun _ _ _ h => h) (.inl ⟨by kernel_rfl, ?_⟩) hS0 ?_
  rotate_left
  · intro w' hw'; go_simp; try with_reducible rfl
  try simp only [Act.put, List.setIfInBounds_toArray, List.set_cons_zero, List.set_cons_succ]
  refine wpAnyH_all (rs := [3]) (by kernel_rfl) (by simp) ?_
  intro i hi; simp only [List.mem_cons, List.not_mem_nil, or_false] at hi
  subst hi
  refine wpOp_step rfl (fun K hK => ?_)
  go_simp
  with_reducible refine (codeBehind_any c HC.out a0 a1 a2 a3 W0 sN).mono ?_
  rintro e v1 ⟨rfl, hv1⟩; subst hv1
  have hS1 : (fun W' : World => Row W' g7 89 (rpC dv nv l) ∧ SN W' a0 a1 a2 a3) W0 := ⟨r7, sN⟩
  refine hK _ _ ⟨hS1, ?_⟩
  try simp only [Act.put, List.setIfInBounds_toArray, List.set_cons_zero, List.set_cons_succ]
  clear hK K hS0
  refine wpAnyH_takeD (some 4) (i := 4) (v := ?_) rfl rfl (by kernel_rfl) (by kernel_rfl) (by kernel_rfl) (fun _ _ _ h => h) (.inl ⟨by kernel_rfl, ?_⟩) hS1 ?_
  rotate_left
  · intro w' hw'; go_simp; try with_reducible rfl
  try simp only [Act.put, List.setIfInBounds_toArray, List.set_cons_zero, List.set_cons_succ]
  refine wpAnyH_takeD (some 5) (i := 5) (v := ?_) rfl rfl (by kernel_rfl) (by kernel_rfl) (by kernel_rfl) (fun _ _ _ h => h) (.inl ⟨by kernel_rfl, ?_⟩) hS1 ?_
  rotate_left
  · intro w' hw'; go_simp; try with_reducible rfl
  try simp only [Act.put, List.setIfInBounds_toArray, List.set_cons_zero, List.set_cons_succ]
  refine wpAnyH_done (by kernel_rfl) ?_ _
  have nB : Below w.heap.size w W0 := bW0.trans (bR.mono bW0.size)
  have nX : X dv nv l W0 := HX.out dv nv l w1 W0 HXX.out (fun q h1 h2 => (bR.block q (by have := bR0.size; have := HB7.out.size; omega)).trans ((bR0.block q (by have := HB7.out.size; omega)).trans (HB7.out.block q h2))) (Nat.le_trans HB7.out.size (Nat.le_trans bR0.size bR.size))
  go_wp2_with fail
  exact bodyPost_ret (v := .tuple #[nv, .int .i64 c]) (by simp [results, Tryd.results32, go_sem]) rfl ⟨dv, nv, l, rfl, HNV.out, nX, nB⟩
set_option maxRecDepth 100000 in
set_option maxHeartbeats 8000000 in
theorem doAct_of (B n cap : Nat) (zs ds : List Int) (pr : Int) (st : Bool) (tk : Int) (k x : Int) (w : World) (c : Int) (X : List Value → Value → Int → World → Prop) (hX : ∀ dv nv l W W', X dv nv l W → (∀ q, w.heap.size + 4 ≤ q → q < W.heap.size → W'.heap[q]? = W.heap[q]?) → W.heap.size ≤ W'.heap.size → X dv nv l W')
    (hR : ∀ W, Below w.heap.size w W → W.heap.size = w.heap.size + 4 → Ast W (w.heap.size + 1 + 1 + 1) [(k, x)] → Calls Tryd.prog 20 #[.agg (dvC (.slice (some ⟨B, 0, none⟩) n cap) ds pr st tk).toArray, .slice (some ⟨(w.heap.size + 1 + 1 + 1), 0, none⟩) 1 1] W fun e w' => ∃ dv nv l, e = .returned (.tuple #[.agg dv.toArray, .int .i64 l, .int .i64 c]) ∧ dv.length = 12 ∧ (∀ v ∈ dv, v.oneCell' = true) ∧ X dv nv l w' ∧ Below W.heap.size W w') :
    Calls Tryd.prog 13 #[.agg (dvC (.slice (some ⟨B, 0, none⟩) n cap) ds pr st tk).toArray, .agg #[.int .i8 k, .int .i64 x]] w fun e w' => ∃ dv nv l, e = .returned (.tuple #[.agg dv.toArray, .int .i64 l, .int .i64 c]) ∧ dv.length = 12 ∧ X dv nv l w' ∧ Below w.heap.size w w' := by
  have hID : (Tryd.prog.info? 33).map (·.size) = some 12 := Tryd.infoDev
  obtain ⟨V0, hV0⟩ : ∃ V, V = ((w.alloc (.cells (dvC (.slice (some ⟨B, 0, none⟩) n cap) ds pr st tk).toArray 33)).alloc (.cells #[.int .i8 k, .int .i64 x] 37)).alloc (.cells #[.slice none 0 0, .int .u8 0, .int .u8 0, .int .u8 0, .int .u8 0, .int .u8 0, .int .u8 0, .int .u8 0, .int .u8 0, .int .i64 0, .bool false, .int .i64 0] 33) := ⟨_, rfl⟩
  obtain ⟨V, hV⟩ : ∃ V, V = V0.alloc (.cells #[.int .i8 k, .int .i64 x] 37) := ⟨_, rfl⟩
  have bV0 : Below w.heap.size w V0 := by rw [hV0]; exact (((Below.refl _ _).alloc (Nat.le_refl _) _).alloc (by simp) _).alloc (by simp; omega) _
  have s0 : V0.heap.size = w.heap.size + 1 + 1 + 1 := by rw [hV0]; simp
  have rP : Row V0 w.heap.size 33 (dvC (.slice (some ⟨B, 0, none⟩) n cap) ds pr st tk) := by rw [hV0]; exact ((Row.new w _ _).alloc _).alloc _
  have rA : Row V0 (w.heap.size + 1) 37 [.int .i8 k, .int .i64 x] := by
    have h := Row.new (w.alloc (.cells (dvC (.slice (some ⟨B, 0, none⟩) n cap) ds pr st tk).toArray 33)) 37 [.int .i8 k, .int .i64 x]
    simp only [World.size_alloc] at h
    rw [hV0]; exact h.alloc _
  have rZ : Row V0 (w.heap.size + 1 + 1) 33 dvZ := by
    have h := Row.new ((w.alloc (.cells (dvC (.slice (some ⟨B, 0, none⟩) n cap) ds pr st tk).toArray 33)).alloc (.cells #[.int .i8 k, .int .i64 x] 37)) 33 dvZ
    simp only [World.size_alloc] at h
    rw [hV0]; exact h
  have bV : Below w.heap.size w V := by rw [hV]; exact bV0.alloc bV0.size _
  have sV : V.heap.size = w.heap.size + 4 := by rw [hV]; simp; omega
  have rS : Row V (w.heap.size + 1 + 1 + 1) 37 [.int .i8 k, .int .i64 x] := by
    have h := Row.new V0 37 [.int .i8 k, .int .i64 x]
    rw [s0] at h
    rw [hV]; exact h
  have rZ' : Row V (w.heap.size + 1 + 1) 33 dvZ := by rw [hV]; exact rZ.alloc _
  have sA : Ast V (w.heap.size + 1 + 1 + 1) [(k, x)] := ⟨rS.lt, fun j hj => by
    have hj0 : j = 0 := by simp at hj; omega
    subst hj0
    exact ⟨rS.cell 0, rS.cell 1⟩, by simp⟩
  have HR := hid (hR V bV sV sA)
  have e0 := rA.cell 0; have e1 := rA.cell 1
  simp only [List.getElem?_cons_zero, List.getElem?_cons_succ] at e0 e1
  rw [hV0] at rP e0 e1
  have HV0 := hid hV0; have HV := hid hV; have HX := hid hX; have HSV := hid sV; have HS0 := hid s0; have RZ := hid rZ'; have BV := hid bV
  clear hV0 hV hX sV s0 rZ rZ' bV bV0 rA rS sA hR
  go_enter Tryd.func13, Tryd.ntmps13
  go_wp2_with ((with_reducible refine wpList_load_row rfl 33 _ rfl w.heap.size ?_ 33 (dvC (.slice (some ⟨B, 0, none⟩) n cap) ds pr st tk).toArray (0, 0) _ ?_ Tryd.underlying33 ?_ ?_ ?_); rfl; exact rP; rfl; exact hID)
  rw [← HV0.out, ← HV.out]
  refine HR.out.mono ?_
  rintro e w1 ⟨dv, nv, l, rfl, hd12, hone, hXX, hB1⟩
  have hsv := HSV.out
  have hs1 := hB1.size
  have rZ := RZ.out.below hB1 RZ.out.lt
  have HS12 := hid (show dv.toArray.size = 12 by rw [List.size_toArray, hd12])
  have T4 : w1.there (w.heap.size + 1 + 1) 0 12 := rZ.thereO 0 12 (by rw [dvZ_len]; omega)
  have HID13 := hid (show (Tryd.prog.info? 33).map (·.size) = some dv.toArray.size by rw [List.size_toArray, hd12]; exact hID)
  have n4 : Row (w1.setCells (w.heap.size + 1 + 1) 0 dv) (w.heap.size + 1 + 1) 33 dv := rZ.setAll (by rw [hd12, dvZ_len])
  have nB : Below w.heap.size w (w1.setCells (w.heap.size + 1 + 1) 0 dv) := below_setCellsD dv 0 _ (BV.out.trans (hB1.mono BV.out.size)) (by omega)
  have nX : X dv nv l (w1.setCells (w.heap.size + 1 + 1) 0 dv) := HX.out dv nv l w1 _ hXX (fun q h1 h2 => other_setCellsD (g := (w.heap.size + 1 + 1)) (by omega) dv 0 w1) (by rw [size_setCellsD]; exact Nat.le_refl _)
  have N4 := hid n4; have NB := hid nB; have NX := hid nX; have HO := hid hone; have HD := hid hd12
  clear n4 nB nX hone hd12 hXX hB1 rZ hsv hs1
  go_wp2_with ((with_reducible refine wpList_store_mid rfl 33 _ _ rfl (w.heap.size + 1 + 1) 0 dv.toArray ?_ ?_ ?_ ?_ (all_oneCell_toArray HO.out) ?_); rfl; rfl; (rw [HS12.out]; exact T4); exact HID13.out)
  refine bodyPost_ret (v := .tuple #[.agg dv.toArray, .int .i64 l, .int .i64 c]) (results_css (p := 4) (q := 5) (r := 6) (fn := Tryd.f13) rfl _ _ _ _ _ _ _ _ rfl rfl rfl N4.out Tryd.underlying33 rfl HID13.out) rfl ⟨dv, nv, l, rfl, HD.out, NX.out, NB.out⟩
end Go.Proofs.YthifegbmpmialaaDoor

namespace Go.Proofs.YthifegbmpmialaaDoor
open Go.RowKit
set_option linter.unusedVariables false
set_option linter.unusedSimpArgs false
/-- what lies behind a replay's code: the device, the notes, what is lost; from block lo on -/
def XR (lo : Nat) (zs : List Int) (S : DS) (js : List (Int × Int)) (N : Nat) (c : Int) (dv : List Value) (nv : Value) (l : Int) (W : World) : Prop :=
  (c = 0 ∧ ∃ g cp rest base, dv = dvC (.slice (some ⟨g, 0, none⟩) zs.length cp) (dgL zs (stF (szL zs) S js N).1) (stF (szL zs) S js N).2.1 (stF (szL zs) S js N).2.2.1 (stF (szL zs) S js N).2.2.2 ∧ l = suF (szL zs) S js N ∧ Row W g 5 (zs.map (Value.int .u8) ++ rest) ∧ lo ≤ g ∧ g < base ∧ base ≤ W.heap.size ∧ W.ownsRow base 87 11 nv N (ntL (szL zs) zs S js N)) ∨
  (c ≠ 0 ∧ dv = dvZ ∧ nv = .slice none 0 0 ∧ l = 0)
theorem owns_keepL {w w' : World} {base size n lo : Nat} {e : TypeId} {v : Value} {xs : List Value} (h : w.ownsRow base e size v n xs) (hl : lo ≤ base) (hk : ∀ q, lo ≤ q → q < w.heap.size → w'.heap[q]? = w.heap[q]?) : w'.ownsRow base e size v n xs := by
  obtain ⟨h1, h2 | ⟨g, cap, cur, e1, e2, e3, e4⟩⟩ := h
  · exact ⟨h1, .inl h2⟩
  · exact ⟨h1, .inr ⟨g, cap, cur, e1, e2, (hk g (by omega) (Array.getElem?_eq_some_iff.1 e3).1).trans e3, e4⟩⟩
theorem XR.keep {lo : Nat} {zs : List Int} {S : DS} {js : List (Int × Int)} {N : Nat} {c : Int} {dv : List Value} {nv : Value} {l : Int} {W W' : World} (h : XR lo zs S js N c dv nv l W) (hk : ∀ q, lo ≤ q → q < W.heap.size → W'.heap[q]? = W.heap[q]?) (hs : W.heap.size ≤ W'.heap.size) : XR lo zs S js N c dv nv l W' := by
  rcases h with ⟨hc, g, cp, rest, base, e1, e2, e3, e4, e5, e6, e7⟩ | h
  · exact .inl ⟨hc, g, cp, rest, base, e1, e2, (hk g e4 e3.lt).trans e3, e4, e5, by omega, owns_keepL e7 (by omega) hk⟩
  · exact .inr h
theorem XR.mono {lo lo' : Nat} {zs : List Int} {S : DS} {js : List (Int × Int)} {N : Nat} {c : Int} {dv : List Value} {nv : Value} {l : Int} {W : World} (h : XR lo zs S js N c dv nv l W) (hl : lo' ≤ lo) : XR lo' zs S js N c dv nv l W := by
  rcases h with ⟨hc, g, cp, rest, base, e1, e2, e3, e4, e5, e6, e7⟩ | h
  · exact .inl ⟨hc, g, cp, rest, base, e1, e2, e3, by omega, e5, e6, e7⟩
  · exact .inr h
theorem cdF_code {z : Int} {S : DS} {js : List (Int × Int)} (k : Nat) : cdF z S js k = 0 ∨ cdF z S js k = 2 ∨ cdF z S js k = 4 := actF_code _ _
theorem rpF_code {z : Int} {S : DS} {js : List (Int × Int)} : ∀ k, rpF z S js k = 0 ∨ rpF z S js k = 2 ∨ rpF z S js k = 4
  | 0 => .inl rfl
  | k + 1 => by
    rw [rpF]
    split
    · exact rpF_code k
    · exact cdF_code k
theorem rpE_code {z : Int} {S : DS} {js : List (Int × Int)} (N : Nat) : rpE z S js N = 0 ∨ rpE z S js N = 2 ∨ rpE z S js N = 4 := by
  rw [rpE]
  split
  · exact rpF_code N
  · split
    · exact .inr (.inl rfl)
    · exact .inl rfl
/-- the code of a replay -/
def rcode (zs ds : List Int) (v pr : Int) (st : Bool) (tk : Int) (js : List (Int × Int)) (N : Nat) : Int :=
  if okDev zs ds pr st tk = false then 1 else if okAs js = false then 1 else if 60 < N then 3 else rpE (szL zs) (v, pr, st, tk) js N
theorem rcode_code (zs ds : List Int) (v pr : Int) (st : Bool) (tk : Int) (js : List (Int × Int)) (N : Nat) : rcode zs ds v pr st tk js N = 0 ∨ rcode zs ds v pr st tk js N = 1 ∨ rcode zs ds v pr st tk js N = 2 ∨ rcode zs ds v pr st tk js N = 3 ∨ rcode zs ds v pr st tk js N = 4 := by
  rw [rcode]
  split
  · exact .inr (.inl rfl)
  · split
    · exact .inr (.inl rfl)
    · split
      · exact .inr (.inr (.inr (.inl rfl)))
      · rcases rpE_code (z := (szL zs)) (S := (v, pr, st, tk)) (js := js) N with h | h | h <;> rw [h] <;> simp
theorem dvZ_ones : ∀ v ∈ dvZ, v.oneCell' = true := by
  intro v hv
  simp only [dvZ, List.mem_cons, List.not_mem_nil, or_false] at hv
  rcases hv with rfl | rfl | rfl | rfl | rfl | rfl | rfl | rfl | rfl | rfl | rfl | rfl <;> rfl
theorem rep_bad {c c' : Int} {lo : Nat} {zs : List Int} {S : DS} {js : List (Int × Int)} {N : Nat} {a0 a1 a2 a3 : Addr} {w w' : World} {e : Ending} (hc : c = c') (h0 : c ≠ 0) (h : e = .returned (.tuple #[.agg rpZ.toArray, errV c a0 a1 a2 a3]) ∧ Below w.heap.size w w') : RepR c' (XR lo zs S js N c') a0 a1 a2 a3 w e w' := by
  subst hc
  exact ⟨dvZ, .slice none 0 0, 0, h.1, dvZ_len, dvZ_ones, rfl, .inr ⟨h0, rfl, rfl, rfl⟩, h.2⟩
set_option maxRecDepth 100000 in
set_option maxHeartbeats 8000000 in
theorem replay_any (B n cap : Nat) (zs ds : List Int) (v pr : Int) (st : Bool) (tk : Int) (b N acap : Nat) (js : List (Int × Int)) (w : World) (hS : Stk w B zs) (hn : n = zs.length) (hz255 : ∀ z ∈ zs, 0 ≤ z ∧ z ≤ 255) (hd8 : ds.length = 8) (ho : Oct (dg ds 0) (dg ds 1) (dg ds 2) (dg ds 3) (dg ds 4) (dg ds 5) (dg ds 6) (dg ds 7)) (hvv : okDev zs ds pr st tk = true → ds = dgL zs v ∧ okS (szL zs) (v, pr, st, tk)) (hA : Ast w b js) (hN : N = js.length) (a0 a1 a2 a3 : Addr) (hSN : SN w a0 a1 a2 a3) :
    Calls Tryd.prog 52 #[.agg (dvC (.slice (some ⟨B, 0, none⟩) n cap) ds pr st tk).toArray, (.slice (some ⟨b, 0, none⟩) N acap)] w (RepR (rcode zs ds v pr st tk js N) (XR w.heap.size zs (v, pr, st, tk) js N (rcode zs ds v pr st tk js N)) a0 a1 a2 a3 w) := by
  cases hv : okDev zs ds pr st tk with
  | false =>
    refine (replay_dev B n cap zs ds pr st tk b N acap js w hS hn hd8 ho hA hN a0 a1 a2 a3 hSN hv).mono ?_
    intro e w' h
    exact rep_bad (c := 1) (by rw [rcode, if_pos hv]) (by decide) h
  | true =>
    have hv' : ¬ okDev zs ds pr st tk = false := by rw [hv]; decide
    cases hb : okAs js with
    | false =>
      refine (replay_bad B n cap zs ds pr st tk b N acap js w hS hn hd8 ho hA hN a0 a1 a2 a3 hSN hv hb).mono ?_
      intro e w' h
      exact rep_bad (c := 1) (by rw [rcode, if_neg hv', if_pos hb]) (by decide) h
    | true =>
      have hb' : ¬ okAs js = false := by rw [hb]; decide
      by_cases h60 : 60 < N
      · refine (replay_long B n cap zs ds pr st tk b N acap js w hS hn hd8 ho hA hN a0 a1 a2 a3 hSN hv hb h60).mono ?_
        intro e w' h
        exact rep_bad (c := 3) (by rw [rcode, if_neg hv', if_neg hb', if_pos h60]) (by decide) h
      · obtain ⟨rfl, hok⟩ := hvv hv
        refine (replay_go B n cap zs v pr st tk b N acap js w hS hn hz255 hv hok hA hN hb (by omega) a0 a1 a2 a3 hSN).mono ?_
        rintro e w' ⟨h, hB⟩
        have hr : rpE (szL zs) (v, pr, st, tk) js N = rcode zs (dgL zs v) v pr st tk js N := by rw [rcode, if_neg hv', if_neg hb', if_neg h60]
        rw [hr] at h
        rcases h with ⟨hc, g, cp, rest, nv, base, rfl, h1, h2, h3, h4, h5⟩ | ⟨hc, rfl⟩
        · refine ⟨_, nv, _, ?_, rfl, dvC_one _ _ _ _ _ _ _, owns_one h5, .inl ⟨hc, g, cp, rest, base, rfl, rfl, h1, h2, h3, h4, h5⟩, hB⟩
          rw [hc]; rfl
        · exact ⟨dvZ, .slice none 0 0, 0, rfl, dvZ_len, dvZ_ones, rfl, .inr ⟨hc, rfl, rfl, rfl⟩, hB⟩
end Go.Proofs.YthifegbmpmialaaDoor

namespace Go.Proofs.YthifegbmpmialaaDoor
open Go.RowKit
set_option linter.unusedVariables false
set_option linter.unusedSimpArgs false
/-- what DoActs and DoAct give -/
def DoR (zs ds : List Int) (v pr : Int) (st : Bool) (tk : Int) (js : List (Int × Int)) (N : Nat) (w : World) (e : Ending) (w' : World) : Prop :=
  ∃ dv nv l, e = .returned (.tuple #[.agg dv.toArray, .int .i64 l, .int .i64 (rcode zs ds v pr st tk js N)]) ∧ dv.length = 12 ∧ (∀ v ∈ dv, v.oneCell' = true) ∧ XR w.heap.size zs (v, pr, st, tk) js N (rcode zs ds v pr st tk js N) dv nv l w' ∧ Below w.heap.size w w'
theorem doActs_at (lo : Nat) (B n cap : Nat) (zs ds : List Int) (v pr : Int) (st : Bool) (tk : Int) (b N acap : Nat) (js : List (Int × Int)) (w : World) (hS : Stk w B zs) (hn : n = zs.length) (hz255 : ∀ z ∈ zs, 0 ≤ z ∧ z ≤ 255) (hd8 : ds.length = 8) (ho : Oct (dg ds 0) (dg ds 1) (dg ds 2) (dg ds 3) (dg ds 4) (dg ds 5) (dg ds 6) (dg ds 7)) (hvv : okDev zs ds pr st tk = true → ds = dgL zs v ∧ okS (szL zs) (v, pr, st, tk)) (hA : Ast w b js) (hN : N = js.length) (a0 a1 a2 a3 : Addr) (hSN : SN w a0 a1 a2 a3) (hlo : lo ≤ w.heap.size + 2) :
    Calls Tryd.prog 20 #[.agg (dvC (.slice (some ⟨B, 0, none⟩) n cap) ds pr st tk).toArray, (.slice (some ⟨b, 0, none⟩) N acap)] w fun e w' => ∃ dv nv l, e = .returned (.tuple #[.agg dv.toArray, .int .i64 l, .int .i64 (rcode zs ds v pr st tk js N)]) ∧ dv.length = 12 ∧ (∀ v ∈ dv, v.oneCell' = true) ∧ XR (w.heap.size + 2) zs (v, pr, st, tk) js N (rcode zs ds v pr st tk js N) dv nv l w' ∧ Below w.heap.size w w' := by
  refine doActs_of B n cap zs ds pr st tk b N acap w (rcode zs ds v pr st tk js N) (rcode_code zs ds v pr st tk js N) (XR (w.heap.size + 2) zs (v, pr, st, tk) js N (rcode zs ds v pr st tk js N)) (fun dv nv l W W' h hk hs => h.keep hk hs) a0 a1 a2 a3 hSN ?_
  intro W hB hs
  have h := replay_any B n cap zs ds v pr st tk b N acap js W (hS.below hB hS.1) hn hz255 hd8 ho hvv (hA.below hB hA.1) hN a0 a1 a2 a3 (hSN.below hB trivial)
  rw [hs] at h
  exact h
theorem doActs_any (B n cap : Nat) (zs ds : List Int) (v pr : Int) (st : Bool) (tk : Int) (b N acap : Nat) (js : List (Int × Int)) (w : World) (hS : Stk w B zs) (hn : n = zs.length) (hz255 : ∀ z ∈ zs, 0 ≤ z ∧ z ≤ 255) (hd8 : ds.length = 8) (ho : Oct (dg ds 0) (dg ds 1) (dg ds 2) (dg ds 3) (dg ds 4) (dg ds 5) (dg ds 6) (dg ds 7)) (hvv : okDev zs ds pr st tk = true → ds = dgL zs v ∧ okS (szL zs) (v, pr, st, tk)) (hA : Ast w b js) (hN : N = js.length) (a0 a1 a2 a3 : Addr) (hSN : SN w a0 a1 a2 a3) :
    Calls Tryd.prog 20 #[.agg (dvC (.slice (some ⟨B, 0, none⟩) n cap) ds pr st tk).toArray, (.slice (some ⟨b, 0, none⟩) N acap)] w (DoR zs ds v pr st tk js N w) := by
  refine (doActs_at w.heap.size B n cap zs ds v pr st tk b N acap js w hS hn hz255 hd8 ho hvv hA hN a0 a1 a2 a3 hSN (by omega)).mono ?_
  rintro e w' ⟨dv, nv, l, rfl, h1, h2, h3, h4⟩
  exact ⟨dv, nv, l, rfl, h1, h2, h3.mono (by omega), h4⟩
theorem doAct_any (B n cap : Nat) (zs ds : List Int) (v pr : Int) (st : Bool) (tk : Int) (k x : Int) (w : World) (hS : Stk w B zs) (hn : n = zs.length) (hz255 : ∀ z ∈ zs, 0 ≤ z ∧ z ≤ 255) (hd8 : ds.length = 8) (ho : Oct (dg ds 0) (dg ds 1) (dg ds 2) (dg ds 3) (dg ds 4) (dg ds 5) (dg ds 6) (dg ds 7)) (hvv : okDev zs ds pr st tk = true → ds = dgL zs v ∧ okS (szL zs) (v, pr, st, tk)) (a0 a1 a2 a3 : Addr) (hSN : SN w a0 a1 a2 a3) :
    Calls Tryd.prog 13 #[.agg (dvC (.slice (some ⟨B, 0, none⟩) n cap) ds pr st tk).toArray, .agg #[.int .i8 k, .int .i64 x]] w fun e w' => ∃ dv nv l, e = .returned (.tuple #[.agg dv.toArray, .int .i64 l, .int .i64 (rcode zs ds v pr st tk [(k, x)] 1)]) ∧ dv.length = 12 ∧ XR w.heap.size zs (v, pr, st, tk) [(k, x)] 1 (rcode zs ds v pr st tk [(k, x)] 1) dv nv l w' ∧ Below w.heap.size w w' := by
  refine (doAct_of B n cap zs ds pr st tk k x w (rcode zs ds v pr st tk [(k, x)] 1) (XR (w.heap.size + 4) zs (v, pr, st, tk) [(k, x)] 1 (rcode zs ds v pr st tk [(k, x)] 1)) (fun dv nv l W W' h hk hs => h.keep hk hs) ?_).mono ?_
  · intro W hB hs hA
    refine (doActs_any B n cap zs ds v pr st tk (w.heap.size + 1 + 1 + 1) 1 1 [(k, x)] W (hS.below hB hS.1) hn hz255 hd8 ho hvv hA rfl a0 a1 a2 a3 (hSN.below hB trivial)).mono ?_
    rintro e w' ⟨dv, nv, l, rfl, h1, h2, h3, h4⟩
    exact ⟨dv, nv, l, rfl, h1, h2, h3.mono (by omega), h4⟩
  · rintro e w' ⟨dv, nv, l, rfl, h1, h3, h4⟩
    exact ⟨dv, nv, l, rfl, h1, h3.mono (by omega), h4⟩
theorem implJournal_any (B n cap : Nat) (zs ds : List Int) (v pr : Int) (st : Bool) (tk : Int) (b N acap : Nat) (js : List (Int × Int)) (w : World) (hS : Stk w B zs) (hn : n = zs.length) (hz255 : ∀ z ∈ zs, 0 ≤ z ∧ z ≤ 255) (hd8 : ds.length = 8) (ho : Oct (dg ds 0) (dg ds 1) (dg ds 2) (dg ds 3) (dg ds 4) (dg ds 5) (dg ds 6) (dg ds 7)) (hvv : okDev zs ds pr st tk = true → ds = dgL zs v ∧ okS (szL zs) (v, pr, st, tk)) (hA : Ast w b js) (hN : N = js.length) (a0 a1 a2 a3 : Addr) (hSN : SN w a0 a1 a2 a3) :
    Calls Tryd.prog 32 #[.agg (dvC (.slice (some ⟨B, 0, none⟩) n cap) ds pr st tk).toArray, (.slice (some ⟨b, 0, none⟩) N acap)] w (JouR (rcode zs ds v pr st tk js N) (XR w.heap.size zs (v, pr, st, tk) js N (rcode zs ds v pr st tk js N)) w) := by
  refine (journal_of B n cap zs ds pr st tk b N acap w (rcode zs ds v pr st tk js N) (rcode_code zs ds v pr st tk js N) (XR (w.heap.size + 1) zs (v, pr, st, tk) js N (rcode zs ds v pr st tk js N)) (fun dv nv l W W' h hk hs => h.keep hk hs) a0 a1 a2 a3 hSN ?_).mono ?_
  · intro W hB hs
    have h := replay_any B n cap zs ds v pr st tk b N acap js W (hS.below hB hS.1) hn hz255 hd8 ho hvv (hA.below hB hA.1) hN a0 a1 a2 a3 (hSN.below hB trivial)
    rw [hs] at h
    exact h
  · rintro e w' ⟨dv, nv, l, rfl, h1, h3, h4⟩
    exact ⟨dv, nv, l, rfl, h1, h3.mono (by omega), h4⟩
end Go.Proofs.YthifegbmpmialaaDoor

namespace Go.Proofs.YthifegbmpmialaaDoor
open Go.RowKit
set_option linter.unusedVariables false
set_option linter.unusedSimpArgs false
theorem results_c {fn : Func} {P : Program} {p : Tmp} {ty : TypeId} (h : fn.results = #[.cell p ty]) (tmps : Array Value) (w : World) (g : Nat) (t : TypeId) (cs : Array Value) (d : TypeDesc)
    (hp : tmps.getD p undef = .pointer (some ⟨g, 0, none⟩)) (hg : w.heap[g]? = some (.cells cs t (0, 0)))
    (hu : P.underlying ty = some d) (hd : (match d with | .struct _ | .array _ _ => true | _ => false) = true) (hi : (P.info? ty).map (·.size) = some cs.size) :
    (results fn tmps).run P w = .ok (.agg cs) w := by
  have hp' : tmps[p]?.getD undef = .pointer (some ⟨g, 0, none⟩) := by simpa using hp
  simp [results, h, hp', asAddr, run_loadVar_row w g t ty cs (0, 0) d hg hu hd hi]
/-- a row that is owned, of bytes, not empty -/
theorem owned_bytes {w : World} {base n : Nat} {v : Value} {zs : List Int} (h : w.ownsRow base 5 1 v n (zs.map (Value.int .u8))) (hn : 1 ≤ n) : ∃ g cp rest, v = .slice (some ⟨g, 0, none⟩) n cp ∧ base ≤ g ∧ Row w g 5 (zs.map (Value.int .u8) ++ rest) := by
  obtain ⟨h1, ⟨_, h2⟩ | ⟨g, cap, cur, e1, e2, e3, e4, e5, e6, e7⟩⟩ := h
  · omega
  · refine ⟨g, cap, cur.toList.drop (n * 1), e1, e2, ?_⟩
    rw [← e7, List.take_append_drop]
    exact e3
set_option maxRecDepth 100000 in
set_option maxHeartbeats 8000000 in
theorem l07Copy_any (D B n cap : Nat) (zs ds : List Int) (pr : Int) (st : Bool) (tk : Int) (w : World) (hD : Row w D 33 (dvC (.slice (some ⟨B, 0, none⟩) n cap) ds pr st tk)) (hS : Stk w B zs) (hn : n = zs.length) (hz1 : 1 ≤ zs.length) (hz8 : zs.length ≤ 8) :
    Calls Tryd.prog 43 #[.pointer (some ⟨D, 0, none⟩)] w fun e w' => ∃ g cp rest, e = .returned (.agg (dvC (.slice (some ⟨g, 0, none⟩) n cp) ds pr st tk).toArray) ∧ Row w' g 5 (zs.map (Value.int .u8) ++ rest) ∧ w.heap.size ≤ g ∧ Below w.heap.size w w' := by
  have hID : (Tryd.prog.info? 33).map (·.size) = some 12 := Tryd.infoDev
  obtain ⟨i0, hi, iz0, iz1, iz2⟩ := info_parts Tryd.infoU8
  have lD := hD.lt
  have lB := hS.1
  have d1 : Row (w.alloc (.cells #[.slice none 0 0, .int .u8 0, .int .u8 0, .int .u8 0, .int .u8 0, .int .u8 0, .int .u8 0, .int .u8 0, .int .u8 0, .int .i64 0, .bool false, .int .i64 0] 33)) D 33 (dvC (.slice (some ⟨B, 0, none⟩) n cap) ds pr st tk) := hD.alloc _
  obtain ⟨V1, hV1⟩ : ∃ V, V = (w.alloc (.cells #[.slice none 0 0, .int .u8 0, .int .u8 0, .int .u8 0, .int .u8 0, .int .u8 0, .int .u8 0, .int .u8 0, .int .u8 0, .int .i64 0, .bool false, .int .i64 0] 33)).alloc (.cells #[.slice none 0 0, .int .u8 0, .int .u8 0, .int .u8 0, .int .u8 0, .int .u8 0, .int .u8 0, .int .u8 0, .int .u8 0, .int .i64 0, .bool false, .int .i64 0] 33) := ⟨_, rfl⟩
  have bV1 : Below w.heap.size w V1 := by rw [hV1]; exact ((Below.refl _ _).alloc (Nat.le_refl _) _).alloc (by simp) _
  have s1 : V1.heap.size = w.heap.size + 1 + 1 := by rw [hV1]; simp
  have r2 : Row V1 w.heap.size 33 dvZ := by rw [hV1]; exact (Row.new w _ dvZ).alloc _
  have r3 : Row V1 (w.heap.size + 1) 33 dvZ := by
    have h := Row.new (w.alloc (.cells #[.slice none 0 0, .int .u8 0, .int .u8 0, .int .u8 0, .int .u8 0, .int .u8 0, .int .u8 0, .int .u8 0, .int .u8 0, .int .i64 0, .bool false, .int .i64 0] 33)) 33 dvZ
    simp only [World.size_alloc] at h
    rw [hV1]; exact h
  have T3 := r3.thereO 0 12 (by rw [dvZ_len]; omega)
  rw [hV1] at T3
  obtain ⟨W2, hW2⟩ : ∃ X, X = V1.setCells (w.heap.size + 1) 0 (dvC (.slice (some ⟨B, 0, none⟩) n cap) ds pr st tk) := ⟨_, rfl⟩
  have q2 : Row W2 w.heap.size 33 dvZ := by rw [hW2]; exact r2.setCellsO (by omega) _ _
  have q3 : Row W2 (w.heap.size + 1) 33 (dvC (.slice (some ⟨B, 0, none⟩) n cap) ds pr st tk) := by rw [hW2]; exact r3.setAll (ys := (dvC (.slice (some ⟨B, 0, none⟩) n cap) ds pr st tk)) (by rw [dvC_len, dvZ_len])
  have b2 : Below w.heap.size w W2 := by rw [hW2]; exact below_setCellsD (dvC (.slice (some ⟨B, 0, none⟩) n cap) ds pr st tk) 0 _ bV1 (by omega)
  have s2 : W2.heap.size = w.heap.size + 1 + 1 := by rw [hW2, size_setCellsD, s1]
  have qD : Row W2 D 33 (dvC (.slice (some ⟨B, 0, none⟩) n cap) ds pr st tk) := hD.below b2 lD
  have qS := hS.below b2 lB
  have HO := hid (show (W2.alloc (.cells #[] 5)).ownsRow (w.heap.size + 2) 5 1 (.slice (some ⟨W2.heap.size, 0, none⟩) 0 0) 0 [] from World.ownsRow_made W2 #[] 0 (by omega) (by decide) rfl)
  have A2 := hid (q2.alloc (.cells #[] 5)); have A3 := hid (q3.alloc (.cells #[] 5)); have AB := hid (b2.alloc b2.size (.cells #[] 5))
  have a3 := A3.out
  have cD : (W2.alloc (.cells #[] 5)).cell? ⟨D, 0, none⟩ = some (.slice (some ⟨B, 0, none⟩) n cap) := (qD.alloc (.cells #[] 5)).cell 0
  have HN := hid (fun (j : Nat) (u : Value) (hj : (zs.map (Value.int .u8))[j]? = some u) => show (W2.alloc (.cells #[] 5)).cell? ((⟨B, 0, none⟩ : Addr).add j) = some u from by
    have hl : j < zs.length := by have := (List.getElem?_eq_some_iff.1 hj).1; simpa using this
    have h := (qS.below ((Below.refl W2.heap.size W2).alloc (Nat.le_refl _) (.cells #[] 5)) qS.1).2.1 j hl
    rw [show (⟨B, 0, none⟩ : Addr).add j = ⟨B, j, none⟩ from by unfold Addr.add; split <;> simp_all, h]
    rw [← hj]; simp [hl, getElem!_def])
  have HONE := hid (show ∀ u ∈ (zs.map (Value.int .u8)), u.oneCell' = true from by
    intro u hu
    obtain ⟨z, _, rfl⟩ := List.mem_map.1 hu
    rfl)
  have HBW := hid (show w.heap.size + 2 ≤ (W2.alloc (.cells #[] 5)).heap.size by simp; omega)
  have HL := hid (show (zs.map (Value.int .u8)).length = n * 1 by simp; omega)
  have HS2 := hid s2; have HW2 := hid hW2; have HV1 := hid hV1; have HLD := hid lD; have HZ := hid (show 1 ≤ n ∧ n ≤ 8 by omega)
  have hn8 : n ≤ 8 := HZ.out.2
  clear hD hS bV1 r2 r3 q2 q3 b2 s2 s1 qD qS hW2 hV1 lD lB hn hz1 hz8 a3
  go_enter Tryd.func43, Tryd.ntmps43
  go_upto_region 2 with (first | ((with_reducible refine wpList_load_row rfl 33 _ rfl D ?_ 33 (dvC (.slice (some ⟨B, 0, none⟩) n cap) ds pr st tk).toArray (0, 0) _ ?_ Tryd.underlying33 ?_ ?_ ?_); rfl; exact d1; rfl; exact hID) | ((with_reducible refine wpList_store_mid rfl 33 _ _ rfl (w.heap.size + 1) 0 (dvC (.slice (some ⟨B, 0, none⟩) n cap) ds pr st tk).toArray ?_ ?_ ?_ ?_ (all_oneCell_toArray (dvC_one _ _ _ _ _ _ _)) ?_); rfl; rfl; exact T3; exact hID))
  have hW2' : World.setCells ((w.alloc (.cells #[.slice none 0 0, .int .u8 0, .int .u8 0, .int .u8 0, .int .u8 0, .int .u8 0, .int .u8 0, .int .u8 0, .int .u8 0, .int .i64 0, .bool false, .int .i64 0] 33)).alloc (.cells #[.slice none 0 0, .int .u8 0, .int .u8 0, .int .u8 0, .int .u8 0, .int .u8 0, .int .u8 0, .int .u8 0, .int .u8 0, .int .i64 0, .bool false, .int .i64 0] 33)) (w.heap.size + 1) 0 (dvC (.slice (some ⟨B, 0, none⟩) n cap) ds pr st tk).toArray.toList = W2 := by rw [← HV1.out]; exact HW2.out.symm
  rw [hW2']
  clear hW2' T3 d1
  go_upto_region 3 with (at_builtin; refine wpList_append_own _ rfl _ _ 30 rfl (w.heap.size + 2) 5 i0 (.int .u8 0) 1 1 Tryd.underlying30 hi iz0 iz1 iz2 rfl (by decide) _ _ _ rfl HO.out ⟨B, 0, none⟩ n cap (zs.map (Value.int .u8)) rfl HL.out HN.out HONE.out (by unfold maxLen; omega) (by omega) HBW.out ?_; rintro v' w4 hown' hgrow -; have x3 := A3.out.grown' hgrow (owns_lt HO.out (by omega)); have c3 : w4.cell? ⟨(w.heap.size + 1), 0, none⟩ = some (.slice (some ⟨B, 0, none⟩) n cap) := x3.cell 0; have f3 := x3.frozen 0; have OWN := hid hown'; obtain ⟨ga, na, ca, hva⟩ : ∃ a n c, v' = .slice a n c := (by rcases hown'.2 with ⟨h0, _⟩ | ⟨g9, c9, u9, h0, _⟩; exact ⟨_, _, _, h0⟩; exact ⟨_, _, _, h0⟩); have GRW := hid hgrow; clear hown' hgrow; subst hva)
  have hgrow := GRW.out
  have ow := OWN.out
  rw [Nat.zero_add, List.nil_append] at ow
  obtain ⟨g, cp, rest, hv, hge, rB⟩ := owned_bytes ow HZ.out.1
  obtain ⟨rfl, rfl, rfl⟩ : ga = some ⟨g, 0, none⟩ ∧ n = na ∧ ca = cp := by
    injection hv with h1 h2 h3
    exact ⟨h1, h2.symm, h3⟩
  have x2 := A2.out.grown' hgrow (owns_lt HO.out (by omega))
  have bel4 : Below w.heap.size w w4 := AB.out.grown hgrow (by simp; have := HS2.out; omega) (fun k e => by have := (HO.out.lt k e).1; omega)
  obtain ⟨W5, hW5⟩ : ∃ X, X = w4.setCell ⟨(w.heap.size + 1), 0, none⟩ (.slice (some ⟨g, 0, none⟩) n ca) := ⟨_, rfl⟩
  have z3 : Row W5 (w.heap.size + 1) 33 (dvC (.slice (some ⟨g, 0, none⟩) n ca) ds pr st tk) := by rw [hW5]; exact x3.set 0 _
  have z2 : Row W5 w.heap.size 33 dvZ := by rw [hW5]; exact x2.other (by show w.heap.size + 1 ≠ w.heap.size; omega) _
  have zB : Row W5 g 5 (zs.map (Value.int .u8) ++ rest) := by rw [hW5]; exact rB.other (by show w.heap.size + 1 ≠ g; omega) _
  have bel5 : Below w.heap.size w W5 := by rw [hW5]; exact bel4.setCell (p := ⟨(w.heap.size + 1), 0, none⟩) (by show w.heap.size ≤ w.heap.size + 1; omega) _
  rw [← hW5]
  have T2 := z2.thereO 0 12 (by rw [dvZ_len]; omega)
  clear hW5 x3 x2 bel4 rB ow hgrow c3 f3
  go_wp2_with (first | ((with_reducible refine wpList_load_row rfl 33 _ rfl (w.heap.size + 1) ?_ 33 (dvC (.slice (some ⟨g, 0, none⟩) n ca) ds pr st tk).toArray (0, 0) _ ?_ Tryd.underlying33 ?_ ?_ ?_); rfl; exact z3; rfl; exact hID) | ((with_reducible refine wpList_store_mid rfl 33 _ _ rfl w.heap.size 0 (dvC (.slice (some ⟨g, 0, none⟩) n ca) ds pr st tk).toArray ?_ ?_ ?_ ?_ (all_oneCell_toArray (dvC_one _ _ _ _ _ _ _)) ?_); rfl; rfl; exact T2; exact hID))
  have n2 : Row (W5.setCells w.heap.size 0 (dvC (.slice (some ⟨g, 0, none⟩) n ca) ds pr st tk)) w.heap.size 33 (dvC (.slice (some ⟨g, 0, none⟩) n ca) ds pr st tk) := z2.setAll (by rw [dvC_len, dvZ_len])
  exact bodyPost_ret (v := .agg (dvC (.slice (some ⟨g, 0, none⟩) n ca) ds pr st tk).toArray) (results_c (p := 2) (fn := Tryd.f43) rfl _ _ _ _ _ _ rfl n2 Tryd.underlying33 rfl hID) rfl ⟨g, ca, rest, rfl, zB.setCellsO (by omega) _ _, by omega, below_setCellsD (dvC (.slice (some ⟨g, 0, none⟩) n ca) ds pr st tk) 0 _ bel5 (Nat.le_refl _)⟩
end Go.Proofs.YthifegbmpmialaaDoor

namespace Go.Proofs.YthifegbmpmialaaDoor
open Go.RowKit

open Classical in
noncomputable def nxtR (zs ds : List Int) (k x : Int) : Int × Int :=
  if okV zs ds then (if hdB zs k x then (if ds[k.toNat]?.getD 0 = x then (0, 0) else
    ((if x - ds[k.toNat]?.getD 0 < 0 then x - ds[k.toNat]?.getD 0 + zs[k.toNat]?.getD 0 else x - ds[k.toNat]?.getD 0) * szL (zs.take k.toNat) - valL zs ds k.toNat, 0)) else (0, 2)) else (0, 1)
theorem nxtR_no {zs ds : List Int} (k x : Int) (h : okV zs ds = false) : nxtR zs ds k x = (0, 1) := by simp [nxtR, h]
theorem nxtR_out {zs ds : List Int} (k x : Int) (h : okV zs ds = true) (hk : ¬ hdB zs k x) : nxtR zs ds k x = (0, 2) := by simp only [nxtR, h, if_true, if_neg hk]
theorem nxtR_same {zs ds : List Int} (k : Nat) (x : Int) (h : okV zs ds = true) (hk : hdB zs k x) (hx : ds[k]?.getD 0 = x) : nxtR zs ds k x = (0, 0) := by simp only [nxtR, h, if_true, if_pos hk, Int.toNat_natCast, if_pos hx]
theorem nxtR_yes {zs ds : List Int} (k : Nat) (x : Int) (h : okV zs ds = true) (hk : hdB zs k x) (hx : ¬ ds[k]?.getD 0 = x) :
    nxtR zs ds k x = ((if x - ds[k]?.getD 0 < 0 then x - ds[k]?.getD 0 + zs[k]?.getD 0 else x - ds[k]?.getD 0) * szL (zs.take k) - valL zs ds k, 0) := by simp only [nxtR, h, if_true, if_pos hk, Int.toNat_natCast, if_neg hx]

theorem horn_any {zs ds : List Int} {n : Nat} (hn : n ≤ zs.length) (hi : inB zs n) (hl : ltTo zs ds n) : ∀ j k, k + j = n → ∃ g, horn zs ds n k g
  | 0, k, hk => ⟨0, Int.le_refl _, by obtain rfl : k = n := by omega
                                      omega⟩
  | j + 1, k, hk => by
    obtain ⟨g, hg⟩ := horn_any hn hi hl j (k + 1) (by omega)
    exact ⟨_, horn_step hg (by omega) hn hi hl⟩
theorem nxt_mod (g p z x d low : Int) (hp : 1 ≤ p) (hz : 2 ≤ z) (hx : 0 ≤ x ∧ x < z) (hd : 0 ≤ d ∧ d < z) (hl : 0 ≤ low ∧ low < p) (hxd : ¬ d = x) :
    (x * p - (g * (p * z) + (low + d * p))) % (p * z) = (if x - d < 0 then x - d + z else x - d) * p - low := by
  have hc : 0 < p * z := Int.mul_pos (by omega) (by omega)
  by_cases h : x - d < 0
  · rw [if_pos h]
    have a1 : 1 * p ≤ (x - d + z) * p := Int.mul_le_mul_of_nonneg_right (by omega) (by omega)
    have a2 : (x - d + z) * p ≤ (z - 1) * p := Int.mul_le_mul_of_nonneg_right (by omega) (by omega)
    have a3 : (z - 1) * p = p * z - p := by rw [Int.sub_mul, Int.mul_comm z p]; omega
    refine ((Int.ediv_emod_unique (q := -g - 1) hc).2 ⟨?_, by omega, by omega⟩).2
    rw [Int.mul_sub, Int.mul_neg, Int.add_mul, Int.sub_mul, Int.mul_comm z p, Int.mul_comm (p * z) g]
    omega
  · rw [if_neg h]
    have a1 : 1 * p ≤ (x - d) * p := Int.mul_le_mul_of_nonneg_right (by omega) (by omega)
    have a2 : (x - d) * p ≤ (z - 1) * p := Int.mul_le_mul_of_nonneg_right (by omega) (by omega)
    have a3 : (z - 1) * p = p * z - p := by rw [Int.sub_mul, Int.mul_comm z p]; omega
    refine ((Int.ediv_emod_unique (q := -g) hc).2 ⟨?_, by omega, by omega⟩).2
    rw [Int.mul_neg, Int.sub_mul, Int.mul_comm (p * z) g]
    omega
/-- the numbers that NextWith reckons with, and their bounds -/
theorem nxt_facts {zs ds : List Int} (k : Nat) (x : Int) (hv : okL zs = true) (hl : ltTo zs ds zs.length) (hk : k < zs.length) (hx : 0 ≤ x ∧ x < zs[k]?.getD 0) :
    ∃ p z d low V c : Int, p = szL (zs.take k) ∧ z = zs[k]?.getD 0 ∧ d = ds[k]?.getD 0 ∧ low = valL zs ds k ∧ V = valL zs ds zs.length ∧ c = szL (zs.take (k + 1)) ∧ c = p * z ∧
      (1 ≤ p ∧ p ≤ 10000000000000000) ∧ (2 ≤ z ∧ z ≤ 100) ∧ (0 ≤ d ∧ d < z) ∧ (0 ≤ low ∧ low < p) ∧ (0 ≤ V ∧ V ≤ 1000000000000) ∧ (1 ≤ c ∧ c ≤ 10000000000000000) ∧
      (0 ≤ x * p ∧ x * p ≤ 1000000000000000000) ∧
      (¬ d = x → (x * p - V) % c = (if x - d < 0 then x - d + z else x - d) * p - low) := by
  obtain ⟨_, h8, hin, _, hs⟩ := okL_out hv
  obtain ⟨s1, s2, s3, s4⟩ := szL_step zs k hk h8 (fun j hj => hin j (by omega))
  have hzb := hin k hk
  have b1 := valL_bd zs ds k (by omega) (fun j hj => hin j (by omega)) (fun j hj => hl j (by omega))
  have b2 := valL_bd zs ds zs.length (Nat.le_refl _) hin hl
  rw [List.take_length] at b2
  obtain ⟨g, hg⟩ := horn_any (Nat.le_refl _) hin hl (zs.length - (k + 1)) (k + 1) (by omega)
  have hg2 := hg.2
  have hT := szL_take zs k hk
  have hdl := hl k hk
  have m2 : 0 ≤ x * szL (zs.take k) := Int.mul_nonneg hx.1 (by omega)
  have m3 : x * szL (zs.take k) ≤ 100 * 10000000000000000 := Int.mul_le_mul (by omega) s2 (by omega) (by omega)
  refine ⟨_, _, _, _, _, _, rfl, rfl, rfl, rfl, rfl, rfl, hT, ⟨s1, s2⟩, hzb, hdl, b1, by omega, by rw [hT]; exact ⟨s3, s4⟩, ⟨m2, by omega⟩, fun hne => ?_⟩
  have := nxt_mod g (szL (zs.take k)) (zs[k]?.getD 0) x (ds[k]?.getD 0) (valL zs ds k) s1 hzb.1 hx hdl b1 hne
  rw [hT, hg2, hT]
  exact this
theorem Oc.cell {w : World} {g : Nat} {d0 d1 d2 d3 d4 d5 d6 d7 : Int} (h : Oc w g d0 d1 d2 d3 d4 d5 d6 d7) (k : Nat) (hk : k < 8) : w.cell? ⟨g, k, none⟩ = some (.int .u8 (([d0, d1, d2, d3, d4, d5, d6, d7] : List Int)[k]?.getD 0)) := by
  obtain ⟨f0, f1, f2, f3, f4, f5, f6, f7⟩ := h
  have q : k = 0 ∨ k = 1 ∨ k = 2 ∨ k = 3 ∨ k = 4 ∨ k = 5 ∨ k = 6 ∨ k = 7 := by omega
  rcases q with rfl | rfl | rfl | rfl | rfl | rfl | rfl | rfl <;> assumption

end Go.Proofs.YthifegbmpmialaaDoor

namespace Go.Proofs.YthifegbmpmialaaDoor
open Go.RowKit
theorem l01Down_any (a c : Int) (ha : -1000000000000000000 ≤ a ∧ a ≤ 1000000000000000000) (hc : 1 ≤ c ∧ c ≤ 10000000000000000) (w : World) :
    Calls Tryd.prog 95 #[.int .i64 a, .int .i64 c] w fun e w' => e = .returned (.int .i64 (a / c)) ∧ w = w' := by
  have hc0 : c ≠ 0 := by omega
  by_cases h0 : 0 ≤ a
  · have e1 : a.tmod c = a % c := Int.tmod_eq_emod_of_nonneg h0
    have e2 : a.tdiv c = a / c := Int.tdiv_eq_ediv_of_nonneg h0
    have m0 := Int.emod_nonneg a hc0
    have m1 := Int.emod_lt_of_pos a (show 0 < c by omega)
    have q0 := Int.ediv_nonneg h0 (show 0 ≤ c by omega)
    have q1 := Int.ediv_le_self c h0
    obtain ⟨r, hr⟩ : ∃ r, r = a % c := ⟨_, rfl⟩
    obtain ⟨q, hq⟩ : ∃ q, q = a / c := ⟨_, rfl⟩
    rw [← hr] at e1 m0 m1
    rw [← hq] at e2 q0 q1
    rw [← hq]
    have d1 : decide (r < 0) = false := by simp; omega
    replace e1 := e1
    clear hr hq h0
    go_enter Tryd.func95, Tryd.ntmps95
    go_wp2_with fail
    go_ret
    exact ⟨rfl, rfl⟩
  · obtain ⟨m, rfl⟩ : ∃ m, a = -m := ⟨-a, by omega⟩
    have hm : 0 ≤ m := by omega
    have e1 : (-m).tmod c = -(m % c) := by rw [Int.neg_tmod, Int.tmod_eq_emod_of_nonneg hm]
    have e2 : (-m).tdiv c = -(m / c) := by rw [Int.neg_tdiv, Int.tdiv_eq_ediv_of_nonneg hm]
    have e3 := ediv_neg_of m c hc.1
    have m0 := Int.emod_nonneg m hc0
    have m1 := Int.emod_lt_of_pos m (show 0 < c by omega)
    have q0 := Int.ediv_nonneg hm (show 0 ≤ c by omega)
    have q1 := Int.ediv_le_self c hm
    obtain ⟨r, hr⟩ : ∃ r, r = m % c := ⟨_, rfl⟩
    obtain ⟨q, hq⟩ : ∃ q, q = m / c := ⟨_, rfl⟩
    rw [← hr] at e1 e3 m0 m1
    rw [← hq] at e2 e3 q0 q1
    obtain ⟨a, hA⟩ : ∃ a, a = -m := ⟨_, rfl⟩
    rw [← hA] at e1 e2 e3 ha
    rw [← hA, e3]
    by_cases hz : r = 0
    · subst hz
      simp only [if_true]
      simp only [Int.neg_zero] at e1
      have d1 : decide ((0 : Int) < 0) = false := rfl
      have q2 : -1000000000000000000 ≤ -q ∧ -q ≤ 0 := by omega
      clear e3 hr hq hA h0 q0 q1
      generalize -q = q' at e2 q2 ⊢
      go_enter Tryd.func95, Tryd.ntmps95
      go_wp2_with fail
      go_ret
      exact ⟨rfl, rfl⟩
    · rw [if_neg hz]
      have d0 : -10000000000000000 ≤ -r ∧ -r < 0 := by omega
      have q2 : -1000000000000000000 ≤ -q ∧ -q ≤ 0 := by omega
      clear e3 hr hq hA h0 hz q0 q1 m0 m1
      generalize -q = q' at e2 q2 ⊢
      generalize -r = r' at e1 d0
      have d1 : decide (r' < 0) = true := by simp; omega
      go_enter Tryd.func95, Tryd.ntmps95
      go_wp2_with fail
      go_ret
      exact ⟨rfl, rfl⟩

end Go.Proofs.YthifegbmpmialaaDoor

namespace Go.Proofs.YthifegbmpmialaaDoor
open Go.RowKit

set_option maxRecDepth 100000 in
set_option maxHeartbeats 4000000 in
theorem l01Of_any (b n cap : Nat) (zs : List Int) (hn : n = zs.length) (hv : okL zs = true) (v : Int) (h0 : 0 ≤ v) (h2 : v ≤ 1000000000000) (w : World) (h : Stk w b zs) :
    Calls Tryd.prog 96 #[.slice (some ⟨b, 0, none⟩) n cap, .int .i64 v] w fun e w' => e = .returned (.agg #[.int .u8 (dg (dgL zs v) 0), .int .u8 (dg (dgL zs v) 1), .int .u8 (dg (dgL zs v) 2), .int .u8 (dg (dgL zs v) 3), .int .u8 (dg (dgL zs v) 4), .int .u8 (dg (dgL zs v) 5), .int .u8 (dg (dgL zs v) 6), .int .u8 (dg (dgL zs v) 7)]) ∧ Below w.heap.size w w' := by
  obtain ⟨_, h8, hin, _, _⟩ := okL_out hv
  have n8 : n ≤ 8 := by omega
  have H8 := hid h8
  have HI := hid hin
  have HW := hid h.2.1
  have N := hid hn
  have hbl := h.1
  have hn20 : n ≤ 1048576 := by omega
  have hB0 := hid (((Below.refl w.heap.size w).alloc (Nat.le_refl _) (.cells #[.int .u8 0, .int .u8 0, .int .u8 0, .int .u8 0, .int .u8 0, .int .u8 0, .int .u8 0, .int .u8 0] 31)).alloc (by simp) (.cells #[.int .u8 0, .int .u8 0, .int .u8 0, .int .u8 0, .int .u8 0, .int .u8 0, .int .u8 0, .int .u8 0] 31))
  have r0 := hid ((Row.new w 31 [.int .u8 0, .int .u8 0, .int .u8 0, .int .u8 0, .int .u8 0, .int .u8 0, .int .u8 0, .int .u8 0]).alloc (.cells #[.int .u8 0, .int .u8 0, .int .u8 0, .int .u8 0, .int .u8 0, .int .u8 0, .int .u8 0, .int .u8 0] 31))
  have r1 := Row.new (w.alloc (.cells #[.int .u8 0, .int .u8 0, .int .u8 0, .int .u8 0, .int .u8 0, .int .u8 0, .int .u8 0, .int .u8 0] 31)) 31 [.int .u8 0, .int .u8 0, .int .u8 0, .int .u8 0, .int .u8 0, .int .u8 0, .int .u8 0, .int .u8 0]
  simp only [World.size_alloc] at r1
  have R1 := hid r1
  clear h hin hn h8 hv r1
  go_enter Tryd.func96, Tryd.ntmps96
  go_wp2
  go_loopw [1, 6] (fun s i wr => ∃ k : Nat, k ≤ n ∧ s = .int .i64 (v / szL (zs.take k)) ∧ i = .int .i64 k ∧ Row wr (w.heap.size + 1) 31 (dto zs v k) ∧ Row wr w.heap.size 31 [.int .u8 0, .int .u8 0, .int .u8 0, .int .u8 0, .int .u8 0, .int .u8 0, .int .u8 0, .int .u8 0] ∧ Below w.heap.size w wr) (fun _ i _ => n - (intOf i).toNat)
  case atStart => exact ⟨0, Nat.zero_le _, by simp [szL], rfl, R1.out, r0.out, hB0.out⟩
  case round =>
    obtain ⟨k, hk, rfl, rfl, hrow, hres, hB⟩ := hrel
    by_cases hlt : k < n
    · have hkz : k < zs.length := by rw [← N.out]; exact hlt
      have hx : wr.cell? ⟨b, k, none⟩ = some (.int .u8 (zs[k]?.getD 0)) := (hB.cell (p := ⟨b, k, none⟩) hbl).trans (HW.out k hkz)
      obtain ⟨old, ho⟩ : ∃ u, wr.cell? ⟨w.heap.size + 1, k, none⟩ = some u := ⟨_, (hrow.cell k).trans (List.getElem?_eq_getElem (by simp [dto]; omega))⟩
      have hf := hrow.frozen k
      have hR2 := hid (hrow.set k (.int .u8 (v / szL (zs.take k) % zs[k]?.getD 0)))
      rw [dto_succ zs v k (by omega)] at hR2
      have hres2 := hid (hres.other (a := ⟨w.heap.size + 1, k, none⟩) (by show w.heap.size + 1 ≠ w.heap.size; omega) (.int .u8 (v / szL (zs.take k) % zs[k]?.getD 0)))
      have hB2 := hid (hB.setCell (p := ⟨w.heap.size + 1, k, none⟩) (by show w.heap.size ≤ w.heap.size + 1; omega) (.int .u8 (v / szL (zs.take k) % zs[k]?.getD 0)))
      have hzb := HI.out k hkz
      have hs := szL_bd zs k (by omega) (fun j hj => HI.out j (by omega))
      have hq2 : v / szL (zs.take k) / zs[k]?.getD 0 = v / szL (zs.take (k + 1)) := by rw [szL_take zs k hkz, Int.ediv_ediv_of_nonneg (by omega)]
      have hq0 := Int.ediv_nonneg h0 (show 0 ≤ szL (zs.take k) by omega)
      have hq1 := Int.ediv_le_self (szL (zs.take k)) h0
      have HQ := hid hq2
      clear hrow hB hkz hres hq2 hs
      obtain ⟨z, hz⟩ : ∃ z, z = zs[k]?.getD 0 := ⟨_, rfl⟩
      obtain ⟨q, hq⟩ : ∃ q, q = v / szL (zs.take k) := ⟨_, rfl⟩
      rw [← hz] at hx hzb hR2 hB2 hres2 HQ
      rw [← hq] at hR2 hB2 hres2 HQ hq0 hq1
      rw [← hq]
      clear hz hq
      have n4 : z ≠ 0 := by omega
      have m0 := Int.emod_nonneg q n4
      have m1 := Int.emod_lt_of_pos q (show 0 < z by omega)
      have m2 := Int.ediv_nonneg hq0 (show 0 ≤ z by omega)
      have m3 := Int.ediv_le_self z hq0
      have e1 : q.tmod z = q % z := Int.tmod_eq_emod_of_nonneg hq0
      have e2 : q.tdiv z = q / z := Int.tdiv_eq_ediv_of_nonneg hq0
      have wu : IntKind.u8.wrap (q % z) = q % z := by simp only [IntKind.wrap, IntKind.signed, IntKind.bits]; simp; omega
      have wi : IntKind.i64.wrap (q % z) = q % z := IntWalk.i64_in _ (by omega)
      have wd : IntKind.i64.wrap (q / z) = q / z := IntWalk.i64_in _ (by omega)
      go_wp2
      go_roundw
      case rel => exact ⟨k + 1, by omega, by rw [← HQ.out], by go_num, hR2.out, hres2.out, hB2.out⟩
      case measure => simp [intOf]; omega
    · obtain rfl : k = n := by omega
      rw [N.out, dto_all] at hrow
      have q0 := hrow.cell 0; have q1 := hrow.cell 1; have q2 := hrow.cell 2; have q3 := hrow.cell 3; have q4 := hrow.cell 4; have q5 := hrow.cell 5; have q6 := hrow.cell 6; have q7 := hrow.cell 7
      have g0 := hres.cell 0; have g1 := hres.cell 1; have g2 := hres.cell 2; have g3 := hres.cell 3; have g4 := hres.cell 4; have g5 := hres.cell 5; have g6 := hres.cell 6; have g7 := hres.cell 7
      have k0 := hres.frozen 0; have k1 := hres.frozen 1; have k2 := hres.frozen 2; have k3 := hres.frozen 3; have k4 := hres.frozen 4; have k5 := hres.frozen 5; have k6 := hres.frozen 6; have k7 := hres.frozen 7
      simp only [List.getElem?_cons_zero, List.getElem?_cons_succ] at q0 q1 q2 q3 q4 q5 q6 q7 g0 g1 g2 g3 g4 g5 g6 g7
      have r2 := hid (hres.set8 rfl (.int .u8 (dg (dgL zs v) 0)) (.int .u8 (dg (dgL zs v) 1)) (.int .u8 (dg (dgL zs v) 2)) (.int .u8 (dg (dgL zs v) 3)) (.int .u8 (dg (dgL zs v) 4)) (.int .u8 (dg (dgL zs v) 5)) (.int .u8 (dg (dgL zs v) 6)) (.int .u8 (dg (dgL zs v) 7)))
      have b2 := hid (below_set8 (g := w.heap.size) hB (Nat.le_refl _) (.int .u8 (dg (dgL zs v) 0)) (.int .u8 (dg (dgL zs v) 1)) (.int .u8 (dg (dgL zs v) 2)) (.int .u8 (dg (dgL zs v) 3)) (.int .u8 (dg (dgL zs v) 4)) (.int .u8 (dg (dgL zs v) 5)) (.int .u8 (dg (dgL zs v) 6)) (.int .u8 (dg (dgL zs v) 7)))
      clear hrow hres hB
      go_wp2
      clear g0 k0 g1 k1 g2 k2 g3 k3 g4 k4 g5 k5 g6 k6 g7 k7 q0 q1 q2 q3 q4 q5 q6 q7
      obtain ⟨W, hW⟩ : ∃ W, W = ((((((((wr.setCell ⟨w.heap.size, 0, none⟩ (.int .u8 (dg (dgL zs v) 0))).setCell ⟨w.heap.size, 1, none⟩ (.int .u8 (dg (dgL zs v) 1))).setCell ⟨w.heap.size, 2, none⟩ (.int .u8 (dg (dgL zs v) 2))).setCell ⟨w.heap.size, 3, none⟩ (.int .u8 (dg (dgL zs v) 3))).setCell ⟨w.heap.size, 4, none⟩ (.int .u8 (dg (dgL zs v) 4))).setCell ⟨w.heap.size, 5, none⟩ (.int .u8 (dg (dgL zs v) 5))).setCell ⟨w.heap.size, 6, none⟩ (.int .u8 (dg (dgL zs v) 6))).setCell ⟨w.heap.size, 7, none⟩ (.int .u8 (dg (dgL zs v) 7))) := ⟨_, rfl⟩
      rw [← hW] at r2 b2 ⊢
      clear hW
      have r2 := r2.out
      have g0 := r2.cell 0; have g1 := r2.cell 1; have g2 := r2.cell 2; have g3 := r2.cell 3; have g4 := r2.cell 4; have g5 := r2.cell 5; have g6 := r2.cell 6; have g7 := r2.cell 7
      simp only [List.getElem?_cons_zero, List.getElem?_cons_succ] at g0 g1 g2 g3 g4 g5 g6 g7
      exact bodyPost_ret (v := .agg #[.int .u8 (dg (dgL zs v) 0), .int .u8 (dg (dgL zs v) 1), .int .u8 (dg (dgL zs v) 2), .int .u8 (dg (dgL zs v) 3), .int .u8 (dg (dgL zs v) 4), .int .u8 (dg (dgL zs v) 5), .int .u8 (dg (dgL zs v) 6), .int .u8 (dg (dgL zs v) 7)]) (by simp [results, Tryd.results96, go_sem, g0, g1, g2, g3, g4, g5, g6, g7]) rfl ⟨rfl, b2.out⟩

end Go.Proofs.YthifegbmpmialaaDoor

namespace Go.Proofs.YthifegbmpmialaaDoor
open Go.RowKit

def addR (zs ds : List Int) (c : Int) : List Int × Int × Int := if okV zs ds then (if -1000000000000 ≤ c ∧ c ≤ 1000000000000 then (dgL zs ((valL zs ds zs.length + c) % szL zs), (valL zs ds zs.length + c) / szL zs, 0) else ([0, 0, 0, 0, 0, 0, 0, 0], 0, 2)) else ([0, 0, 0, 0, 0, 0, 0, 0], 0, 1)
theorem addR_no {zs ds : List Int} (c : Int) (h : okV zs ds = false) : addR zs ds c = ([0, 0, 0, 0, 0, 0, 0, 0], 0, 1) := by simp [addR, h]
theorem addR_out {zs ds : List Int} (c : Int) (h : okV zs ds = true) (hk : ¬ (-1000000000000 ≤ c ∧ c ≤ 1000000000000)) : addR zs ds c = ([0, 0, 0, 0, 0, 0, 0, 0], 0, 2) := by simp only [addR, h, if_true, if_neg hk]
theorem addR_yes {zs ds : List Int} (c : Int) (h : okV zs ds = true) (hk : -1000000000000 ≤ c ∧ c ≤ 1000000000000) : addR zs ds c = (dgL zs ((valL zs ds zs.length + c) % szL zs), (valL zs ds zs.length + c) / szL zs, 0) := by simp only [addR, h, if_true, if_pos hk]

end Go.Proofs.YthifegbmpmialaaDoor

namespace Go.Proofs.YthifegbmpmialaaDoor
open Go.RowKit

set_option maxRecDepth 100000 in
set_option maxHeartbeats 4000000 in
theorem l01Add_any (b n cap : Nat) (zs : List Int) (d0 d1 d2 d3 d4 d5 d6 d7 c : Int) (w : World) (h : Stk w b zs) (hn : n = zs.length) (ho : Oct d0 d1 d2 d3 d4 d5 d6 d7) (hv : okV zs [d0, d1, d2, d3, d4, d5, d6, d7] = true) (hc : -1000000000000 ≤ c ∧ c ≤ 1000000000000) :
    Calls Tryd.prog 81 #[.slice (some ⟨b, 0, none⟩) n cap, .agg #[.int .u8 d0, .int .u8 d1, .int .u8 d2, .int .u8 d3, .int .u8 d4, .int .u8 d5, .int .u8 d6, .int .u8 d7], .int .i64 c] w fun e w' => e = .returned (.tuple #[.agg #[.int .u8 (dg (dgL zs ((valL zs [d0, d1, d2, d3, d4, d5, d6, d7] zs.length + c) % szL zs)) 0), .int .u8 (dg (dgL zs ((valL zs [d0, d1, d2, d3, d4, d5, d6, d7] zs.length + c) % szL zs)) 1), .int .u8 (dg (dgL zs ((valL zs [d0, d1, d2, d3, d4, d5, d6, d7] zs.length + c) % szL zs)) 2), .int .u8 (dg (dgL zs ((valL zs [d0, d1, d2, d3, d4, d5, d6, d7] zs.length + c) % szL zs)) 3), .int .u8 (dg (dgL zs ((valL zs [d0, d1, d2, d3, d4, d5, d6, d7] zs.length + c) % szL zs)) 4), .int .u8 (dg (dgL zs ((valL zs [d0, d1, d2, d3, d4, d5, d6, d7] zs.length + c) % szL zs)) 5), .int .u8 (dg (dgL zs ((valL zs [d0, d1, d2, d3, d4, d5, d6, d7] zs.length + c) % szL zs)) 6), .int .u8 (dg (dgL zs ((valL zs [d0, d1, d2, d3, d4, d5, d6, d7] zs.length + c) % szL zs)) 7)], .int .i64 ((valL zs [d0, d1, d2, d3, d4, d5, d6, d7] zs.length + c) / szL zs)]) ∧ Below w.heap.size w w' := by
  have hB0 : Below w.heap.size w ((w.alloc (.cells #[.int .u8 d0, .int .u8 d1, .int .u8 d2, .int .u8 d3, .int .u8 d4, .int .u8 d5, .int .u8 d6, .int .u8 d7] 31)).alloc (.cells #[.int .u8 0, .int .u8 0, .int .u8 0, .int .u8 0, .int .u8 0, .int .u8 0, .int .u8 0, .int .u8 0] 31)) := ((Below.refl w.heap.size w).alloc (Nat.le_refl _) _).alloc (by simp) _
  have hbl := h.1
  have S0 := hid (h.below hB0 h.1)
  have rD := hid ((Row.new w 31 [.int .u8 d0, .int .u8 d1, .int .u8 d2, .int .u8 d3, .int .u8 d4, .int .u8 d5, .int .u8 d6, .int .u8 d7]).alloc (.cells #[.int .u8 0, .int .u8 0, .int .u8 0, .int .u8 0, .int .u8 0, .int .u8 0, .int .u8 0, .int .u8 0] 31))
  have rR := Row.new (w.alloc (.cells #[.int .u8 d0, .int .u8 d1, .int .u8 d2, .int .u8 d3, .int .u8 d4, .int .u8 d5, .int .u8 d6, .int .u8 d7] 31)) 31 [.int .u8 0, .int .u8 0, .int .u8 0, .int .u8 0, .int .u8 0, .int .u8 0, .int .u8 0, .int .u8 0]
  simp only [World.size_alloc] at rR
  have HR := hid rR
  have N := hid hn
  obtain ⟨hv1, hv2⟩ := okV_out hv
  obtain ⟨_, h8, hin, hs1, hs2⟩ := okL_out hv1
  have hlt := okD_lt hv2 h8 (fun j hj => (oct_bd ho j hj).1)
  have bV := valL_bd zs [d0, d1, d2, d3, d4, d5, d6, d7] zs.length (Nat.le_refl _) hin hlt
  rw [List.take_length] at bV
  have HV := hid (fun (w : World) (hS : Stk w b zs) => l01Value_ok b n cap zs d0 d1 d2 d3 d4 d5 d6 d7 ho hv (by omega) w hS)
  have HZ := hid (fun (w : World) (hS : Stk w b zs) => l01Size_ok b n cap zs w hS hn hv1)
  have FD := hid (fun (x : Int) (hx : -1000000000000000000 ≤ x ∧ x ≤ 1000000000000000000) w => l01Down_any x (szL zs) hx (by omega) w)
  have m0 := Int.emod_nonneg (valL zs [d0, d1, d2, d3, d4, d5, d6, d7] zs.length + c) (show szL zs ≠ 0 by omega)
  have m1 := Int.emod_lt_of_pos (valL zs [d0, d1, d2, d3, d4, d5, d6, d7] zs.length + c) (show 0 < szL zs by omega)
  have HD := hid (fun (w : World) (hS : Stk w b zs) => l01Of_any b n cap zs hn hv1 ((valL zs [d0, d1, d2, d3, d4, d5, d6, d7] zs.length + c) % szL zs) m0 (by omega) w hS)
  have em := Int.mul_ediv_add_emod (valL zs [d0, d1, d2, d3, d4, d5, d6, d7] zs.length + c) (szL zs)
  rw [Int.mul_comm] at em
  rw [hn] at HV
  rw [← hn] at HV
  obtain ⟨T, hT⟩ : ∃ T, T = valL zs [d0, d1, d2, d3, d4, d5, d6, d7] zs.length := ⟨_, rfl⟩
  rw [hn, ← hT, ← hn] at HV
  rw [← hT] at bV m0 m1 HD em
  rw [← hT]
  obtain ⟨Z, hZ⟩ : ∃ Z, Z = szL zs := ⟨_, rfl⟩
  rw [← hZ] at HZ FD bV hs1 hs2 m0 m1 HD em
  rw [← hZ]
  have FD2 := hid (fun w => FD.out (T + c) (by omega) w)
  obtain ⟨M, hM⟩ : ∃ M, M = (T + c) % Z := ⟨_, rfl⟩
  obtain ⟨Q, hQ⟩ : ∃ Q, Q = (T + c) / Z := ⟨_, rfl⟩
  rw [← hM] at m0 m1 HD em
  rw [← hQ] at FD2 em
  rw [← hM, ← hQ]
  have q1 : -10000000000000 ≤ Q * Z := by omega
  have q2 : Q * Z ≤ 10000000000000 := by omega
  have HE := hid (show T + c - Q * Z = M by omega)
  clear hv hn hv1 hv2 h8 hin hlt hT hZ FD hM hQ em ho h rR
  have f := rD.out
  have f0 := f.cell 0; have f1 := f.cell 1; have f2 := f.cell 2; have f3 := f.cell 3; have f4 := f.cell 4; have f5 := f.cell 5; have f6 := f.cell 6; have f7 := f.cell 7
  simp only [List.getElem?_cons_zero, List.getElem?_cons_succ] at f0 f1 f2 f3 f4 f5 f6 f7
  clear f
  go_enter Tryd.func81, Tryd.ntmps81
  go_wp2_with fail
  refine (HZ.out _ S0.out).mono ?_
  rintro e w' ⟨rfl, rfl⟩
  go_wp2_with fail
  refine (HV.out _ S0.out).mono ?_
  rintro e w1 ⟨rfl, hB1⟩
  have hz1 := hB1.size
  simp only [World.size_alloc] at hB1 hz1
  have S1 := hid (S0.out.below hB1 (by omega))
  clear f0 f1 f2 f3 f4 f5 f6 f7
  go_wp2_with fail
  refine (FD2.out w1).mono ?_
  rintro e w' ⟨rfl, rfl⟩
  go_wp2_with fail
  rw [HE.out]
  refine (HD.out w1 S1.out).mono ?_
  rintro e w2 ⟨rfl, hB2⟩
  have hz2 := hB2.size
  have r1 := ((((HR.out.below hB1 (by omega)).below hB2 (by omega))))
  have g0 := r1.cell 0; have k0 := r1.frozen 0; have g1 := r1.cell 1; have k1 := r1.frozen 1; have g2 := r1.cell 2; have k2 := r1.frozen 2; have g3 := r1.cell 3; have k3 := r1.frozen 3; have g4 := r1.cell 4; have k4 := r1.frozen 4; have g5 := r1.cell 5; have k5 := r1.frozen 5; have g6 := r1.cell 6; have k6 := r1.frozen 6; have g7 := r1.cell 7; have k7 := r1.frozen 7
  simp only [List.getElem?_cons_zero, List.getElem?_cons_succ] at g0 g1 g2 g3 g4 g5 g6 g7
  have r2 := hid (r1.set8 rfl (.int .u8 (dg (dgL zs M) 0)) (.int .u8 (dg (dgL zs M) 1)) (.int .u8 (dg (dgL zs M) 2)) (.int .u8 (dg (dgL zs M) 3)) (.int .u8 (dg (dgL zs M) 4)) (.int .u8 (dg (dgL zs M) 5)) (.int .u8 (dg (dgL zs M) 6)) (.int .u8 (dg (dgL zs M) 7)))
  have b2 := hid (below_set8 (g := w.heap.size + 1) (hB0.trans ((hB1.mono (by omega)).trans (hB2.mono (by omega)))) (by omega) (.int .u8 (dg (dgL zs M) 0)) (.int .u8 (dg (dgL zs M) 1)) (.int .u8 (dg (dgL zs M) 2)) (.int .u8 (dg (dgL zs M) 3)) (.int .u8 (dg (dgL zs M) 4)) (.int .u8 (dg (dgL zs M) 5)) (.int .u8 (dg (dgL zs M) 6)) (.int .u8 (dg (dgL zs M) 7)))
  clear r1
  go_wp2_with fail
  clear g0 k0 g1 k1 g2 k2 g3 k3 g4 k4 g5 k5 g6 k6 g7 k7
  obtain ⟨W, hW⟩ : ∃ W, W = ((((((((w2.setCell ⟨w.heap.size + 1, 0, none⟩ (.int .u8 (dg (dgL zs M) 0))).setCell ⟨w.heap.size + 1, 1, none⟩ (.int .u8 (dg (dgL zs M) 1))).setCell ⟨w.heap.size + 1, 2, none⟩ (.int .u8 (dg (dgL zs M) 2))).setCell ⟨w.heap.size + 1, 3, none⟩ (.int .u8 (dg (dgL zs M) 3))).setCell ⟨w.heap.size + 1, 4, none⟩ (.int .u8 (dg (dgL zs M) 4))).setCell ⟨w.heap.size + 1, 5, none⟩ (.int .u8 (dg (dgL zs M) 5))).setCell ⟨w.heap.size + 1, 6, none⟩ (.int .u8 (dg (dgL zs M) 6))).setCell ⟨w.heap.size + 1, 7, none⟩ (.int .u8 (dg (dgL zs M) 7))) := ⟨_, rfl⟩
  rw [← hW] at r2 b2 ⊢
  clear hW
  have r2 := r2.out
  have g0 := r2.cell 0; have g1 := r2.cell 1; have g2 := r2.cell 2; have g3 := r2.cell 3; have g4 := r2.cell 4; have g5 := r2.cell 5; have g6 := r2.cell 6; have g7 := r2.cell 7
  simp only [List.getElem?_cons_zero, List.getElem?_cons_succ] at g0 g1 g2 g3 g4 g5 g6 g7
  exact bodyPost_ret (v := .tuple #[.agg #[.int .u8 (dg (dgL zs M) 0), .int .u8 (dg (dgL zs M) 1), .int .u8 (dg (dgL zs M) 2), .int .u8 (dg (dgL zs M) 3), .int .u8 (dg (dgL zs M) 4), .int .u8 (dg (dgL zs M) 5), .int .u8 (dg (dgL zs M) 6), .int .u8 (dg (dgL zs M) 7)], .int .i64 Q]) (by simp [results, Tryd.results81, go_sem, g0, g1, g2, g3, g4, g5, g6, g7]) rfl ⟨rfl, b2.out⟩
end Go.Proofs.YthifegbmpmialaaDoor

namespace Go.Proofs.YthifegbmpmialaaDoor
open Go.RowKit
set_option linter.unusedVariables false
set_option linter.unusedSimpArgs false
theorem dgs_list (zs : List Int) (v : Int) : [dg (dgL zs v) 0, dg (dgL zs v) 1, dg (dgL zs v) 2, dg (dgL zs v) 3, dg (dgL zs v) 4, dg (dgL zs v) 5, dg (dgL zs v) 6, dg (dgL zs v) 7] = dgL zs v := by
  have h := dgL_len zs v
  apply List.ext_getElem?
  intro j
  rcases (by omega : j = 0 ∨ j = 1 ∨ j = 2 ∨ j = 3 ∨ j = 4 ∨ j = 5 ∨ j = 6 ∨ j = 7 ∨ 8 ≤ j) with rfl | rfl | rfl | rfl | rfl | rfl | rfl | rfl | hj
  all_goals first | (simp [dg, h]; done) | (rw [List.getElem?_eq_none (by simp; omega), List.getElem?_eq_none (by omega)])
theorem dgs_val (zs : List Int) (v : Int) (h : okL zs = true) (hv : 0 ≤ v ∧ v < szL zs) : valL zs [dg (dgL zs v) 0, dg (dgL zs v) 1, dg (dgL zs v) 2, dg (dgL zs v) 3, dg (dgL zs v) 4, dg (dgL zs v) 5, dg (dgL zs v) 6, dg (dgL zs v) 7] zs.length = v := by rw [dgs_list]; exact valL_of zs v h hv
theorem l01Add_dg (B n cap : Nat) (zs : List Int) (v c : Int) (w : World) (hS : Stk w B zs) (hn : n = zs.length) (h : okL zs = true) (hv : 0 ≤ v ∧ v < szL zs) (hc : -1000000000000 ≤ c ∧ c ≤ 1000000000000) :
    Calls Tryd.prog 81 #[(.slice (some ⟨B, 0, none⟩) n cap), .agg (diC (dgL zs v)).toArray, .int .i64 c] w fun e w' => ∃ r : Int, e = .returned (.tuple #[.agg (diC (dgL zs ((v + c) % szL zs))).toArray, .int .i64 r]) ∧ Below w.heap.size w w' := by
  have h1 := l01Add_any B n cap zs (dg (dgL zs v) 0) (dg (dgL zs v) 1) (dg (dgL zs v) 2) (dg (dgL zs v) 3) (dg (dgL zs v) 4) (dg (dgL zs v) 5) (dg (dgL zs v) 6) (dg (dgL zs v) 7) c w hS hn (dgL_octD zs v h) (by rw [dgs_list]; exact okV_dgL zs v h) hc
  rw [dgs_val zs v h hv] at h1
  refine h1.mono ?_
  rintro e w' ⟨rfl, hB⟩
  exact ⟨_, rfl, hB⟩
/-- l07Until at a device's row; b: backwards -/
theorem l07Until_dv (g B n cap : Nat) (zs : List Int) (v pr : Int) (st : Bool) (tk : Int) (b : Bool) (w : World) (hS : Stk w B zs) (hn : n = zs.length) (h : okL zs = true) (hv : 0 ≤ v ∧ v < szL zs) (hp : 0 ≤ pr ∧ pr < szL zs) (hR : Row w g 33 (dvC (.slice (some ⟨B, 0, none⟩) n cap) (dgL zs v) pr st tk)) :
    Calls Tryd.prog 80 #[.pointer (some ⟨g, 0, none⟩), .bool b] w (GivesB w (.int .i64 (untX ((pr - v) * (if b then -1 else 1)) (szL zs)))) := by
  cases b with
  | false =>
    have h1 := l07Until_on g B n cap zs (dg (dgL zs v) 0) (dg (dgL zs v) 1) (dg (dgL zs v) 2) (dg (dgL zs v) 3) (dg (dgL zs v) 4) (dg (dgL zs v) 5) (dg (dgL zs v) 6) (dg (dgL zs v) 7) pr st tk w hS hn (dgL_octD zs v h) (by rw [dgs_list]; exact okV_dgL zs v h) hp hR
    rw [dgs_val zs v h hv] at h1
    rw [if_neg (by decide), Int.mul_one]; exact h1
  | true =>
    have h1 := l07Until_back g B n cap zs (dg (dgL zs v) 0) (dg (dgL zs v) 1) (dg (dgL zs v) 2) (dg (dgL zs v) 3) (dg (dgL zs v) 4) (dg (dgL zs v) 5) (dg (dgL zs v) 6) (dg (dgL zs v) 7) pr st tk w hS hn (dgL_octD zs v h) (by rw [dgs_list]; exact okV_dgL zs v h) hp hR
    rw [dgs_val zs v h hv] at h1
    rw [if_pos rfl, show (pr - v) * (-1) = -(pr - v) by omega]; exact h1
set_option maxRecDepth 100000 in
set_option maxHeartbeats 8000000 in
theorem l07Until_none (g : Nat) (v0 : Value) (ds : List Int) (pr : Int) (st : Bool) (tk : Int) (b : Bool) (w : World) (hp : pr < 0) (hR : Row w g 33 (dvC v0 ds pr st tk)) :
    Calls Tryd.prog 80 #[.pointer (some ⟨g, 0, none⟩), .bool b] w (GivesB w (.int .i64 (-1))) := by
  have c9 : w.cell? ⟨g, 9, none⟩ = some (.int .i64 pr) := hR.cell 9
  have d9 : decide (pr < 0) = true := decide_eq_true hp
  go_enter Tryd.func80, Tryd.ntmps80
  go_wp2_with fail
  go_ret
  exact ⟨rfl, Below.refl _ _⟩
end Go.Proofs.YthifegbmpmialaaDoor

namespace Go.Proofs.YthifegbmpmialaaDoor
open Go.RowKit
set_option linter.unusedVariables false
set_option linter.unusedSimpArgs false
theorem dvC_range {w : World} {g : Nat} {e : TypeId} {v0 : Value} {ds : List Int} {pr : Int} {st : Bool} {tk : Int} (h : Row w g e (dvC v0 ds pr st tk)) : w.rangeAt g 1 (diC ds) := fun j v hj => by
  have hl : j < 8 := (List.getElem?_eq_some_iff.1 hj).1
  rw [h.cell (1 + j), ← hj]
  rcases (by omega : j = 0 ∨ j = 1 ∨ j = 2 ∨ j = 3 ∨ j = 4 ∨ j = 5 ∨ j = 6 ∨ j = 7) with rfl | rfl | rfl | rfl | rfl | rfl | rfl | rfl <;> rfl
theorem Tryd.infoDigQ : (Tryd.prog.info? 31).map (·.size) = some 8 := by kernel_rfl
/-- what counting leaves behind -/
def CntR (D : Nat) (row : List Value) (l : Int) (w : World) (e : Ending) (w' : World) : Prop :=
  e = .returned (.int .i64 l) ∧ Row w' D 33 row ∧ Below D w w' ∧ ∀ q, q < w.heap.size → q ≠ D → w'.heap[q]? = w.heap[q]?
set_option maxRecDepth 100000 in
set_option maxHeartbeats 8000000 in
theorem count_on (D B n cap : Nat) (zs : List Int) (v pr : Int) (tk x : Int) (b : Bool) (w : World) (hD : Row w D 33 (dvC (.slice (some ⟨B, 0, none⟩) n cap) (dgL zs v) pr true tk)) :
    Calls Tryd.prog 64 #[.pointer (some ⟨D, 0, none⟩), .int .i64 x, .bool b] w (CntR D (dvC (.slice (some ⟨B, 0, none⟩) n cap) (dgL zs v) pr true tk) x w) := by
  have c10 : w.cell? ⟨D, 10, none⟩ = some (.bool true) := hD.cell 10
  have HD := hid hD
  clear hD
  go_enter Tryd.func64, Tryd.ntmps64
  go_wp2_with fail
  go_ret
  exact ⟨rfl, HD.out, Below.refl _ _, fun _ _ _ => rfl⟩
set_option maxRecDepth 100000 in
set_option maxHeartbeats 8000000 in
theorem count_hf (D B n cap : Nat) (zs : List Int) (v pr : Int) (tk x A : Int) (w : World) (hBD : B < D) (y : Int) (hy : y = (v + A) % szL zs) (hD : Row w D 33 (dvC (.slice (some ⟨B, 0, none⟩) n cap) (dgL zs v) pr false tk)) (hS : Stk w B zs) (hn : n = zs.length) (hzL : okL zs = true) (hv : 0 ≤ v ∧ v < szL zs) (hx : 0 ≤ x ∧ x ≤ 1000000000000) (hU : Calls Tryd.prog 80 #[.pointer (some ⟨D, 0, none⟩), .bool false] w (GivesB w (.int .i64 A))) (hA : 0 ≤ A ∧ A ≤ x) :
    Calls Tryd.prog 64 #[.pointer (some ⟨D, 0, none⟩), .int .i64 x, .bool false] w (CntR D (dvC (.slice (some ⟨B, 0, none⟩) n cap) (dgL zs y) pr true tk) (x - A) w) := by
  have c10 : w.cell? ⟨D, 10, none⟩ = some (.bool false) := hD.cell 10
  have lD := hD.lt
  have HU := hid hU; have HD := hid hD; have HS := hid hS; have HN := hid hn; have HZL := hid hzL; have HV := hid hv; have HX := hid hx; have HA := hid hA; have HLD := hid lD
  have HYC := hid hy
  have HBD := hid hBD
  have d1 : decide (0 ≤ A) = true := decide_eq_true hA.1
  have d2 : decide (A ≤ x) = true := decide_eq_true hA.2
  have k1 := hA.1
  have k2 := hA.2
  have wl : IntKind.i64.wrap (x - A) = x - A := IntWalk.i64_in _ (by omega)
  have wn : IntKind.i64.wrap (-A) = -A := IntWalk.i64_in _ (by omega)
  clear hU hD hS hn hzL hv hx hA lD hy hBD
  go_enter Tryd.func64, Tryd.ntmps64
  go_wp2_with fail
  refine HU.out.mono ?_
  rintro e w1 ⟨rfl, hB1⟩
  have rD := HD.out.below hB1 HLD.out
  have lD := HLD.out
  have hz1 := hB1.size
  have hB1D := hB1.mono (Nat.le_of_lt lD)
  have f10 := rD.frozen 10
  have c10' : w1.cell? ⟨D, 10, none⟩ = some (.bool false) := rD.cell 10
  go_upto_region 11 with fail
  obtain ⟨W2, hW2⟩ : ∃ X, X = w1.setCell ⟨D, 10, none⟩ (.bool true) := ⟨_, rfl⟩
  have r2 : Row W2 D 33 (dvC (.slice (some ⟨B, 0, none⟩) n cap) (dgL zs v) pr true tk) := by rw [hW2]; exact rD.set 10 _
  have s2 : Stk W2 B zs := by
    have := HS.out.below hB1 HS.out.1
    rw [hW2]; exact this.below (n := D) ((Below.refl D w1).setCell (p := ⟨D, 10, none⟩) (Nat.le_refl _) _) HBD.out
  have bD2 : Below D w W2 := by rw [hW2]; exact hB1D.setCell (p := ⟨D, 10, none⟩) (Nat.le_refl _) _
  have kD2 : ∀ q, q < w.heap.size → q ≠ D → W2.heap[q]? = w.heap[q]? := fun q h1 h2 => by rw [hW2]; exact (Below.heap_setCell w1 _ _ _ h2).trans (hB1.block q h1)
  have z2 : w.heap.size ≤ W2.heap.size := by rw [hW2]; simpa using hz1
  rw [← hW2]
  clear hW2 rD c10 c10' f10 hB1 hB1D
  refine wp_region_held (S := fun W' : World => W'.cell? ⟨D, 0, none⟩ = some (.slice (some ⟨B, 0, none⟩) n cap)) (by kernel_rfl) ?_
  change wpAnyH _ _ _ _ _ _ _ _ (World.drew _)
  obtain ⟨W0, hW0⟩ : ∃ X, X = World.drew (W2) := ⟨_, rfl⟩
  have hD0 : Below (W2).heap.size (W2) W0 := by rw [hW0]; exact (Below.refl _ _).drew
  replace r2 := r2.below hD0 r2.lt
  replace s2 := s2.below hD0 s2.1
  have bW0 := (Below.refl W2.heap.size W2).trans (hD0.mono (Below.refl W2.heap.size W2).size)
  have bR : Below W0.heap.size W0 W0 := Below.refl _ _
  rw [← hW0]
  clear hW0 hD0
  have l_r2 := r2.lt
  have l_s2 := s2.1
  have hS0 : (fun W' : World => W'.cell? ⟨D, 0, none⟩ = some (.slice (some ⟨B, 0, none⟩) n cap)) W0 := r2.cell 0
  refine wpAnyH_takeD (some 35) (i := 0) (v := ?_) rfl rfl (by kernel_rfl) (by kernel_rfl) (by kernel_rfl) (fun _ _ _ h => h) (.inl ⟨by kernel_rfl, ?_⟩) hS0 ?_
  rotate_left
  · intro w' hw'; go_simp; try with_reducible rfl
  try simp only [Act.put, List.setIfInBounds_toArray, List.set_cons_zero, List.set_cons_succ]
  refine wpAnyH_takeD (some 36) (i := 1) (v := ?_) rfl rfl (by kernel_rfl) (by kernel_rfl) (by kernel_rfl) (fun _ _ _ h => h) (.inl ⟨by kernel_rfl, ?_⟩) hS0 ?_
  rotate_left
  · intro w' hw'; go_simp; try with_reducible rfl
  try simp only [Act.put, List.setIfInBounds_toArray, List.set_cons_zero, List.set_cons_succ]
  refine wpAnyH_takeD (some 37) (i := 2) (v := ?_) rfl rfl (by kernel_rfl) (by kernel_rfl) (by kernel_rfl) (fun _ _ _ h => h) (.inl ⟨by kernel_rfl, ?_⟩) hS0 ?_
  rotate_left
  · intro w' hw'; go_simp; try with_reducible rfl
  try simp only [Act.put, List.setIfInBounds_toArray, List.set_cons_zero, List.set_cons_succ]
  refine wpAnyH_takeD (some 38) (i := 3) (v := ?_) rfl rfl (by kernel_rfl) (by kernel_rfl) (by kernel_rfl) (fun _ _ _ h => h) (.inl ⟨by kernel_rfl, ?_⟩) hS0 ?_
  rotate_left
  · intro w' hw'; have e0 := hw'; clear hw'; go_simp; try with_reducible rfl
  try simp only [Act.put, List.setIfInBounds_toArray, List.set_cons_zero, List.set_cons_succ]
  refine wpAnyH_takeD (some 39) (i := 4) (v := ?_) rfl rfl (by kernel_rfl) (by kernel_rfl) (by kernel_rfl) (fun _ _ _ h => h) (.inl ⟨by kernel_rfl, ?_⟩) hS0 ?_
  rotate_left
  · intro w' hw'; have e0 := hw'; clear hw'; go_simp; try with_reducible rfl
  try simp only [Act.put, List.setIfInBounds_toArray, List.set_cons_zero, List.set_cons_succ]
  refine wpAnyH_takeD (some 40) (i := 5) (v := ?_) rfl rfl (by kernel_rfl) (by kernel_rfl) (by kernel_rfl) (fun _ _ _ h => h) (.inl ⟨by kernel_rfl, ?_⟩) hS0 ?_
  rotate_left
  · intro w' hw'; go_simp; try with_reducible rfl
  try simp only [Act.put, List.setIfInBounds_toArray, List.set_cons_zero, List.set_cons_succ]
  refine wpAnyH_takeD (some 41) (i := 6) (v := ?_) rfl rfl (by kernel_rfl) (by kernel_rfl) (by kernel_rfl) (fun _ _ _ h => h) (.inl ⟨by kernel_rfl, ?_⟩) hS0 ?_
  rotate_left
  · intro w' hw'; go_simp; try with_reducible rfl
  try simp only [Act.put, List.setIfInBounds_toArray, List.set_cons_zero, List.set_cons_succ]
  refine wpAnyH_takeD (some 42) (i := 7) (v := ?_) rfl rfl (by kernel_rfl) (by kernel_rfl) (by kernel_rfl) (fun _ _ _ h => h) (.inl ⟨by kernel_rfl, ?_⟩) hS0 ?_
  rotate_left
  · intro w' hw'; have e0 := hw'; clear hw'; go_simp; try with_reducible rfl
  try simp only [Act.put, List.setIfInBounds_toArray, List.set_cons_zero, List.set_cons_succ]
  refine wpAnyH_takeD (some 44) (i := 9) (v := ?_) rfl rfl (by kernel_rfl) (by kernel_rfl) (by kernel_rfl) (fun _ _ _ h => h) (.inl ⟨by kernel_rfl, ?_⟩) hS0 ?_
  rotate_left
  · intro w' hw'; go_simp; try with_reducible rfl
  try simp only [Act.put, List.setIfInBounds_toArray, List.set_cons_zero, List.set_cons_succ]
  refine wpAnyH_all (rs := [8]) (by kernel_rfl) (by simp) ?_
  intro i hi; simp only [List.mem_cons, List.not_mem_nil, or_false] at hi
  subst hi
  refine wpOp_step rfl (fun K hK => ?_)
  rw [if_pos (by kernel_rfl)]
  refine wp_load_mid 31 _ rfl D 1 rfl (diC (dgL zs v)) _ (dvC_range r2) Tryd.underlying31 rfl Tryd.infoDigQ ?_
  refine hK _ _ ⟨hS0, ?_⟩
  try simp only [Act.put, List.setIfInBounds_toArray, List.set_cons_zero, List.set_cons_succ]
  clear hK K
  refine wpAnyH_all (rs := [10]) (by kernel_rfl) (by simp) ?_
  intro i hi; simp only [List.mem_cons, List.not_mem_nil, or_false] at hi
  subst hi
  refine wpOp_step rfl (fun K hK => ?_)
  go_simp
  with_reducible refine (l01Add_dg B n cap zs v A W0 s2 HN.out HZL.out HV.out (by have := HX.out; omega)).mono ?_
  rintro e v2 ⟨r, rfl, hB2⟩
  replace r2 := r2.below hB2 r2.lt
  replace s2 := s2.below hB2 s2.1
  replace bR := bR.trans (hB2.mono bR.size)
  have hS2 : (fun W' : World => W'.cell? ⟨D, 0, none⟩ = some (.slice (some ⟨B, 0, none⟩) n cap)) v2 := by first | exact r2.cell 0 | exact nD.cell 0
  refine hK _ _ ⟨hS2, ?_⟩
  try simp only [Act.put, List.setIfInBounds_toArray, List.set_cons_zero, List.set_cons_succ]
  clear hB2 hK K hS0
  refine wpAnyH_takeD (some 34) (i := 11) (v := ?_) rfl rfl (by kernel_rfl) (by kernel_rfl) (by kernel_rfl) (fun _ _ _ h => h) (.inl ⟨by kernel_rfl, ?_⟩) hS2 ?_
  rotate_left
  · intro w' hw'; go_simp; try with_reducible rfl
  try simp only [Act.put, List.setIfInBounds_toArray, List.set_cons_zero, List.set_cons_succ]
  refine wpAnyH_takeD (some 46) (i := 12) (v := ?_) rfl rfl (by kernel_rfl) (by kernel_rfl) (by kernel_rfl) (fun _ _ _ h => h) (.inl ⟨by kernel_rfl, ?_⟩) hS2 ?_
  rotate_left
  · intro w' hw'; go_simp; try with_reducible rfl
  try simp only [Act.put, List.setIfInBounds_toArray, List.set_cons_zero, List.set_cons_succ]
  refine wpAnyH_takeD (some 47) (i := 13) (v := ?_) rfl rfl (by kernel_rfl) (by kernel_rfl) (by kernel_rfl) (fun _ _ _ h => h) (.inl ⟨by kernel_rfl, ?_⟩) hS2 ?_
  rotate_left
  · intro w' hw'; go_simp; try with_reducible rfl
  try simp only [Act.put, List.setIfInBounds_toArray, List.set_cons_zero, List.set_cons_succ]
  refine wpAnyH_takeD (some 48) (i := 14) (v := ?_) rfl rfl (by kernel_rfl) (by kernel_rfl) (by kernel_rfl) (fun _ _ _ h => h) (.inl ⟨by kernel_rfl, ?_⟩) hS2 ?_
  rotate_left
  · intro w' hw'; go_simp; try with_reducible rfl
  try simp only [Act.put, List.setIfInBounds_toArray, List.set_cons_zero, List.set_cons_succ]
  refine wpAnyH_takeD (some 49) (i := 15) (v := ?_) rfl rfl (by kernel_rfl) (by kernel_rfl) (by kernel_rfl) (fun _ _ _ h => h) (.inl ⟨by kernel_rfl, ?_⟩) hS2 ?_
  rotate_left
  · intro w' hw'; have e0 := hw'; clear hw'; go_simp; try with_reducible rfl
  try simp only [Act.put, List.setIfInBounds_toArray, List.set_cons_zero, List.set_cons_succ]
  refine wpAnyH_all (rs := [16]) (by kernel_rfl) (by simp) ?_
  intro i hi; simp only [List.mem_cons, List.not_mem_nil, or_false] at hi
  subst hi
  refine wpOp_step rfl (fun K hK => ?_)
  rw [if_pos (by kernel_rfl)]
  refine wp_store_mid 31 (.tmp 49) (.tmp 46) rfl (D) 1 (diC (dgL zs ((v + A) % szL zs)) : List Value).toArray rfl rfl (r2.thereO 1 8 (by rw [dvC_len]; omega)) Tryd.infoDigQ (all_oneCell_toArray (diC_one _)) ?_
  obtain ⟨X3, hX3⟩ : ∃ X, X = World.setCells v2 (D) 1 (diC (dgL zs ((v + A) % szL zs)) : List Value) := ⟨_, rfl⟩
  have nD : Row X3 D 33 (dvC (.slice (some ⟨B, 0, none⟩) n cap) (dgL zs y) pr true tk) := by rw [hX3, HYC.out]; exact r2.setDigs _
  have bb := (bW0.trans (bR.mono bW0.size))
  have nB : Below D w X3 := by rw [hX3]; exact below_setCellsD _ 1 _ (bD2.trans (bb.mono (by omega))) (Nat.le_refl _)
  have nK : ∀ q, q < w.heap.size → q ≠ D → (World.heap X3)[q]? = w.heap[q]? := fun q h1 h2 => by rw [hX3, other_setCellsD (g := D) h2]; exact (bb.block q (by omega)).trans (kD2 q h1 h2)
  have hS3 : (fun W' : World => W'.cell? ⟨D, 0, none⟩ = some (.slice (some ⟨B, 0, none⟩) n cap)) X3 := by first | exact r2.cell 0 | exact nD.cell 0
  have hXX3 : World.setCells v2 (D) 1 (diC (dgL zs ((v + A) % szL zs)) : List Value).toArray.toList = X3 := hX3.symm
  rw [hXX3]
  refine hK _ _ ⟨hS3, ?_⟩
  try simp only [Act.put, List.setIfInBounds_toArray, List.set_cons_zero, List.set_cons_succ]
  clear hX3 hXX3 hK K hS2
  refine wpAnyH_done (by kernel_rfl) ?_ _
  go_wp2_with fail
  go_ret
  exact ⟨rfl, nD, nB, nK⟩
set_option maxRecDepth 100000 in
set_option maxHeartbeats 8000000 in
theorem count_hb (D B n cap : Nat) (zs : List Int) (v pr : Int) (tk x A : Int) (w : World) (hBD : B < D) (y : Int) (hy : y = (v + (-A)) % szL zs) (hD : Row w D 33 (dvC (.slice (some ⟨B, 0, none⟩) n cap) (dgL zs v) pr false tk)) (hS : Stk w B zs) (hn : n = zs.length) (hzL : okL zs = true) (hv : 0 ≤ v ∧ v < szL zs) (hx : 0 ≤ x ∧ x ≤ 1000000000000) (hU : Calls Tryd.prog 80 #[.pointer (some ⟨D, 0, none⟩), .bool true] w (GivesB w (.int .i64 A))) (hA : 0 ≤ A ∧ A ≤ x) :
    Calls Tryd.prog 64 #[.pointer (some ⟨D, 0, none⟩), .int .i64 x, .bool true] w (CntR D (dvC (.slice (some ⟨B, 0, none⟩) n cap) (dgL zs y) pr true tk) (x - A) w) := by
  have c10 : w.cell? ⟨D, 10, none⟩ = some (.bool false) := hD.cell 10
  have lD := hD.lt
  have HU := hid hU; have HD := hid hD; have HS := hid hS; have HN := hid hn; have HZL := hid hzL; have HV := hid hv; have HX := hid hx; have HA := hid hA; have HLD := hid lD
  have HYC := hid hy
  have HBD := hid hBD
  have d1 : decide (0 ≤ A) = true := decide_eq_true hA.1
  have d2 : decide (A ≤ x) = true := decide_eq_true hA.2
  have k1 := hA.1
  have k2 := hA.2
  have wl : IntKind.i64.wrap (x - A) = x - A := IntWalk.i64_in _ (by omega)
  have wn : IntKind.i64.wrap (-A) = -A := IntWalk.i64_in _ (by omega)
  clear hU hD hS hn hzL hv hx hA lD hy hBD
  go_enter Tryd.func64, Tryd.ntmps64
  go_wp2_with fail
  refine HU.out.mono ?_
  rintro e w1 ⟨rfl, hB1⟩
  have rD := HD.out.below hB1 HLD.out
  have lD := HLD.out
  have hz1 := hB1.size
  have hB1D := hB1.mono (Nat.le_of_lt lD)
  have f10 := rD.frozen 10
  have c10' : w1.cell? ⟨D, 10, none⟩ = some (.bool false) := rD.cell 10
  go_upto_region 11 with fail
  obtain ⟨W2, hW2⟩ : ∃ X, X = w1.setCell ⟨D, 10, none⟩ (.bool true) := ⟨_, rfl⟩
  have r2 : Row W2 D 33 (dvC (.slice (some ⟨B, 0, none⟩) n cap) (dgL zs v) pr true tk) := by rw [hW2]; exact rD.set 10 _
  have s2 : Stk W2 B zs := by
    have := HS.out.below hB1 HS.out.1
    rw [hW2]; exact this.below (n := D) ((Below.refl D w1).setCell (p := ⟨D, 10, none⟩) (Nat.le_refl _) _) HBD.out
  have bD2 : Below D w W2 := by rw [hW2]; exact hB1D.setCell (p := ⟨D, 10, none⟩) (Nat.le_refl _) _
  have kD2 : ∀ q, q < w.heap.size → q ≠ D → W2.heap[q]? = w.heap[q]? := fun q h1 h2 => by rw [hW2]; exact (Below.heap_setCell w1 _ _ _ h2).trans (hB1.block q h1)
  have z2 : w.heap.size ≤ W2.heap.size := by rw [hW2]; simpa using hz1
  rw [← hW2]
  clear hW2 rD c10 c10' f10 hB1 hB1D
  refine wp_region_held (S := fun W' : World => W'.cell? ⟨D, 0, none⟩ = some (.slice (some ⟨B, 0, none⟩) n cap)) (by kernel_rfl) ?_
  change wpAnyH _ _ _ _ _ _ _ _ (World.drew _)
  obtain ⟨W0, hW0⟩ : ∃ X, X = World.drew (W2) := ⟨_, rfl⟩
  have hD0 : Below (W2).heap.size (W2) W0 := by rw [hW0]; exact (Below.refl _ _).drew
  replace r2 := r2.below hD0 r2.lt
  replace s2 := s2.below hD0 s2.1
  have bW0 := (Below.refl W2.heap.size W2).trans (hD0.mono (Below.refl W2.heap.size W2).size)
  have bR : Below W0.heap.size W0 W0 := Below.refl _ _
  rw [← hW0]
  clear hW0 hD0
  have l_r2 := r2.lt
  have l_s2 := s2.1
  have hS0 : (fun W' : World => W'.cell? ⟨D, 0, none⟩ = some (.slice (some ⟨B, 0, none⟩) n cap)) W0 := r2.cell 0
  refine wpAnyH_takeD (some 35) (i := 0) (v := ?_) rfl rfl (by kernel_rfl) (by kernel_rfl) (by kernel_rfl) (fun _ _ _ h => h) (.inl ⟨by kernel_rfl, ?_⟩) hS0 ?_
  rotate_left
  · intro w' hw'; go_simp; try with_reducible rfl
  try simp only [Act.put, List.setIfInBounds_toArray, List.set_cons_zero, List.set_cons_succ]
  refine wpAnyH_takeD (some 36) (i := 1) (v := ?_) rfl rfl (by kernel_rfl) (by kernel_rfl) (by kernel_rfl) (fun _ _ _ h => h) (.inl ⟨by kernel_rfl, ?_⟩) hS0 ?_
  rotate_left
  · intro w' hw'; go_simp; try with_reducible rfl
  try simp only [Act.put, List.setIfInBounds_toArray, List.set_cons_zero, List.set_cons_succ]
  refine wpAnyH_takeD (some 37) (i := 2) (v := ?_) rfl rfl (by kernel_rfl) (by kernel_rfl) (by kernel_rfl) (fun _ _ _ h => h) (.inl ⟨by kernel_rfl, ?_⟩) hS0 ?_
  rotate_left
  · intro w' hw'; go_simp; try with_reducible rfl
  try simp only [Act.put, List.setIfInBounds_toArray, List.set_cons_zero, List.set_cons_succ]
  refine wpAnyH_takeD (some 38) (i := 3) (v := ?_) rfl rfl (by kernel_rfl) (by kernel_rfl) (by kernel_rfl) (fun _ _ _ h => h) (.inl ⟨by kernel_rfl, ?_⟩) hS0 ?_
  rotate_left
  · intro w' hw'; have e0 := hw'; clear hw'; go_simp; try with_reducible rfl
  try simp only [Act.put, List.setIfInBounds_toArray, List.set_cons_zero, List.set_cons_succ]
  refine wpAnyH_takeD (some 39) (i := 4) (v := ?_) rfl rfl (by kernel_rfl) (by kernel_rfl) (by kernel_rfl) (fun _ _ _ h => h) (.inl ⟨by kernel_rfl, ?_⟩) hS0 ?_
  rotate_left
  · intro w' hw'; have e0 := hw'; clear hw'; go_simp; try with_reducible rfl
  try simp only [Act.put, List.setIfInBounds_toArray, List.set_cons_zero, List.set_cons_succ]
  refine wpAnyH_takeD (some 40) (i := 5) (v := ?_) rfl rfl (by kernel_rfl) (by kernel_rfl) (by kernel_rfl) (fun _ _ _ h => h) (.inl ⟨by kernel_rfl, ?_⟩) hS0 ?_
  rotate_left
  · intro w' hw'; go_simp; try with_reducible rfl
  try simp only [Act.put, List.setIfInBounds_toArray, List.set_cons_zero, List.set_cons_succ]
  refine wpAnyH_takeD (some 41) (i := 6) (v := ?_) rfl rfl (by kernel_rfl) (by kernel_rfl) (by kernel_rfl) (fun _ _ _ h => h) (.inl ⟨by kernel_rfl, ?_⟩) hS0 ?_
  rotate_left
  · intro w' hw'; go_simp; try with_reducible rfl
  try simp only [Act.put, List.setIfInBounds_toArray, List.set_cons_zero, List.set_cons_succ]
  refine wpAnyH_takeD (some 42) (i := 7) (v := ?_) rfl rfl (by kernel_rfl) (by kernel_rfl) (by kernel_rfl) (fun _ _ _ h => h) (.inl ⟨by kernel_rfl, ?_⟩) hS0 ?_
  rotate_left
  · intro w' hw'; have e0 := hw'; clear hw'; go_simp; try with_reducible rfl
  try simp only [Act.put, List.setIfInBounds_toArray, List.set_cons_zero, List.set_cons_succ]
  refine wpAnyH_takeD (some 44) (i := 9) (v := ?_) rfl rfl (by kernel_rfl) (by kernel_rfl) (by kernel_rfl) (fun _ _ _ h => h) (.inl ⟨by kernel_rfl, ?_⟩) hS0 ?_
  rotate_left
  · intro w' hw'; go_simp; try with_reducible rfl
  try simp only [Act.put, List.setIfInBounds_toArray, List.set_cons_zero, List.set_cons_succ]
  refine wpAnyH_all (rs := [8]) (by kernel_rfl) (by simp) ?_
  intro i hi; simp only [List.mem_cons, List.not_mem_nil, or_false] at hi
  subst hi
  refine wpOp_step rfl (fun K hK => ?_)
  rw [if_pos (by kernel_rfl)]
  refine wp_load_mid 31 _ rfl D 1 rfl (diC (dgL zs v)) _ (dvC_range r2) Tryd.underlying31 rfl Tryd.infoDigQ ?_
  refine hK _ _ ⟨hS0, ?_⟩
  try simp only [Act.put, List.setIfInBounds_toArray, List.set_cons_zero, List.set_cons_succ]
  clear hK K
  refine wpAnyH_all (rs := [10]) (by kernel_rfl) (by simp) ?_
  intro i hi; simp only [List.mem_cons, List.not_mem_nil, or_false] at hi
  subst hi
  refine wpOp_step rfl (fun K hK => ?_)
  go_simp
  with_reducible refine (l01Add_dg B n cap zs v (-A) W0 s2 HN.out HZL.out HV.out (by have := HX.out; omega)).mono ?_
  rintro e v2 ⟨r, rfl, hB2⟩
  replace r2 := r2.below hB2 r2.lt
  replace s2 := s2.below hB2 s2.1
  replace bR := bR.trans (hB2.mono bR.size)
  have hS2 : (fun W' : World => W'.cell? ⟨D, 0, none⟩ = some (.slice (some ⟨B, 0, none⟩) n cap)) v2 := by first | exact r2.cell 0 | exact nD.cell 0
  refine hK _ _ ⟨hS2, ?_⟩
  try simp only [Act.put, List.setIfInBounds_toArray, List.set_cons_zero, List.set_cons_succ]
  clear hB2 hK K hS0
  refine wpAnyH_takeD (some 34) (i := 11) (v := ?_) rfl rfl (by kernel_rfl) (by kernel_rfl) (by kernel_rfl) (fun _ _ _ h => h) (.inl ⟨by kernel_rfl, ?_⟩) hS2 ?_
  rotate_left
  · intro w' hw'; go_simp; try with_reducible rfl
  try simp only [Act.put, List.setIfInBounds_toArray, List.set_cons_zero, List.set_cons_succ]
  refine wpAnyH_takeD (some 46) (i := 12) (v := ?_) rfl rfl (by kernel_rfl) (by kernel_rfl) (by kernel_rfl) (fun _ _ _ h => h) (.inl ⟨by kernel_rfl, ?_⟩) hS2 ?_
  rotate_left
  · intro w' hw'; go_simp; try with_reducible rfl
  try simp only [Act.put, List.setIfInBounds_toArray, List.set_cons_zero, List.set_cons_succ]
  refine wpAnyH_takeD (some 47) (i := 13) (v := ?_) rfl rfl (by kernel_rfl) (by kernel_rfl) (by kernel_rfl) (fun _ _ _ h => h) (.inl ⟨by kernel_rfl, ?_⟩) hS2 ?_
  rotate_left
  · intro w' hw'; go_simp; try with_reducible rfl
  try simp only [Act.put, List.setIfInBounds_toArray, List.set_cons_zero, List.set_cons_succ]
  refine wpAnyH_takeD (some 48) (i := 14) (v := ?_) rfl rfl (by kernel_rfl) (by kernel_rfl) (by kernel_rfl) (fun _ _ _ h => h) (.inl ⟨by kernel_rfl, ?_⟩) hS2 ?_
  rotate_left
  · intro w' hw'; go_simp; try with_reducible rfl
  try simp only [Act.put, List.setIfInBounds_toArray, List.set_cons_zero, List.set_cons_succ]
  refine wpAnyH_takeD (some 49) (i := 15) (v := ?_) rfl rfl (by kernel_rfl) (by kernel_rfl) (by kernel_rfl) (fun _ _ _ h => h) (.inl ⟨by kernel_rfl, ?_⟩) hS2 ?_
  rotate_left
  · intro w' hw'; have e0 := hw'; clear hw'; go_simp; try with_reducible rfl
  try simp only [Act.put, List.setIfInBounds_toArray, List.set_cons_zero, List.set_cons_succ]
  refine wpAnyH_all (rs := [16]) (by kernel_rfl) (by simp) ?_
  intro i hi; simp only [List.mem_cons, List.not_mem_nil, or_false] at hi
  subst hi
  refine wpOp_step rfl (fun K hK => ?_)
  rw [if_pos (by kernel_rfl)]
  refine wp_store_mid 31 (.tmp 49) (.tmp 46) rfl (D) 1 (diC (dgL zs ((v + (-A)) % szL zs)) : List Value).toArray rfl rfl (r2.thereO 1 8 (by rw [dvC_len]; omega)) Tryd.infoDigQ (all_oneCell_toArray (diC_one _)) ?_
  obtain ⟨X3, hX3⟩ : ∃ X, X = World.setCells v2 (D) 1 (diC (dgL zs ((v + (-A)) % szL zs)) : List Value) := ⟨_, rfl⟩
  have nD : Row X3 D 33 (dvC (.slice (some ⟨B, 0, none⟩) n cap) (dgL zs y) pr true tk) := by rw [hX3, HYC.out]; exact r2.setDigs _
  have bb := (bW0.trans (bR.mono bW0.size))
  have nB : Below D w X3 := by rw [hX3]; exact below_setCellsD _ 1 _ (bD2.trans (bb.mono (by omega))) (Nat.le_refl _)
  have nK : ∀ q, q < w.heap.size → q ≠ D → (World.heap X3)[q]? = w.heap[q]? := fun q h1 h2 => by rw [hX3, other_setCellsD (g := D) h2]; exact (bb.block q (by omega)).trans (kD2 q h1 h2)
  have hS3 : (fun W' : World => W'.cell? ⟨D, 0, none⟩ = some (.slice (some ⟨B, 0, none⟩) n cap)) X3 := by first | exact r2.cell 0 | exact nD.cell 0
  have hXX3 : World.setCells v2 (D) 1 (diC (dgL zs ((v + (-A)) % szL zs)) : List Value).toArray.toList = X3 := hX3.symm
  rw [hXX3]
  refine hK _ _ ⟨hS3, ?_⟩
  try simp only [Act.put, List.setIfInBounds_toArray, List.set_cons_zero, List.set_cons_succ]
  clear hX3 hXX3 hK K hS2
  refine wpAnyH_done (by kernel_rfl) ?_ _
  go_wp2_with fail
  go_ret
  exact ⟨rfl, nD, nB, nK⟩
set_option maxRecDepth 100000 in
set_option maxHeartbeats 8000000 in
theorem count_mf (D B n cap : Nat) (zs : List Int) (v pr : Int) (tk x A : Int) (w : World) (hBD : B < D) (y : Int) (hy : y = (v + x) % szL zs) (hD : Row w D 33 (dvC (.slice (some ⟨B, 0, none⟩) n cap) (dgL zs v) pr false tk)) (hS : Stk w B zs) (hn : n = zs.length) (hzL : okL zs = true) (hv : 0 ≤ v ∧ v < szL zs) (hx : 0 ≤ x ∧ x ≤ 1000000000000) (hU : Calls Tryd.prog 80 #[.pointer (some ⟨D, 0, none⟩), .bool false] w (GivesB w (.int .i64 A))) (hA : ¬ (0 ≤ A ∧ A ≤ x)) :
    Calls Tryd.prog 64 #[.pointer (some ⟨D, 0, none⟩), .int .i64 x, .bool false] w (CntR D (dvC (.slice (some ⟨B, 0, none⟩) n cap) (dgL zs y) pr false tk) 0 w) := by
  have c10 : w.cell? ⟨D, 10, none⟩ = some (.bool false) := hD.cell 10
  have lD := hD.lt
  have HU := hid hU; have HD := hid hD; have HS := hid hS; have HN := hid hn; have HZL := hid hzL; have HV := hid hv; have HX := hid hx; have HA := hid hA; have HLD := hid lD
  have HYC := hid hy
  have HBD := hid hBD
  have wn : IntKind.i64.wrap (-x) = -x := IntWalk.i64_in _ (by omega)
  clear hU hD hS hn hzL hv hx hA lD hy hBD
  go_enter Tryd.func64, Tryd.ntmps64
  go_wp2_with fail
  refine HU.out.mono ?_
  rintro e w1 ⟨rfl, hB1⟩
  have rD := HD.out.below hB1 HLD.out
  have lD := HLD.out
  have hz1 := hB1.size
  have hB1D := hB1.mono (Nat.le_of_lt lD)
  have f10 := rD.frozen 10
  have c10' : w1.cell? ⟨D, 10, none⟩ = some (.bool false) := rD.cell 10
  have hAA := HA.out
  by_cases q0 : 0 ≤ A
  all_goals (first | (have d1 : decide (0 ≤ A) = true := decide_eq_true q0; have q1 : ¬ A ≤ x := fun h => hAA ⟨q0, h⟩; have d2 : decide (A ≤ x) = false := decide_eq_false q1) | (have d1 : decide (0 ≤ A) = false := decide_eq_false q0))
  all_goals clear hAA
  all_goals (go_upto_region 11 with fail)
  all_goals (obtain ⟨W2, hW2⟩ : ∃ X, X = w1 := ⟨_, rfl⟩)
  all_goals (have r2 : Row W2 D 33 (dvC (.slice (some ⟨B, 0, none⟩) n cap) (dgL zs v) pr false tk) := by rw [hW2]; exact rD)
  all_goals (have s2 : Stk W2 B zs := by rw [hW2]; exact HS.out.below hB1 HS.out.1)
  all_goals (have bD2 : Below D w W2 := by rw [hW2]; exact hB1D)
  all_goals (have kD2 : ∀ q, q < w.heap.size → q ≠ D → W2.heap[q]? = w.heap[q]? := fun q h1 h2 => by rw [hW2]; exact hB1.block q h1)
  all_goals (have z2 : w.heap.size ≤ W2.heap.size := by rw [hW2]; exact hz1)
  all_goals (rw [← hW2]; clear hW2 rD c10 c10' f10 hB1 hB1D)
  all_goals (
    refine wp_region_held (S := fun W' : World => W'.cell? ⟨D, 0, none⟩ = some (.slice (some ⟨B, 0, none⟩) n cap)) (by kernel_rfl) ?_
    change wpAnyH _ _ _ _ _ _ _ _ (World.drew _)
    obtain ⟨W0, hW0⟩ : ∃ X, X = World.drew (W2) := ⟨_, rfl⟩
    have hD0 : Below (W2).heap.size (W2) W0 := by rw [hW0]; exact (Below.refl _ _).drew
    replace r2 := r2.below hD0 r2.lt
    replace s2 := s2.below hD0 s2.1
    have bW0 := (Below.refl W2.heap.size W2).trans (hD0.mono (Below.refl W2.heap.size W2).size)
    have bR : Below W0.heap.size W0 W0 := Below.refl _ _
    rw [← hW0]
    clear hW0 hD0
    have l_r2 := r2.lt
    have l_s2 := s2.1
    have hS0 : (fun W' : World => W'.cell? ⟨D, 0, none⟩ = some (.slice (some ⟨B, 0, none⟩) n cap)) W0 := r2.cell 0
    refine wpAnyH_takeD (some 35) (i := 0) (v := ?_) rfl rfl (by kernel_rfl) (by kernel_rfl) (by kernel_rfl) (fun _ _ _ h => h) (.inl ⟨by kernel_rfl, ?_⟩) hS0 ?_
    rotate_left
    · intro w' hw'; go_simp; try with_reducible rfl
    try simp only [Act.put, List.setIfInBounds_toArray, List.set_cons_zero, List.set_cons_succ]
    refine wpAnyH_takeD (some 36) (i := 1) (v := ?_) rfl rfl (by kernel_rfl) (by kernel_rfl) (by kernel_rfl) (fun _ _ _ h => h) (.inl ⟨by kernel_rfl, ?_⟩) hS0 ?_
    rotate_left
    · intro w' hw'; go_simp; try with_reducible rfl
    try simp only [Act.put, List.setIfInBounds_toArray, List.set_cons_zero, List.set_cons_succ]
    refine wpAnyH_takeD (some 37) (i := 2) (v := ?_) rfl rfl (by kernel_rfl) (by kernel_rfl) (by kernel_rfl) (fun _ _ _ h => h) (.inl ⟨by kernel_rfl, ?_⟩) hS0 ?_
    rotate_left
    · intro w' hw'; go_simp; try with_reducible rfl
    try simp only [Act.put, List.setIfInBounds_toArray, List.set_cons_zero, List.set_cons_succ]
    refine wpAnyH_takeD (some 38) (i := 3) (v := ?_) rfl rfl (by kernel_rfl) (by kernel_rfl) (by kernel_rfl) (fun _ _ _ h => h) (.inl ⟨by kernel_rfl, ?_⟩) hS0 ?_
    rotate_left
    · intro w' hw'; have e0 := hw'; clear hw'; go_simp; try with_reducible rfl
    try simp only [Act.put, List.setIfInBounds_toArray, List.set_cons_zero, List.set_cons_succ]
    refine wpAnyH_takeD (some 39) (i := 4) (v := ?_) rfl rfl (by kernel_rfl) (by kernel_rfl) (by kernel_rfl) (fun _ _ _ h => h) (.inl ⟨by kernel_rfl, ?_⟩) hS0 ?_
    rotate_left
    · intro w' hw'; have e0 := hw'; clear hw'; go_simp; try with_reducible rfl
    try simp only [Act.put, List.setIfInBounds_toArray, List.set_cons_zero, List.set_cons_succ]
    refine wpAnyH_takeD (some 40) (i := 5) (v := ?_) rfl rfl (by kernel_rfl) (by kernel_rfl) (by kernel_rfl) (fun _ _ _ h => h) (.inl ⟨by kernel_rfl, ?_⟩) hS0 ?_
    rotate_left
    · intro w' hw'; go_simp; try with_reducible rfl
    try simp only [Act.put, List.setIfInBounds_toArray, List.set_cons_zero, List.set_cons_succ]
    refine wpAnyH_takeD (some 41) (i := 6) (v := ?_) rfl rfl (by kernel_rfl) (by kernel_rfl) (by kernel_rfl) (fun _ _ _ h => h) (.inl ⟨by kernel_rfl, ?_⟩) hS0 ?_
    rotate_left
    · intro w' hw'; go_simp; try with_reducible rfl
    try simp only [Act.put, List.setIfInBounds_toArray, List.set_cons_zero, List.set_cons_succ]
    refine wpAnyH_takeD (some 42) (i := 7) (v := ?_) rfl rfl (by kernel_rfl) (by kernel_rfl) (by kernel_rfl) (fun _ _ _ h => h) (.inl ⟨by kernel_rfl, ?_⟩) hS0 ?_
    rotate_left
    · intro w' hw'; have e0 := hw'; clear hw'; go_simp; try with_reducible rfl
    try simp only [Act.put, List.setIfInBounds_toArray, List.set_cons_zero, List.set_cons_succ]
    refine wpAnyH_takeD (some 44) (i := 9) (v := ?_) rfl rfl (by kernel_rfl) (by kernel_rfl) (by kernel_rfl) (fun _ _ _ h => h) (.inl ⟨by kernel_rfl, ?_⟩) hS0 ?_
    rotate_left
    · intro w' hw'; go_simp; try with_reducible rfl
    try simp only [Act.put, List.setIfInBounds_toArray, List.set_cons_zero, List.set_cons_succ]
    refine wpAnyH_all (rs := [8]) (by kernel_rfl) (by simp) ?_
    intro i hi; simp only [List.mem_cons, List.not_mem_nil, or_false] at hi
    subst hi
    refine wpOp_step rfl (fun K hK => ?_)
    rw [if_pos (by kernel_rfl)]
    refine wp_load_mid 31 _ rfl D 1 rfl (diC (dgL zs v)) _ (dvC_range r2) Tryd.underlying31 rfl Tryd.infoDigQ ?_
    refine hK _ _ ⟨hS0, ?_⟩
    try simp only [Act.put, List.setIfInBounds_toArray, List.set_cons_zero, List.set_cons_succ]
    clear hK K
    refine wpAnyH_all (rs := [10]) (by kernel_rfl) (by simp) ?_
    intro i hi; simp only [List.mem_cons, List.not_mem_nil, or_false] at hi
    subst hi
    refine wpOp_step rfl (fun K hK => ?_)
    go_simp
    with_reducible refine (l01Add_dg B n cap zs v x W0 s2 HN.out HZL.out HV.out (by have := HX.out; omega)).mono ?_
    rintro e v2 ⟨r, rfl, hB2⟩
    replace r2 := r2.below hB2 r2.lt
    replace s2 := s2.below hB2 s2.1
    replace bR := bR.trans (hB2.mono bR.size)
    have hS2 : (fun W' : World => W'.cell? ⟨D, 0, none⟩ = some (.slice (some ⟨B, 0, none⟩) n cap)) v2 := by first | exact r2.cell 0 | exact nD.cell 0
    refine hK _ _ ⟨hS2, ?_⟩
    try simp only [Act.put, List.setIfInBounds_toArray, List.set_cons_zero, List.set_cons_succ]
    clear hB2 hK K hS0
    refine wpAnyH_takeD (some 34) (i := 11) (v := ?_) rfl rfl (by kernel_rfl) (by kernel_rfl) (by kernel_rfl) (fun _ _ _ h => h) (.inl ⟨by kernel_rfl, ?_⟩) hS2 ?_
    rotate_left
    · intro w' hw'; go_simp; try with_reducible rfl
    try simp only [Act.put, List.setIfInBounds_toArray, List.set_cons_zero, List.set_cons_succ]
    refine wpAnyH_takeD (some 46) (i := 12) (v := ?_) rfl rfl (by kernel_rfl) (by kernel_rfl) (by kernel_rfl) (fun _ _ _ h => h) (.inl ⟨by kernel_rfl, ?_⟩) hS2 ?_
    rotate_left
    · intro w' hw'; go_simp; try with_reducible rfl
    try simp only [Act.put, List.setIfInBounds_toArray, List.set_cons_zero, List.set_cons_succ]
    refine wpAnyH_takeD (some 47) (i := 13) (v := ?_) rfl rfl (by kernel_rfl) (by kernel_rfl) (by kernel_rfl) (fun _ _ _ h => h) (.inl ⟨by kernel_rfl, ?_⟩) hS2 ?_
    rotate_left
    · intro w' hw'; go_simp; try with_reducible rfl
    try simp only [Act.put, List.setIfInBounds_toArray, List.set_cons_zero, List.set_cons_succ]
    refine wpAnyH_takeD (some 48) (i := 14) (v := ?_) rfl rfl (by kernel_rfl) (by kernel_rfl) (by kernel_rfl) (fun _ _ _ h => h) (.inl ⟨by kernel_rfl, ?_⟩) hS2 ?_
    rotate_left
    · intro w' hw'; go_simp; try with_reducible rfl
    try simp only [Act.put, List.setIfInBounds_toArray, List.set_cons_zero, List.set_cons_succ]
    refine wpAnyH_takeD (some 49) (i := 15) (v := ?_) rfl rfl (by kernel_rfl) (by kernel_rfl) (by kernel_rfl) (fun _ _ _ h => h) (.inl ⟨by kernel_rfl, ?_⟩) hS2 ?_
    rotate_left
    · intro w' hw'; have e0 := hw'; clear hw'; go_simp; try with_reducible rfl
    try simp only [Act.put, List.setIfInBounds_toArray, List.set_cons_zero, List.set_cons_succ]
    refine wpAnyH_all (rs := [16]) (by kernel_rfl) (by simp) ?_
    intro i hi; simp only [List.mem_cons, List.not_mem_nil, or_false] at hi
    subst hi
    refine wpOp_step rfl (fun K hK => ?_)
    rw [if_pos (by kernel_rfl)]
    refine wp_store_mid 31 (.tmp 49) (.tmp 46) rfl (D) 1 (diC (dgL zs ((v + x) % szL zs)) : List Value).toArray rfl rfl (r2.thereO 1 8 (by rw [dvC_len]; omega)) Tryd.infoDigQ (all_oneCell_toArray (diC_one _)) ?_
    obtain ⟨X3, hX3⟩ : ∃ X, X = World.setCells v2 (D) 1 (diC (dgL zs ((v + x) % szL zs)) : List Value) := ⟨_, rfl⟩
    have nD : Row X3 D 33 (dvC (.slice (some ⟨B, 0, none⟩) n cap) (dgL zs y) pr false tk) := by rw [hX3, HYC.out]; exact r2.setDigs _
    have bb := (bW0.trans (bR.mono bW0.size))
    have nB : Below D w X3 := by rw [hX3]; exact below_setCellsD _ 1 _ (bD2.trans (bb.mono (by omega))) (Nat.le_refl _)
    have nK : ∀ q, q < w.heap.size → q ≠ D → (World.heap X3)[q]? = w.heap[q]? := fun q h1 h2 => by rw [hX3, other_setCellsD (g := D) h2]; exact (bb.block q (by omega)).trans (kD2 q h1 h2)
    have hS3 : (fun W' : World => W'.cell? ⟨D, 0, none⟩ = some (.slice (some ⟨B, 0, none⟩) n cap)) X3 := by first | exact r2.cell 0 | exact nD.cell 0
    have hXX3 : World.setCells v2 (D) 1 (diC (dgL zs ((v + x) % szL zs)) : List Value).toArray.toList = X3 := hX3.symm
    rw [hXX3]
    refine hK _ _ ⟨hS3, ?_⟩
    try simp only [Act.put, List.setIfInBounds_toArray, List.set_cons_zero, List.set_cons_succ]
    clear hX3 hXX3 hK K hS2
    refine wpAnyH_done (by kernel_rfl) ?_ _
    go_wp2_with fail
    go_ret
    exact ⟨rfl, nD, nB, nK⟩
  )
set_option maxRecDepth 100000 in
set_option maxHeartbeats 8000000 in
theorem count_mb (D B n cap : Nat) (zs : List Int) (v pr : Int) (tk x A : Int) (w : World) (hBD : B < D) (y : Int) (hy : y = (v + (-x)) % szL zs) (hD : Row w D 33 (dvC (.slice (some ⟨B, 0, none⟩) n cap) (dgL zs v) pr false tk)) (hS : Stk w B zs) (hn : n = zs.length) (hzL : okL zs = true) (hv : 0 ≤ v ∧ v < szL zs) (hx : 0 ≤ x ∧ x ≤ 1000000000000) (hU : Calls Tryd.prog 80 #[.pointer (some ⟨D, 0, none⟩), .bool true] w (GivesB w (.int .i64 A))) (hA : ¬ (0 ≤ A ∧ A ≤ x)) :
    Calls Tryd.prog 64 #[.pointer (some ⟨D, 0, none⟩), .int .i64 x, .bool true] w (CntR D (dvC (.slice (some ⟨B, 0, none⟩) n cap) (dgL zs y) pr false tk) 0 w) := by
  have c10 : w.cell? ⟨D, 10, none⟩ = some (.bool false) := hD.cell 10
  have lD := hD.lt
  have HU := hid hU; have HD := hid hD; have HS := hid hS; have HN := hid hn; have HZL := hid hzL; have HV := hid hv; have HX := hid hx; have HA := hid hA; have HLD := hid lD
  have HYC := hid hy
  have HBD := hid hBD
  have wn : IntKind.i64.wrap (-x) = -x := IntWalk.i64_in _ (by omega)
  clear hU hD hS hn hzL hv hx hA lD hy hBD
  go_enter Tryd.func64, Tryd.ntmps64
  go_wp2_with fail
  refine HU.out.mono ?_
  rintro e w1 ⟨rfl, hB1⟩
  have rD := HD.out.below hB1 HLD.out
  have lD := HLD.out
  have hz1 := hB1.size
  have hB1D := hB1.mono (Nat.le_of_lt lD)
  have f10 := rD.frozen 10
  have c10' : w1.cell? ⟨D, 10, none⟩ = some (.bool false) := rD.cell 10
  have hAA := HA.out
  by_cases q0 : 0 ≤ A
  all_goals (first | (have d1 : decide (0 ≤ A) = true := decide_eq_true q0; have q1 : ¬ A ≤ x := fun h => hAA ⟨q0, h⟩; have d2 : decide (A ≤ x) = false := decide_eq_false q1) | (have d1 : decide (0 ≤ A) = false := decide_eq_false q0))
  all_goals clear hAA
  all_goals (go_upto_region 11 with fail)
  all_goals (obtain ⟨W2, hW2⟩ : ∃ X, X = w1 := ⟨_, rfl⟩)
  all_goals (have r2 : Row W2 D 33 (dvC (.slice (some ⟨B, 0, none⟩) n cap) (dgL zs v) pr false tk) := by rw [hW2]; exact rD)
  all_goals (have s2 : Stk W2 B zs := by rw [hW2]; exact HS.out.below hB1 HS.out.1)
  all_goals (have bD2 : Below D w W2 := by rw [hW2]; exact hB1D)
  all_goals (have kD2 : ∀ q, q < w.heap.size → q ≠ D → W2.heap[q]? = w.heap[q]? := fun q h1 h2 => by rw [hW2]; exact hB1.block q h1)
  all_goals (have z2 : w.heap.size ≤ W2.heap.size := by rw [hW2]; exact hz1)
  all_goals (rw [← hW2]; clear hW2 rD c10 c10' f10 hB1 hB1D)
  all_goals (
    refine wp_region_held (S := fun W' : World => W'.cell? ⟨D, 0, none⟩ = some (.slice (some ⟨B, 0, none⟩) n cap)) (by kernel_rfl) ?_
    change wpAnyH _ _ _ _ _ _ _ _ (World.drew _)
    obtain ⟨W0, hW0⟩ : ∃ X, X = World.drew (W2) := ⟨_, rfl⟩
    have hD0 : Below (W2).heap.size (W2) W0 := by rw [hW0]; exact (Below.refl _ _).drew
    replace r2 := r2.below hD0 r2.lt
    replace s2 := s2.below hD0 s2.1
    have bW0 := (Below.refl W2.heap.size W2).trans (hD0.mono (Below.refl W2.heap.size W2).size)
    have bR : Below W0.heap.size W0 W0 := Below.refl _ _
    rw [← hW0]
    clear hW0 hD0
    have l_r2 := r2.lt
    have l_s2 := s2.1
    have hS0 : (fun W' : World => W'.cell? ⟨D, 0, none⟩ = some (.slice (some ⟨B, 0, none⟩) n cap)) W0 := r2.cell 0
    refine wpAnyH_takeD (some 35) (i := 0) (v := ?_) rfl rfl (by kernel_rfl) (by kernel_rfl) (by kernel_rfl) (fun _ _ _ h => h) (.inl ⟨by kernel_rfl, ?_⟩) hS0 ?_
    rotate_left
    · intro w' hw'; go_simp; try with_reducible rfl
    try simp only [Act.put, List.setIfInBounds_toArray, List.set_cons_zero, List.set_cons_succ]
    refine wpAnyH_takeD (some 36) (i := 1) (v := ?_) rfl rfl (by kernel_rfl) (by kernel_rfl) (by kernel_rfl) (fun _ _ _ h => h) (.inl ⟨by kernel_rfl, ?_⟩) hS0 ?_
    rotate_left
    · intro w' hw'; go_simp; try with_reducible rfl
    try simp only [Act.put, List.setIfInBounds_toArray, List.set_cons_zero, List.set_cons_succ]
    refine wpAnyH_takeD (some 37) (i := 2) (v := ?_) rfl rfl (by kernel_rfl) (by kernel_rfl) (by kernel_rfl) (fun _ _ _ h => h) (.inl ⟨by kernel_rfl, ?_⟩) hS0 ?_
    rotate_left
    · intro w' hw'; go_simp; try with_reducible rfl
    try simp only [Act.put, List.setIfInBounds_toArray, List.set_cons_zero, List.set_cons_succ]
    refine wpAnyH_takeD (some 38) (i := 3) (v := ?_) rfl rfl (by kernel_rfl) (by kernel_rfl) (by kernel_rfl) (fun _ _ _ h => h) (.inl ⟨by kernel_rfl, ?_⟩) hS0 ?_
    rotate_left
    · intro w' hw'; have e0 := hw'; clear hw'; go_simp; try with_reducible rfl
    try simp only [Act.put, List.setIfInBounds_toArray, List.set_cons_zero, List.set_cons_succ]
    refine wpAnyH_takeD (some 39) (i := 4) (v := ?_) rfl rfl (by kernel_rfl) (by kernel_rfl) (by kernel_rfl) (fun _ _ _ h => h) (.inl ⟨by kernel_rfl, ?_⟩) hS0 ?_
    rotate_left
    · intro w' hw'; have e0 := hw'; clear hw'; go_simp; try with_reducible rfl
    try simp only [Act.put, List.setIfInBounds_toArray, List.set_cons_zero, List.set_cons_succ]
    refine wpAnyH_takeD (some 40) (i := 5) (v := ?_) rfl rfl (by kernel_rfl) (by kernel_rfl) (by kernel_rfl) (fun _ _ _ h => h) (.inl ⟨by kernel_rfl, ?_⟩) hS0 ?_
    rotate_left
    · intro w' hw'; go_simp; try with_reducible rfl
    try simp only [Act.put, List.setIfInBounds_toArray, List.set_cons_zero, List.set_cons_succ]
    refine wpAnyH_takeD (some 41) (i := 6) (v := ?_) rfl rfl (by kernel_rfl) (by kernel_rfl) (by kernel_rfl) (fun _ _ _ h => h) (.inl ⟨by kernel_rfl, ?_⟩) hS0 ?_
    rotate_left
    · intro w' hw'; go_simp; try with_reducible rfl
    try simp only [Act.put, List.setIfInBounds_toArray, List.set_cons_zero, List.set_cons_succ]
    refine wpAnyH_takeD (some 42) (i := 7) (v := ?_) rfl rfl (by kernel_rfl) (by kernel_rfl) (by kernel_rfl) (fun _ _ _ h => h) (.inl ⟨by kernel_rfl, ?_⟩) hS0 ?_
    rotate_left
    · intro w' hw'; have e0 := hw'; clear hw'; go_simp; try with_reducible rfl
    try simp only [Act.put, List.setIfInBounds_toArray, List.set_cons_zero, List.set_cons_succ]
    refine wpAnyH_takeD (some 44) (i := 9) (v := ?_) rfl rfl (by kernel_rfl) (by kernel_rfl) (by kernel_rfl) (fun _ _ _ h => h) (.inl ⟨by kernel_rfl, ?_⟩) hS0 ?_
    rotate_left
    · intro w' hw'; go_simp; try with_reducible rfl
    try simp only [Act.put, List.setIfInBounds_toArray, List.set_cons_zero, List.set_cons_succ]
    refine wpAnyH_all (rs := [8]) (by kernel_rfl) (by simp) ?_
    intro i hi; simp only [List.mem_cons, List.not_mem_nil, or_false] at hi
    subst hi
    refine wpOp_step rfl (fun K hK => ?_)
    rw [if_pos (by kernel_rfl)]
    refine wp_load_mid 31 _ rfl D 1 rfl (diC (dgL zs v)) _ (dvC_range r2) Tryd.underlying31 rfl Tryd.infoDigQ ?_
    refine hK _ _ ⟨hS0, ?_⟩
    try simp only [Act.put, List.setIfInBounds_toArray, List.set_cons_zero, List.set_cons_succ]
    clear hK K
    refine wpAnyH_all (rs := [10]) (by kernel_rfl) (by simp) ?_
    intro i hi; simp only [List.mem_cons, List.not_mem_nil, or_false] at hi
    subst hi
    refine wpOp_step rfl (fun K hK => ?_)
    go_simp
    with_reducible refine (l01Add_dg B n cap zs v (-x) W0 s2 HN.out HZL.out HV.out (by have := HX.out; omega)).mono ?_
    rintro e v2 ⟨r, rfl, hB2⟩
    replace r2 := r2.below hB2 r2.lt
    replace s2 := s2.below hB2 s2.1
    replace bR := bR.trans (hB2.mono bR.size)
    have hS2 : (fun W' : World => W'.cell? ⟨D, 0, none⟩ = some (.slice (some ⟨B, 0, none⟩) n cap)) v2 := by first | exact r2.cell 0 | exact nD.cell 0
    refine hK _ _ ⟨hS2, ?_⟩
    try simp only [Act.put, List.setIfInBounds_toArray, List.set_cons_zero, List.set_cons_succ]
    clear hB2 hK K hS0
    refine wpAnyH_takeD (some 34) (i := 11) (v := ?_) rfl rfl (by kernel_rfl) (by kernel_rfl) (by kernel_rfl) (fun _ _ _ h => h) (.inl ⟨by kernel_rfl, ?_⟩) hS2 ?_
    rotate_left
    · intro w' hw'; go_simp; try with_reducible rfl
    try simp only [Act.put, List.setIfInBounds_toArray, List.set_cons_zero, List.set_cons_succ]
    refine wpAnyH_takeD (some 46) (i := 12) (v := ?_) rfl rfl (by kernel_rfl) (by kernel_rfl) (by kernel_rfl) (fun _ _ _ h => h) (.inl ⟨by kernel_rfl, ?_⟩) hS2 ?_
    rotate_left
    · intro w' hw'; go_simp; try with_reducible rfl
    try simp only [Act.put, List.setIfInBounds_toArray, List.set_cons_zero, List.set_cons_succ]
    refine wpAnyH_takeD (some 47) (i := 13) (v := ?_) rfl rfl (by kernel_rfl) (by kernel_rfl) (by kernel_rfl) (fun _ _ _ h => h) (.inl ⟨by kernel_rfl, ?_⟩) hS2 ?_
    rotate_left
    · intro w' hw'; go_simp; try with_reducible rfl
    try simp only [Act.put, List.setIfInBounds_toArray, List.set_cons_zero, List.set_cons_succ]
    refine wpAnyH_takeD (some 48) (i := 14) (v := ?_) rfl rfl (by kernel_rfl) (by kernel_rfl) (by kernel_rfl) (fun _ _ _ h => h) (.inl ⟨by kernel_rfl, ?_⟩) hS2 ?_
    rotate_left
    · intro w' hw'; go_simp; try with_reducible rfl
    try simp only [Act.put, List.setIfInBounds_toArray, List.set_cons_zero, List.set_cons_succ]
    refine wpAnyH_takeD (some 49) (i := 15) (v := ?_) rfl rfl (by kernel_rfl) (by kernel_rfl) (by kernel_rfl) (fun _ _ _ h => h) (.inl ⟨by kernel_rfl, ?_⟩) hS2 ?_
    rotate_left
    · intro w' hw'; have e0 := hw'; clear hw'; go_simp; try with_reducible rfl
    try simp only [Act.put, List.setIfInBounds_toArray, List.set_cons_zero, List.set_cons_succ]
    refine wpAnyH_all (rs := [16]) (by kernel_rfl) (by simp) ?_
    intro i hi; simp only [List.mem_cons, List.not_mem_nil, or_false] at hi
    subst hi
    refine wpOp_step rfl (fun K hK => ?_)
    rw [if_pos (by kernel_rfl)]
    refine wp_store_mid 31 (.tmp 49) (.tmp 46) rfl (D) 1 (diC (dgL zs ((v + (-x)) % szL zs)) : List Value).toArray rfl rfl (r2.thereO 1 8 (by rw [dvC_len]; omega)) Tryd.infoDigQ (all_oneCell_toArray (diC_one _)) ?_
    obtain ⟨X3, hX3⟩ : ∃ X, X = World.setCells v2 (D) 1 (diC (dgL zs ((v + (-x)) % szL zs)) : List Value) := ⟨_, rfl⟩
    have nD : Row X3 D 33 (dvC (.slice (some ⟨B, 0, none⟩) n cap) (dgL zs y) pr false tk) := by rw [hX3, HYC.out]; exact r2.setDigs _
    have bb := (bW0.trans (bR.mono bW0.size))
    have nB : Below D w X3 := by rw [hX3]; exact below_setCellsD _ 1 _ (bD2.trans (bb.mono (by omega))) (Nat.le_refl _)
    have nK : ∀ q, q < w.heap.size → q ≠ D → (World.heap X3)[q]? = w.heap[q]? := fun q h1 h2 => by rw [hX3, other_setCellsD (g := D) h2]; exact (bb.block q (by omega)).trans (kD2 q h1 h2)
    have hS3 : (fun W' : World => W'.cell? ⟨D, 0, none⟩ = some (.slice (some ⟨B, 0, none⟩) n cap)) X3 := by first | exact r2.cell 0 | exact nD.cell 0
    have hXX3 : World.setCells v2 (D) 1 (diC (dgL zs ((v + (-x)) % szL zs)) : List Value).toArray.toList = X3 := hX3.symm
    rw [hXX3]
    refine hK _ _ ⟨hS3, ?_⟩
    try simp only [Act.put, List.setIfInBounds_toArray, List.set_cons_zero, List.set_cons_succ]
    clear hX3 hXX3 hK K hS2
    refine wpAnyH_done (by kernel_rfl) ?_ _
    go_wp2_with fail
    go_ret
    exact ⟨rfl, nD, nB, nK⟩
  )
end Go.Proofs.YthifegbmpmialaaDoor

namespace Go.Proofs.YthifegbmpmialaaDoor
open Go.RowKit
set_option linter.unusedVariables false
set_option linter.unusedSimpArgs false
/-- a device's row at a state -/
def dvS (v0 : Value) (zs : List Int) (S : DS) : List Value := dvC v0 (dgL zs S.1) S.2.1 S.2.2.1 S.2.2.2
set_option maxRecDepth 100000 in
set_option maxHeartbeats 8000000 in
theorem count_any (D B n cap : Nat) (zs : List Int) (v pr : Int) (st : Bool) (tk x : Int) (b : Bool) (w : World) (hBD : B < D) (hD : Row w D 33 (dvC (.slice (some ⟨B, 0, none⟩) n cap) (dgL zs v) pr st tk)) (hS : Stk w B zs) (hn : n = zs.length) (hzL : okL zs = true) (hok : okS (szL zs) (v, pr, st, tk)) (hx : 0 ≤ x ∧ x ≤ 1000000000000) :
    Calls Tryd.prog 64 #[.pointer (some ⟨D, 0, none⟩), .int .i64 x, .bool b] w (CntR D (dvS (.slice (some ⟨B, 0, none⟩) n cap) zs (pulF (szL zs) (v, pr, st, tk) x (if b then -1 else 1)).1) (pulF (szL zs) (v, pr, st, tk) x (if b then -1 else 1)).2 w) := by
  obtain ⟨h1, h2, h3, h4⟩ := hok
  simp only at h1 h2 h3 h4
  cases st with
  | true =>
    have h := count_on D B n cap zs v pr tk x b w hD
    have e : pulF (szL zs) (v, pr, true, tk) x (if b then -1 else 1) = ((v, pr, true, tk), x) := by unfold pulF; rw [if_pos rfl]
    rw [e]; exact h
  | false =>
    have hf : ¬ ((v, pr, false, tk) : DS).2.2.1 = true := by simp
    by_cases hp : 0 ≤ pr
    · have hU := l07Until_dv D B n cap zs v pr false tk b w hS hn hzL h1 ⟨hp, h2.2⟩ hD
      have hs : (if b then (-1 : Int) else 1) = 1 ∨ (if b then (-1 : Int) else 1) = -1 := by cases b <;> simp
      obtain ⟨u1, u2, u3, _⟩ := untX_val hs ⟨hp, h2.2⟩ h1
      obtain ⟨A, hA⟩ : ∃ A, untX ((pr - v) * (if b then (-1 : Int) else 1)) (szL zs) = A := ⟨_, rfl⟩
      rw [hA] at hU u1 u2 u3
      by_cases hAx : A ≤ x
      · have e : pulF (szL zs) (v, pr, false, tk) x (if b then -1 else 1) = ((pr, pr, true, tk), x - A) := by unfold pulF; rw [if_neg hf]; simp only [hA]; rw [if_pos ⟨hp, hAx⟩]
        rw [e]
        cases b with
        | false => exact count_hf D B n cap zs v pr tk x A w hBD pr (by rw [← u1]; simp) hD hS hn hzL h1 hx hU ⟨by omega, hAx⟩
        | true => exact count_hb D B n cap zs v pr tk x A w hBD pr (by rw [← u1]; simp) hD hS hn hzL h1 hx hU ⟨by omega, hAx⟩
      · have e : pulF (szL zs) (v, pr, false, tk) x (if b then -1 else 1) = (((v + x * (if b then -1 else 1)) % (szL zs), pr, false, tk), 0) := by unfold pulF; rw [if_neg hf]; simp only [hA]; rw [if_neg (fun h => hAx h.2)]
        rw [e]
        cases b with
        | false => exact count_mf D B n cap zs v pr tk x A w hBD _ (by simp) hD hS hn hzL h1 hx hU (fun h => hAx h.2)
        | true => exact count_mb D B n cap zs v pr tk x A w hBD _ (by simp) hD hS hn hzL h1 hx hU (fun h => hAx h.2)
    · have hU := l07Until_none D (.slice (some ⟨B, 0, none⟩) n cap) (dgL zs v) pr false tk b w (by omega) hD
      have e : pulF (szL zs) (v, pr, false, tk) x (if b then -1 else 1) = (((v + x * (if b then -1 else 1)) % (szL zs), pr, false, tk), 0) := by unfold pulF; rw [if_neg hf, if_neg (fun h => hp h.1)]
      rw [e]
      cases b with
      | false => exact count_mf D B n cap zs v pr tk x (-1) w hBD _ (by simp) hD hS hn hzL h1 hx hU (by omega)
      | true => exact count_mb D B n cap zs v pr tk x (-1) w hBD _ (by simp) hD hS hn hzL h1 hx hU (by omega)
end Go.Proofs.YthifegbmpmialaaDoor

namespace Go.Proofs.YthifegbmpmialaaDoor
open Go.RowKit
set_option linter.unusedVariables false
set_option linter.unusedSimpArgs false
/-- what an act leaves behind -/
def DoS (D : Nat) (row : List Value) (l c : Int) (w : World) (e : Ending) (w' : World) : Prop :=
  e = .returned (.tuple #[.int .i64 l, .int .i64 c]) ∧ Row w' D 33 row ∧ Below D w w' ∧ ∀ q, q < w.heap.size → q ≠ D → w'.heap[q]? = w.heap[q]?
theorem dgL_zero (zs : List Int) (h : okL zs = true) : ∀ i, dg (dgL zs 0) i = 0 := by
  intro i
  by_cases hi : i < 8
  · have := dgL_get zs 0 i hi
    unfold dg
    rw [this]
    split <;> simp
  · unfold dg
    rw [List.getElem?_eq_none (by rw [dgL_len]; omega)]; rfl
theorem diC_zero (zs : List Int) (h : okL zs = true) : diC (dgL zs 0) = [.int .u8 0, .int .u8 0, .int .u8 0, .int .u8 0, .int .u8 0, .int .u8 0, .int .u8 0, .int .u8 0] := by
  unfold diC
  simp only [dgL_zero zs h]
set_option maxRecDepth 100000 in
set_option maxHeartbeats 8000000 in
theorem do_1 (D B n cap : Nat) (zs : List Int) (v pr : Int) (st : Bool) (tk x : Int) (w : World) (hBD : B < D) (hD : Row w D 33 (dvC (.slice (some ⟨B, 0, none⟩) n cap) (dgL zs v) pr st tk)) (hS : Stk w B zs) (hn : n = zs.length) (hzL : okL zs = true) (hok : okS (szL zs) (v, pr, st, tk)) (hx : 0 ≤ x ∧ x ≤ 1000000000000) :
    Calls Tryd.prog 44 #[.pointer (some ⟨D, 0, none⟩), .agg #[.int .i8 1, .int .i64 x]] w (DoS D (dvS (.slice (some ⟨B, 0, none⟩) n cap) zs (pulF (szL zs) (v, pr, st, tk) x 1).1) (pulF (szL zs) (v, pr, st, tk) x 1).2 0 w) := by
  have lD := hD.lt
  obtain ⟨V, hV⟩ : ∃ V, V = w.alloc (.cells #[.int .i8 1, .int .i64 x] 37) := ⟨_, rfl⟩
  have bV : Below w.heap.size w V := by rw [hV]; exact (Below.refl _ _).alloc (Nat.le_refl _) _
  have rA : Row V w.heap.size 37 [.int .i8 1, .int .i64 x] := by rw [hV]; exact Row.new w _ _
  have rD : Row V D 33 (dvC (.slice (some ⟨B, 0, none⟩) n cap) (dgL zs v) pr st tk) := hD.below bV lD
  have sS := hS.below bV hS.1
  have e0 : V.cell? ⟨w.heap.size, 0, none⟩ = some (.int .i8 1) := rA.cell 0
  have e1 : V.cell? ⟨w.heap.size, 1, none⟩ = some (.int .i64 x) := rA.cell 1
  have E0 := hid e0; have E1 := hid e1
  rw [hV] at e0 e1
  have h := count_any D B n cap zs v pr st tk x false V hBD rD sS hn hzL hok hx
  have e : (if false then (-1 : Int) else 1) = 1 := by simp
  have h' : Calls Tryd.prog 64 #[.pointer (some ⟨D, 0, none⟩), .int .i64 x, .bool false] V (CntR D (dvS (.slice (some ⟨B, 0, none⟩) n cap) zs (pulF (szL zs) (v, pr, st, tk) x 1).1) (pulF (szL zs) (v, pr, st, tk) x 1).2 V) := by
    rw [← e]; exact h
  have HC := hid h'; have HV := hid hV; have BV := hid bV; have LD := hid lD
  clear h h' e hV bV lD rA rD sS hD hS hn hzL hok hx hBD
  obtain ⟨row, hrow⟩ : ∃ r, dvS (.slice (some ⟨B, 0, none⟩) n cap) zs (pulF (szL zs) (v, pr, st, tk) x 1).1 = r := ⟨_, rfl⟩
  obtain ⟨l, hl⟩ : ∃ r, (pulF (szL zs) (v, pr, st, tk) x 1).2 = r := ⟨_, rfl⟩
  rw [hrow, hl] at HC ⊢
  clear hrow hl
  go_enter Tryd.func44, Tryd.ntmps44
  go_wp2_with fail
  rw [← HV.out]
  refine HC.out.mono ?_
  rintro e w1 ⟨rfl, r1, b1, k1⟩
  go_wp2_with fail
  refine bodyPost_ret (v := .tuple #[.int .i64 l, .int .i64 0]) (by simp [results, Tryd.results44, go_sem]) rfl ?_
  have hb := BV.out
  have hl := LD.out
  have hz := hb.size
  exact ⟨rfl, r1, (hb.mono (Nat.le_of_lt hl)).trans b1, fun q h1 h2 => (k1 q (by omega) h2).trans (hb.block q h1)⟩
set_option maxRecDepth 100000 in
set_option maxHeartbeats 8000000 in
theorem do_2 (D B n cap : Nat) (zs : List Int) (v pr : Int) (st : Bool) (tk x : Int) (w : World) (hBD : B < D) (hD : Row w D 33 (dvC (.slice (some ⟨B, 0, none⟩) n cap) (dgL zs v) pr st tk)) (hS : Stk w B zs) (hn : n = zs.length) (hzL : okL zs = true) (hok : okS (szL zs) (v, pr, st, tk)) (hx : 0 ≤ x ∧ x ≤ 1000000000000) :
    Calls Tryd.prog 44 #[.pointer (some ⟨D, 0, none⟩), .agg #[.int .i8 2, .int .i64 x]] w (DoS D (dvS (.slice (some ⟨B, 0, none⟩) n cap) zs (pulF (szL zs) (v, pr, st, tk) x (-1)).1) (pulF (szL zs) (v, pr, st, tk) x (-1)).2 0 w) := by
  have lD := hD.lt
  obtain ⟨V, hV⟩ : ∃ V, V = w.alloc (.cells #[.int .i8 2, .int .i64 x] 37) := ⟨_, rfl⟩
  have bV : Below w.heap.size w V := by rw [hV]; exact (Below.refl _ _).alloc (Nat.le_refl _) _
  have rA : Row V w.heap.size 37 [.int .i8 2, .int .i64 x] := by rw [hV]; exact Row.new w _ _
  have rD : Row V D 33 (dvC (.slice (some ⟨B, 0, none⟩) n cap) (dgL zs v) pr st tk) := hD.below bV lD
  have sS := hS.below bV hS.1
  have e0 : V.cell? ⟨w.heap.size, 0, none⟩ = some (.int .i8 2) := rA.cell 0
  have e1 : V.cell? ⟨w.heap.size, 1, none⟩ = some (.int .i64 x) := rA.cell 1
  have E0 := hid e0; have E1 := hid e1
  rw [hV] at e0 e1
  have h := count_any D B n cap zs v pr st tk x true V hBD rD sS hn hzL hok hx
  have e : (if true then (-1 : Int) else 1) = (-1) := by simp
  have h' : Calls Tryd.prog 64 #[.pointer (some ⟨D, 0, none⟩), .int .i64 x, .bool true] V (CntR D (dvS (.slice (some ⟨B, 0, none⟩) n cap) zs (pulF (szL zs) (v, pr, st, tk) x (-1)).1) (pulF (szL zs) (v, pr, st, tk) x (-1)).2 V) := by
    rw [← e]; exact h
  have HC := hid h'; have HV := hid hV; have BV := hid bV; have LD := hid lD
  clear h h' e hV bV lD rA rD sS hD hS hn hzL hok hx hBD
  obtain ⟨row, hrow⟩ : ∃ r, dvS (.slice (some ⟨B, 0, none⟩) n cap) zs (pulF (szL zs) (v, pr, st, tk) x (-1)).1 = r := ⟨_, rfl⟩
  obtain ⟨l, hl⟩ : ∃ r, (pulF (szL zs) (v, pr, st, tk) x (-1)).2 = r := ⟨_, rfl⟩
  rw [hrow, hl] at HC ⊢
  clear hrow hl
  go_enter Tryd.func44, Tryd.ntmps44
  go_wp2_with fail
  rw [← HV.out]
  refine HC.out.mono ?_
  rintro e w1 ⟨rfl, r1, b1, k1⟩
  go_wp2_with fail
  refine bodyPost_ret (v := .tuple #[.int .i64 l, .int .i64 0]) (by simp [results, Tryd.results44, go_sem]) rfl ?_
  have hb := BV.out
  have hl := LD.out
  have hz := hb.size
  exact ⟨rfl, r1, (hb.mono (Nat.le_of_lt hl)).trans b1, fun q h1 h2 => (k1 q (by omega) h2).trans (hb.block q h1)⟩
set_option maxRecDepth 100000 in
set_option maxHeartbeats 8000000 in
theorem do_5no (D B n cap : Nat) (zs : List Int) (v pr : Int) (st : Bool) (tk x : Int) (w : World) (hBD : B < D) (hD : Row w D 33 (dvC (.slice (some ⟨B, 0, none⟩) n cap) (dgL zs v) pr st tk)) (hS : Stk w B zs) (hn : n = zs.length) (hzL : okL zs = true) (hok : okS (szL zs) (v, pr, st, tk)) (h5 : 1000000 ≤ tk) :
    Calls Tryd.prog 44 #[.pointer (some ⟨D, 0, none⟩), .agg #[.int .i8 5, .int .i64 x]] w (DoS D (dvC (.slice (some ⟨B, 0, none⟩) n cap) (dgL zs v) pr st tk) 0 4 w) := by
  have lD := hD.lt
  obtain ⟨V, hV⟩ : ∃ V, V = w.alloc (.cells #[.int .i8 5, .int .i64 x] 37) := ⟨_, rfl⟩
  have bV : Below w.heap.size w V := by rw [hV]; exact (Below.refl _ _).alloc (Nat.le_refl _) _
  have rA : Row V w.heap.size 37 [.int .i8 5, .int .i64 x] := by rw [hV]; exact Row.new w _ _
  have rD : Row V D 33 (dvC (.slice (some ⟨B, 0, none⟩) n cap) (dgL zs v) pr st tk) := hD.below bV lD
  have sS := hS.below bV hS.1
  have e0 : V.cell? ⟨w.heap.size, 0, none⟩ = some (.int .i8 5) := rA.cell 0
  have e1 : V.cell? ⟨w.heap.size, 1, none⟩ = some (.int .i64 x) := rA.cell 1
  have E0 := hid e0; have E1 := hid e1
  rw [hV] at e0 e1
  have c11 : V.cell? ⟨D, 11, none⟩ = some (.int .i64 tk) := rD.cell 11
  have d5 : decide (1000000 ≤ tk) = true := decide_eq_true h5
  have BV := hid bV; have LD := hid lD; have RD := hid rD
  rw [hV] at c11
  have HV := hid hV
  clear hV bV lD rA rD sS hD hS hn hzL hok hBD
  go_enter Tryd.func44, Tryd.ntmps44
  go_wp2_with fail
  refine bodyPost_ret (v := .tuple #[.int .i64 0, .int .i64 4]) (by simp [results, Tryd.results44, go_sem]) rfl ?_
  rw [← HV.out]
  exact ⟨rfl, RD.out, BV.out.mono (Nat.le_of_lt LD.out), fun q h1 h2 => BV.out.block q h1⟩
set_option maxRecDepth 100000 in
set_option maxHeartbeats 8000000 in
theorem do_5ok (D B n cap : Nat) (zs : List Int) (v pr : Int) (st : Bool) (tk x : Int) (w : World) (hBD : B < D) (hD : Row w D 33 (dvC (.slice (some ⟨B, 0, none⟩) n cap) (dgL zs v) pr st tk)) (hS : Stk w B zs) (hn : n = zs.length) (hzL : okL zs = true) (hok : okS (szL zs) (v, pr, st, tk)) (h5 : ¬ 1000000 ≤ tk) (h0 : 0 ≤ tk) :
    Calls Tryd.prog 44 #[.pointer (some ⟨D, 0, none⟩), .agg #[.int .i8 5, .int .i64 x]] w (DoS D (dvC (.slice (some ⟨B, 0, none⟩) n cap) (dgL zs v) pr st (tk + 1)) 0 0 w) := by
  have lD := hD.lt
  obtain ⟨V, hV⟩ : ∃ V, V = w.alloc (.cells #[.int .i8 5, .int .i64 x] 37) := ⟨_, rfl⟩
  have bV : Below w.heap.size w V := by rw [hV]; exact (Below.refl _ _).alloc (Nat.le_refl _) _
  have rA : Row V w.heap.size 37 [.int .i8 5, .int .i64 x] := by rw [hV]; exact Row.new w _ _
  have rD : Row V D 33 (dvC (.slice (some ⟨B, 0, none⟩) n cap) (dgL zs v) pr st tk) := hD.below bV lD
  have sS := hS.below bV hS.1
  have e0 : V.cell? ⟨w.heap.size, 0, none⟩ = some (.int .i8 5) := rA.cell 0
  have e1 : V.cell? ⟨w.heap.size, 1, none⟩ = some (.int .i64 x) := rA.cell 1
  have E0 := hid e0; have E1 := hid e1
  rw [hV] at e0 e1
  have c11 : V.cell? ⟨D, 11, none⟩ = some (.int .i64 tk) := rD.cell 11
  have f11 := rD.frozen 11
  have d5 : decide (1000000 ≤ tk) = false := decide_eq_false h5
  have w5 : IntKind.i64.wrap (tk + 1) = tk + 1 := IntWalk.i64_in _ (by omega)
  have BV := hid bV; have LD := hid lD; have RD := hid rD
  rw [hV] at c11 f11
  have HV := hid hV
  clear hV bV lD rA rD sS hD hS hn hzL hok hBD
  go_enter Tryd.func44, Tryd.ntmps44
  go_wp2_with fail
  refine bodyPost_ret (v := .tuple #[.int .i64 0, .int .i64 0]) (by simp [results, Tryd.results44, go_sem]) rfl ?_
  rw [← HV.out]
  have hl := LD.out
  exact ⟨rfl, RD.out.set 11 _, (BV.out.mono (Nat.le_of_lt hl)).setCell (p := ⟨D, 11, none⟩) (Nat.le_refl _) _, fun q h1 h2 => (Below.heap_setCell V _ _ _ h2).trans (BV.out.block q h1)⟩
set_option maxRecDepth 100000 in
set_option maxHeartbeats 8000000 in
theorem do_4 (D B n cap : Nat) (zs : List Int) (v pr : Int) (st : Bool) (tk x : Int) (w : World) (hBD : B < D) (hD : Row w D 33 (dvC (.slice (some ⟨B, 0, none⟩) n cap) (dgL zs v) pr st tk)) (hS : Stk w B zs) (hn : n = zs.length) (hzL : okL zs = true) (hok : okS (szL zs) (v, pr, st, tk)) :
    Calls Tryd.prog 44 #[.pointer (some ⟨D, 0, none⟩), .agg #[.int .i8 4, .int .i64 x]] w (DoS D (dvS (.slice (some ⟨B, 0, none⟩) n cap) zs (0, pr, decide (0 = pr), tk)) 0 0 w) := by
  have lD := hD.lt
  obtain ⟨V, hV⟩ : ∃ V, V = w.alloc (.cells #[.int .i8 4, .int .i64 x] 37) := ⟨_, rfl⟩
  have bV : Below w.heap.size w V := by rw [hV]; exact (Below.refl _ _).alloc (Nat.le_refl _) _
  have rA : Row V w.heap.size 37 [.int .i8 4, .int .i64 x] := by rw [hV]; exact Row.new w _ _
  have rD : Row V D 33 (dvC (.slice (some ⟨B, 0, none⟩) n cap) (dgL zs v) pr st tk) := hD.below bV lD
  have sS := hS.below bV hS.1
  have e0 : V.cell? ⟨w.heap.size, 0, none⟩ = some (.int .i8 4) := rA.cell 0
  have e1 : V.cell? ⟨w.heap.size, 1, none⟩ = some (.int .i64 x) := rA.cell 1
  have E0 := hid e0; have E1 := hid e1
  rw [hV] at e0 e1
  have hz0 : diC (dgL zs 0) = [.int .u8 0, .int .u8 0, .int .u8 0, .int .u8 0, .int .u8 0, .int .u8 0, .int .u8 0, .int .u8 0] := diC_zero zs hzL
  have T1 := rD.thereO 1 8 (by rw [dvC_len]; omega)
  obtain ⟨W2, hW2⟩ : ∃ X, X = V.setCells D 1 (diC (dgL zs 0)) := ⟨_, rfl⟩
  have r2 : Row W2 D 33 (dvC (.slice (some ⟨B, 0, none⟩) n cap) (dgL zs 0) pr st tk) := by rw [hW2]; exact rD.setDigs _
  have b2 : Below D w W2 := by rw [hW2]; exact below_setCellsD _ 1 _ (bV.mono (Nat.le_of_lt lD)) (Nat.le_refl _)
  have k2 : ∀ q, q < w.heap.size → q ≠ D → W2.heap[q]? = w.heap[q]? := fun q h1 h2 => by rw [hW2, other_setCellsD (g := D) h2]; exact bV.block q h1
  have c9 : W2.cell? ⟨D, 9, none⟩ = some (.int .i64 pr) := r2.cell 9
  have c10 : W2.cell? ⟨D, 10, none⟩ = some (.bool st) := r2.cell 10
  have f10 := r2.frozen 10
  have R2 := hid r2; have B2 := hid b2; have K2 := hid k2
  rw [hz0, hV] at hW2
  rw [hV] at T1
  have HW2 := hid hW2
  have hz1 : (#[.int .u8 0, .int .u8 0, .int .u8 0, .int .u8 0, .int .u8 0, .int .u8 0, .int .u8 0, .int .u8 0] : Array Value).all (·.oneCell') = true := by
    have h := all_oneCell_toArray (diC_one (dgL zs 0))
    rw [hz0] at h; exact h
  clear hW2 r2 b2 k2 hV bV lD rA rD sS hD hS hn hzL hok hBD hz0
  go_enter Tryd.func44, Tryd.ntmps44
  go_upto_region 13 with ((with_reducible refine wpList_store_mid rfl 31 _ _ rfl D 1 #[.int .u8 0, .int .u8 0, .int .u8 0, .int .u8 0, .int .u8 0, .int .u8 0, .int .u8 0, .int .u8 0] ?_ ?_ ?_ ?_ hz1 ?_); rfl; rfl; exact T1; exact Tryd.infoDigQ)
  rw [show World.setCells (w.alloc (.cells #[.int .i8 4, .int .i64 x] 37)) D 1 (#[.int .u8 0, .int .u8 0, .int .u8 0, .int .u8 0, .int .u8 0, .int .u8 0, .int .u8 0, .int .u8 0] : Array Value).toList = W2 from HW2.out.symm]
  clear T1
  go_wp2_with fail
  refine bodyPost_ret (v := .tuple #[.int .i64 0, .int .i64 0]) (by simp [results, Tryd.results44, go_sem]) rfl ?_
  have hc : decide (pr = 0) = decide (0 = pr) := by congr 1; exact propext eq_comm
  refine ⟨rfl, ?_, B2.out.setCell (p := ⟨D, 10, none⟩) (Nat.le_refl _) _, fun q h1 h2 => (Below.heap_setCell W2 _ _ _ h2).trans (K2.out q h1 h2)⟩
  rw [show dvS (.slice (some ⟨B, 0, none⟩) n cap) zs (0, pr, decide (0 = pr), tk) = (dvC (.slice (some ⟨B, 0, none⟩) n cap) (dgL zs 0) pr (decide (0 = pr)) tk) from rfl, ← hc]
  exact R2.out.set 10 _
end Go.Proofs.YthifegbmpmialaaDoor

namespace Go.Proofs.YthifegbmpmialaaDoor
open Go.RowKit
set_option linter.unusedVariables false
set_option linter.unusedSimpArgs false
theorem l01Value_dg (B n cap : Nat) (zs : List Int) (v : Int) (w : World) (hS : Stk w B zs) (hn : n = zs.length) (h : okL zs = true) (hv : 0 ≤ v ∧ v < szL zs) :
    Calls Tryd.prog 63 #[(.slice (some ⟨B, 0, none⟩) n cap), .agg (diC (dgL zs v)).toArray] w fun e w' => e = .returned (.int .i64 v) ∧ Below w.heap.size w w' := by
  have h1 := l01Value_ok B n cap zs _ _ _ _ _ _ _ _ (dgL_octD zs v h) (by rw [dg8 _ (dgL_len zs v)]; exact okV_dgL zs v h) (by omega) w hS
  rw [dg8 _ (dgL_len zs v), hn, valL_of zs v h hv] at h1
  rw [hn]; exact h1
set_option maxRecDepth 100000 in
set_option maxHeartbeats 8000000 in
theorem do_3no (D B n cap : Nat) (zs : List Int) (v pr : Int) (st : Bool) (tk x : Int) (w : World) (hBD : B < D) (hD : Row w D 33 (dvC (.slice (some ⟨B, 0, none⟩) n cap) (dgL zs v) pr st tk)) (hS : Stk w B zs) (hn : n = zs.length) (hzL : okL zs = true) (hok : okS (szL zs) (v, pr, st, tk)) (h3 : szL zs ≤ x) :
    Calls Tryd.prog 44 #[.pointer (some ⟨D, 0, none⟩), .agg #[.int .i8 3, .int .i64 x]] w (DoS D (dvC (.slice (some ⟨B, 0, none⟩) n cap) (dgL zs v) pr st tk) 0 2 w) := by
  have lD := hD.lt
  obtain ⟨V, hV⟩ : ∃ V, V = w.alloc (.cells #[.int .i8 3, .int .i64 x] 37) := ⟨_, rfl⟩
  have bV : Below w.heap.size w V := by rw [hV]; exact (Below.refl _ _).alloc (Nat.le_refl _) _
  have rA : Row V w.heap.size 37 [.int .i8 3, .int .i64 x] := by rw [hV]; exact Row.new w _ _
  have rD : Row V D 33 (dvC (.slice (some ⟨B, 0, none⟩) n cap) (dgL zs v) pr st tk) := hD.below bV lD
  have sS := hS.below bV hS.1
  have e0 : V.cell? ⟨w.heap.size, 0, none⟩ = some (.int .i8 3) := rA.cell 0
  have e1 : V.cell? ⟨w.heap.size, 1, none⟩ = some (.int .i64 x) := rA.cell 1
  have E0 := hid e0; have E1 := hid e1
  rw [hV] at e0 e1
  have d3 : decide (szL zs ≤ x) = true := decide_eq_true h3
  have HV := hid hV; have BV := hid bV; have LD := hid lD; have HN := hid hn; have HZL := hid hzL; have HVV := hid hok.1
  rw [← hV] at e0 e1
  clear hV bV lD hD hS hn hzL hok hBD e0 e1 E0 E1
  have e0 : (w.alloc (.cells #[.int .i8 3, .int .i64 x] 37)).cell? ⟨w.heap.size, 0, none⟩ = some (.int .i8 3) := by rw [← HV.out]; exact rA.cell 0
  go_enter Tryd.func44, Tryd.ntmps44
  go_wp2_with fail
  rw [← HV.out]
  clear e0
  refine wp_region_held (S := fun W' : World => W'.cell? ⟨D, 0, none⟩ = some (.slice (some ⟨B, 0, none⟩) n cap) ∧ W'.cell? ⟨w.heap.size, 1, none⟩ = some (.int .i64 x)) (by kernel_rfl) ?_
  change wpAnyH _ _ _ _ _ _ _ _ (World.drew _)
  obtain ⟨W0, hW0⟩ : ∃ X, X = World.drew (V) := ⟨_, rfl⟩
  have hD0 : Below (V).heap.size (V) W0 := by rw [hW0]; exact (Below.refl _ _).drew
  replace rD := rD.below hD0 rD.lt
  replace rA := rA.below hD0 rA.lt
  replace sS := sS.below hD0 sS.1
  have bW0 := BV.out.trans (hD0.mono BV.out.size)
  have bR : Below W0.heap.size W0 W0 := Below.refl _ _
  rw [← hW0]
  clear hW0 hD0
  have l_rD := rD.lt
  have l_rA := rA.lt
  have l_sS := sS.1
  have hS0 : (fun W' : World => W'.cell? ⟨D, 0, none⟩ = some (.slice (some ⟨B, 0, none⟩) n cap) ∧ W'.cell? ⟨w.heap.size, 1, none⟩ = some (.int .i64 x)) W0 := ⟨rD.cell 0, rA.cell 1⟩
  refine wpAnyH_takeD (some 22) (i := 0) (v := ?_) rfl rfl (by kernel_rfl) (by kernel_rfl) (by kernel_rfl) (fun _ _ _ h => h) (.inl ⟨by kernel_rfl, ?_⟩) hS0 ?_
  rotate_left
  · intro w' hw'; have e9 := hw'.1; have e8 := hw'.2; clear hw'; go_simp; try with_reducible rfl
  try simp only [Act.put, List.setIfInBounds_toArray, List.set_cons_zero, List.set_cons_succ]
  refine wpAnyH_takeD (some 23) (i := 1) (v := ?_) rfl rfl (by kernel_rfl) (by kernel_rfl) (by kernel_rfl) (fun _ _ _ h => h) (.inl ⟨by kernel_rfl, ?_⟩) hS0 ?_
  rotate_left
  · intro w' hw'; have e9 := hw'.1; have e8 := hw'.2; clear hw'; go_simp; try with_reducible rfl
  try simp only [Act.put, List.setIfInBounds_toArray, List.set_cons_zero, List.set_cons_succ]
  refine wpAnyH_takeD (some 24) (i := 2) (v := ?_) rfl rfl (by kernel_rfl) (by kernel_rfl) (by kernel_rfl) (fun _ _ _ h => h) (.inl ⟨by kernel_rfl, ?_⟩) hS0 ?_
  rotate_left
  · intro w' hw'; go_simp; try with_reducible rfl
  try simp only [Act.put, List.setIfInBounds_toArray, List.set_cons_zero, List.set_cons_succ]
  refine wpAnyH_takeD (some 25) (i := 3) (v := ?_) rfl rfl (by kernel_rfl) (by kernel_rfl) (by kernel_rfl) (fun _ _ _ h => h) (.inl ⟨by kernel_rfl, ?_⟩) hS0 ?_
  rotate_left
  · intro w' hw'; go_simp; try with_reducible rfl
  try simp only [Act.put, List.setIfInBounds_toArray, List.set_cons_zero, List.set_cons_succ]
  refine wpAnyH_takeD (some 26) (i := 4) (v := ?_) rfl rfl (by kernel_rfl) (by kernel_rfl) (by kernel_rfl) (fun _ _ _ h => h) (.inl ⟨by kernel_rfl, ?_⟩) hS0 ?_
  rotate_left
  · intro w' hw'; have e9 := hw'.1; have e8 := hw'.2; clear hw'; go_simp; try with_reducible rfl
  try simp only [Act.put, List.setIfInBounds_toArray, List.set_cons_zero, List.set_cons_succ]
  refine wpAnyH_takeD (some 27) (i := 5) (v := ?_) rfl rfl (by kernel_rfl) (by kernel_rfl) (by kernel_rfl) (fun _ _ _ h => h) (.inl ⟨by kernel_rfl, ?_⟩) hS0 ?_
  rotate_left
  · intro w' hw'; have e9 := hw'.1; have e8 := hw'.2; clear hw'; go_simp; try with_reducible rfl
  try simp only [Act.put, List.setIfInBounds_toArray, List.set_cons_zero, List.set_cons_succ]
  refine wpAnyH_all (rs := [6]) (by kernel_rfl) (by simp) ?_
  intro i hi; simp only [List.mem_cons, List.not_mem_nil, or_false] at hi
  subst hi
  refine wpOp_step rfl (fun K hK => ?_)
  go_simp
  with_reducible refine (l01Size_ok B n cap zs W0 sS HN.out HZL.out).mono ?_
  rintro e v1 ⟨rfl, hv1⟩; subst hv1
  have hS1 : (fun W' : World => W'.cell? ⟨D, 0, none⟩ = some (.slice (some ⟨B, 0, none⟩) n cap) ∧ W'.cell? ⟨w.heap.size, 1, none⟩ = some (.int .i64 x)) W0 := ⟨rD.cell 0, rA.cell 1⟩
  refine hK _ _ ⟨hS1, ?_⟩
  try simp only [Act.put, List.setIfInBounds_toArray, List.set_cons_zero, List.set_cons_succ]
  clear hK K hS0
  refine wpAnyH_takeD (some 29) (i := 7) (v := ?_) rfl rfl (by kernel_rfl) (by kernel_rfl) (by kernel_rfl) (fun _ _ _ h => h) (.inl ⟨by kernel_rfl, ?_⟩) hS1 ?_
  rotate_left
  · intro w' hw'; go_simp; try with_reducible rfl
  try simp only [Act.put, List.setIfInBounds_toArray, List.set_cons_zero, List.set_cons_succ]
  refine wpAnyH_done (by kernel_rfl) ?_ _
  have hl := LD.out
  have bb : Below w.heap.size w W0 := bW0
  go_wp2_with fail
  refine bodyPost_ret (v := .tuple #[.int .i64 0, .int .i64 2]) (by simp [results, Tryd.results44, go_sem]) rfl ?_
  exact ⟨rfl, rD, bb.mono (Nat.le_of_lt hl), fun q h1 h2 => bb.block q h1⟩
set_option maxRecDepth 100000 in
set_option maxHeartbeats 8000000 in
theorem do_3ok (D B n cap : Nat) (zs : List Int) (v pr : Int) (st : Bool) (tk x : Int) (w : World) (hBD : B < D) (hD : Row w D 33 (dvC (.slice (some ⟨B, 0, none⟩) n cap) (dgL zs v) pr st tk)) (hS : Stk w B zs) (hn : n = zs.length) (hzL : okL zs = true) (hok : okS (szL zs) (v, pr, st, tk)) (h3 : ¬ szL zs ≤ x) :
    Calls Tryd.prog 44 #[.pointer (some ⟨D, 0, none⟩), .agg #[.int .i8 3, .int .i64 x]] w (DoS D (dvC (.slice (some ⟨B, 0, none⟩) n cap) (dgL zs v) x (decide (x = v)) tk) 0 0 w) := by
  have lD := hD.lt
  obtain ⟨V, hV⟩ : ∃ V, V = w.alloc (.cells #[.int .i8 3, .int .i64 x] 37) := ⟨_, rfl⟩
  have bV : Below w.heap.size w V := by rw [hV]; exact (Below.refl _ _).alloc (Nat.le_refl _) _
  have rA : Row V w.heap.size 37 [.int .i8 3, .int .i64 x] := by rw [hV]; exact Row.new w _ _
  have rD : Row V D 33 (dvC (.slice (some ⟨B, 0, none⟩) n cap) (dgL zs v) pr st tk) := hD.below bV lD
  have sS := hS.below bV hS.1
  have e0 : V.cell? ⟨w.heap.size, 0, none⟩ = some (.int .i8 3) := rA.cell 0
  have e1 : V.cell? ⟨w.heap.size, 1, none⟩ = some (.int .i64 x) := rA.cell 1
  have E0 := hid e0; have E1 := hid e1
  rw [hV] at e0 e1
  have d3 : decide (szL zs ≤ x) = false := decide_eq_false h3
  have HBD := hid hBD
  have HV := hid hV; have BV := hid bV; have LD := hid lD; have HN := hid hn; have HZL := hid hzL; have HVV := hid hok.1
  rw [← hV] at e0 e1
  clear hV bV lD hD hS hn hzL hok hBD e0 e1 E0 E1
  have e0 : (w.alloc (.cells #[.int .i8 3, .int .i64 x] 37)).cell? ⟨w.heap.size, 0, none⟩ = some (.int .i8 3) := by rw [← HV.out]; exact rA.cell 0
  go_enter Tryd.func44, Tryd.ntmps44
  go_wp2_with fail
  rw [← HV.out]
  clear e0
  refine wp_region_held (S := fun W' : World => W'.cell? ⟨D, 0, none⟩ = some (.slice (some ⟨B, 0, none⟩) n cap) ∧ W'.cell? ⟨w.heap.size, 1, none⟩ = some (.int .i64 x)) (by kernel_rfl) ?_
  change wpAnyH _ _ _ _ _ _ _ _ (World.drew _)
  obtain ⟨W0, hW0⟩ : ∃ X, X = World.drew (V) := ⟨_, rfl⟩
  have hD0 : Below (V).heap.size (V) W0 := by rw [hW0]; exact (Below.refl _ _).drew
  replace rD := rD.below hD0 rD.lt
  replace rA := rA.below hD0 rA.lt
  replace sS := sS.below hD0 sS.1
  have bW0 := BV.out.trans (hD0.mono BV.out.size)
  have bR : Below W0.heap.size W0 W0 := Below.refl _ _
  rw [← hW0]
  clear hW0 hD0
  have l_rD := rD.lt
  have l_rA := rA.lt
  have l_sS := sS.1
  have hS0 : (fun W' : World => W'.cell? ⟨D, 0, none⟩ = some (.slice (some ⟨B, 0, none⟩) n cap) ∧ W'.cell? ⟨w.heap.size, 1, none⟩ = some (.int .i64 x)) W0 := ⟨rD.cell 0, rA.cell 1⟩
  refine wpAnyH_takeD (some 22) (i := 0) (v := ?_) rfl rfl (by kernel_rfl) (by kernel_rfl) (by kernel_rfl) (fun _ _ _ h => h) (.inl ⟨by kernel_rfl, ?_⟩) hS0 ?_
  rotate_left
  · intro w' hw'; have e9 := hw'.1; have e8 := hw'.2; clear hw'; go_simp; try with_reducible rfl
  try simp only [Act.put, List.setIfInBounds_toArray, List.set_cons_zero, List.set_cons_succ]
  refine wpAnyH_takeD (some 23) (i := 1) (v := ?_) rfl rfl (by kernel_rfl) (by kernel_rfl) (by kernel_rfl) (fun _ _ _ h => h) (.inl ⟨by kernel_rfl, ?_⟩) hS0 ?_
  rotate_left
  · intro w' hw'; have e9 := hw'.1; have e8 := hw'.2; clear hw'; go_simp; try with_reducible rfl
  try simp only [Act.put, List.setIfInBounds_toArray, List.set_cons_zero, List.set_cons_succ]
  refine wpAnyH_takeD (some 24) (i := 2) (v := ?_) rfl rfl (by kernel_rfl) (by kernel_rfl) (by kernel_rfl) (fun _ _ _ h => h) (.inl ⟨by kernel_rfl, ?_⟩) hS0 ?_
  rotate_left
  · intro w' hw'; go_simp; try with_reducible rfl
  try simp only [Act.put, List.setIfInBounds_toArray, List.set_cons_zero, List.set_cons_succ]
  refine wpAnyH_takeD (some 25) (i := 3) (v := ?_) rfl rfl (by kernel_rfl) (by kernel_rfl) (by kernel_rfl) (fun _ _ _ h => h) (.inl ⟨by kernel_rfl, ?_⟩) hS0 ?_
  rotate_left
  · intro w' hw'; go_simp; try with_reducible rfl
  try simp only [Act.put, List.setIfInBounds_toArray, List.set_cons_zero, List.set_cons_succ]
  refine wpAnyH_takeD (some 26) (i := 4) (v := ?_) rfl rfl (by kernel_rfl) (by kernel_rfl) (by kernel_rfl) (fun _ _ _ h => h) (.inl ⟨by kernel_rfl, ?_⟩) hS0 ?_
  rotate_left
  · intro w' hw'; have e9 := hw'.1; have e8 := hw'.2; clear hw'; go_simp; try with_reducible rfl
  try simp only [Act.put, List.setIfInBounds_toArray, List.set_cons_zero, List.set_cons_succ]
  refine wpAnyH_takeD (some 27) (i := 5) (v := ?_) rfl rfl (by kernel_rfl) (by kernel_rfl) (by kernel_rfl) (fun _ _ _ h => h) (.inl ⟨by kernel_rfl, ?_⟩) hS0 ?_
  rotate_left
  · intro w' hw'; have e9 := hw'.1; have e8 := hw'.2; clear hw'; go_simp; try with_reducible rfl
  try simp only [Act.put, List.setIfInBounds_toArray, List.set_cons_zero, List.set_cons_succ]
  refine wpAnyH_all (rs := [6]) (by kernel_rfl) (by simp) ?_
  intro i hi; simp only [List.mem_cons, List.not_mem_nil, or_false] at hi
  subst hi
  refine wpOp_step rfl (fun K hK => ?_)
  go_simp
  with_reducible refine (l01Size_ok B n cap zs W0 sS HN.out HZL.out).mono ?_
  rintro e v1 ⟨rfl, hv1⟩; subst hv1
  have hS1 : (fun W' : World => W'.cell? ⟨D, 0, none⟩ = some (.slice (some ⟨B, 0, none⟩) n cap) ∧ W'.cell? ⟨w.heap.size, 1, none⟩ = some (.int .i64 x)) W0 := ⟨rD.cell 0, rA.cell 1⟩
  refine hK _ _ ⟨hS1, ?_⟩
  try simp only [Act.put, List.setIfInBounds_toArray, List.set_cons_zero, List.set_cons_succ]
  clear hK K hS0
  refine wpAnyH_takeD (some 29) (i := 7) (v := ?_) rfl rfl (by kernel_rfl) (by kernel_rfl) (by kernel_rfl) (fun _ _ _ h => h) (.inl ⟨by kernel_rfl, ?_⟩) hS1 ?_
  rotate_left
  · intro w' hw'; go_simp; try with_reducible rfl
  try simp only [Act.put, List.setIfInBounds_toArray, List.set_cons_zero, List.set_cons_succ]
  refine wpAnyH_done (by kernel_rfl) ?_ _
  have hl := LD.out
  have bb : Below w.heap.size w W0 := bW0
  have c9 : W0.cell? ⟨D, 9, none⟩ = some (.int .i64 pr) := rD.cell 9
  have f9 := rD.frozen 9
  have e8 : W0.cell? ⟨w.heap.size, 1, none⟩ = some (.int .i64 x) := rA.cell 1
  go_upto_region 10 with fail
  obtain ⟨W3, hW3⟩ : ∃ X, X = W0.setCell ⟨D, 9, none⟩ (.int .i64 x) := ⟨_, rfl⟩
  have q3 : Row W3 D 33 (dvC (.slice (some ⟨B, 0, none⟩) n cap) (dgL zs v) x st tk) := by rw [hW3]; exact rD.set 9 _
  have qA : Row W3 w.heap.size 37 [.int .i8 3, .int .i64 x] := by rw [hW3]; exact rA.other (by show D ≠ w.heap.size; omega) _
  have q2 : Stk W3 B zs := by rw [hW3]; exact sS.below (n := D) ((Below.refl D W0).setCell (p := ⟨D, 9, none⟩) (Nat.le_refl _) _) HBD.out
  have B3 := hid (show Below D w W3 by rw [hW3]; exact (bb.mono (Nat.le_of_lt hl)).setCell (p := ⟨D, 9, none⟩) (Nat.le_refl _) _)
  have K3 := hid (show ∀ q, q < w.heap.size → q ≠ D → W3.heap[q]? = w.heap[q]? from fun q h1 h2 => by rw [hW3]; exact (Below.heap_setCell W0 _ _ _ h2).trans (bb.block q h1))
  have z3 : w.heap.size ≤ W3.heap.size := by rw [hW3]; simpa using bb.size
  rw [← hW3]
  clear hW3 c9 f9 e8 rD rA sS bR bW0 bb
  rename Row W3 D _ _ => rD
  rename Row W3 w.heap.size _ _ => rA
  rename Stk W3 B zs => sS
  refine wp_region_held (S := fun W' : World => W'.cell? ⟨D, 0, none⟩ = some (.slice (some ⟨B, 0, none⟩) n cap) ∧ W'.cell? ⟨w.heap.size, 1, none⟩ = some (.int .i64 x)) (by kernel_rfl) ?_
  change wpAnyH _ _ _ _ _ _ _ _ (World.drew _)
  obtain ⟨U0, hU0⟩ : ∃ X, X = World.drew (W3) := ⟨_, rfl⟩
  have hD0 : Below (W3).heap.size (W3) U0 := by rw [hU0]; exact (Below.refl _ _).drew
  replace rD := rD.below hD0 rD.lt
  replace rA := rA.below hD0 rA.lt
  replace sS := sS.below hD0 sS.1
  have bU0 := (Below.refl W3.heap.size W3).trans (hD0.mono (Below.refl W3.heap.size W3).size)
  have bR : Below U0.heap.size U0 U0 := Below.refl _ _
  rw [← hU0]
  clear hU0 hD0
  have l_rD := rD.lt
  have l_rA := rA.lt
  have l_sS := sS.1
  have hS0 : (fun W' : World => W'.cell? ⟨D, 0, none⟩ = some (.slice (some ⟨B, 0, none⟩) n cap) ∧ W'.cell? ⟨w.heap.size, 1, none⟩ = some (.int .i64 x)) U0 := ⟨rD.cell 0, rA.cell 1⟩
  refine wpAnyH_takeD (some 35) (i := 0) (v := ?_) rfl rfl (by kernel_rfl) (by kernel_rfl) (by kernel_rfl) (fun _ _ _ h => h) (.inl ⟨by kernel_rfl, ?_⟩) hS0 ?_
  rotate_left
  · intro w' hw'; go_simp; try with_reducible rfl
  try simp only [Act.put, List.setIfInBounds_toArray, List.set_cons_zero, List.set_cons_succ]
  refine wpAnyH_takeD (some 36) (i := 1) (v := ?_) rfl rfl (by kernel_rfl) (by kernel_rfl) (by kernel_rfl) (fun _ _ _ h => h) (.inl ⟨by kernel_rfl, ?_⟩) hS0 ?_
  rotate_left
  · intro w' hw'; have e9 := hw'.1; have e8 := hw'.2; clear hw'; go_simp; try with_reducible rfl
  try simp only [Act.put, List.setIfInBounds_toArray, List.set_cons_zero, List.set_cons_succ]
  refine wpAnyH_takeD (some 37) (i := 2) (v := ?_) rfl rfl (by kernel_rfl) (by kernel_rfl) (by kernel_rfl) (fun _ _ _ h => h) (.inl ⟨by kernel_rfl, ?_⟩) hS0 ?_
  rotate_left
  · intro w' hw'; have e9 := hw'.1; have e8 := hw'.2; clear hw'; go_simp; try with_reducible rfl
  try simp only [Act.put, List.setIfInBounds_toArray, List.set_cons_zero, List.set_cons_succ]
  refine wpAnyH_takeD (some 38) (i := 3) (v := ?_) rfl rfl (by kernel_rfl) (by kernel_rfl) (by kernel_rfl) (fun _ _ _ h => h) (.inl ⟨by kernel_rfl, ?_⟩) hS0 ?_
  rotate_left
  · intro w' hw'; go_simp; try with_reducible rfl
  try simp only [Act.put, List.setIfInBounds_toArray, List.set_cons_zero, List.set_cons_succ]
  refine wpAnyH_takeD (some 39) (i := 4) (v := ?_) rfl rfl (by kernel_rfl) (by kernel_rfl) (by kernel_rfl) (fun _ _ _ h => h) (.inl ⟨by kernel_rfl, ?_⟩) hS0 ?_
  rotate_left
  · intro w' hw'; go_simp; try with_reducible rfl
  try simp only [Act.put, List.setIfInBounds_toArray, List.set_cons_zero, List.set_cons_succ]
  refine wpAnyH_takeD (some 40) (i := 5) (v := ?_) rfl rfl (by kernel_rfl) (by kernel_rfl) (by kernel_rfl) (fun _ _ _ h => h) (.inl ⟨by kernel_rfl, ?_⟩) hS0 ?_
  rotate_left
  · intro w' hw'; have e9 := hw'.1; have e8 := hw'.2; clear hw'; go_simp; try with_reducible rfl
  try simp only [Act.put, List.setIfInBounds_toArray, List.set_cons_zero, List.set_cons_succ]
  refine wpAnyH_takeD (some 41) (i := 6) (v := ?_) rfl rfl (by kernel_rfl) (by kernel_rfl) (by kernel_rfl) (fun _ _ _ h => h) (.inl ⟨by kernel_rfl, ?_⟩) hS0 ?_
  rotate_left
  · intro w' hw'; have e9 := hw'.1; have e8 := hw'.2; clear hw'; go_simp; try with_reducible rfl
  try simp only [Act.put, List.setIfInBounds_toArray, List.set_cons_zero, List.set_cons_succ]
  refine wpAnyH_takeD (some 42) (i := 7) (v := ?_) rfl rfl (by kernel_rfl) (by kernel_rfl) (by kernel_rfl) (fun _ _ _ h => h) (.inl ⟨by kernel_rfl, ?_⟩) hS0 ?_
  rotate_left
  · intro w' hw'; go_simp; try with_reducible rfl
  try simp only [Act.put, List.setIfInBounds_toArray, List.set_cons_zero, List.set_cons_succ]
  refine wpAnyH_takeD (some 43) (i := 8) (v := ?_) rfl rfl (by kernel_rfl) (by kernel_rfl) (by kernel_rfl) (fun _ _ _ h => h) (.inl ⟨by kernel_rfl, ?_⟩) hS0 ?_
  rotate_left
  · intro w' hw'; go_simp; try with_reducible rfl
  try simp only [Act.put, List.setIfInBounds_toArray, List.set_cons_zero, List.set_cons_succ]
  refine wpAnyH_takeD (some 44) (i := 9) (v := ?_) rfl rfl (by kernel_rfl) (by kernel_rfl) (by kernel_rfl) (fun _ _ _ h => h) (.inl ⟨by kernel_rfl, ?_⟩) hS0 ?_
  rotate_left
  · intro w' hw'; have e9 := hw'.1; have e8 := hw'.2; clear hw'; go_simp; try with_reducible rfl
  try simp only [Act.put, List.setIfInBounds_toArray, List.set_cons_zero, List.set_cons_succ]
  refine wpAnyH_all (rs := [10]) (by kernel_rfl) (by simp) ?_
  intro i hi; simp only [List.mem_cons, List.not_mem_nil, or_false] at hi
  subst hi
  refine wpOp_step rfl (fun K hK => ?_)
  rw [if_pos (by kernel_rfl)]
  refine wp_load_mid 31 _ rfl D 1 rfl (diC (dgL zs v)) _ (dvC_range rD) Tryd.underlying31 rfl Tryd.infoDigQ ?_
  refine hK _ _ ⟨hS0, ?_⟩
  try simp only [Act.put, List.setIfInBounds_toArray, List.set_cons_zero, List.set_cons_succ]
  clear hK K
  refine wpAnyH_all (rs := [11]) (by kernel_rfl) (by simp) ?_
  intro i hi; simp only [List.mem_cons, List.not_mem_nil, or_false] at hi
  subst hi
  refine wpOp_step rfl (fun K hK => ?_)
  go_simp
  with_reducible refine (l01Value_dg B n cap zs v U0 sS HN.out HZL.out HVV.out).mono ?_
  rintro e v2 ⟨rfl, hB2⟩
  replace rD := rD.below hB2 rD.lt
  replace rA := rA.below hB2 rA.lt
  replace sS := sS.below hB2 sS.1
  replace bR := bR.trans (hB2.mono bR.size)
  have hS2 : (fun W' : World => W'.cell? ⟨D, 0, none⟩ = some (.slice (some ⟨B, 0, none⟩) n cap) ∧ W'.cell? ⟨w.heap.size, 1, none⟩ = some (.int .i64 x)) v2 := ⟨rD.cell 0, rA.cell 1⟩
  refine hK _ _ ⟨hS2, ?_⟩
  try simp only [Act.put, List.setIfInBounds_toArray, List.set_cons_zero, List.set_cons_succ]
  clear hB2 hK K hS0
  refine wpAnyH_takeD (some 47) (i := 12) (v := ?_) rfl rfl (by kernel_rfl) (by kernel_rfl) (by kernel_rfl) (fun _ _ _ h => h) (.inl ⟨by kernel_rfl, ?_⟩) hS2 ?_
  rotate_left
  · intro w' hw'; go_simp; try with_reducible rfl
  try simp only [Act.put, List.setIfInBounds_toArray, List.set_cons_zero, List.set_cons_succ]
  refine wpAnyH_takeD (some 48) (i := 13) (v := ?_) rfl rfl (by kernel_rfl) (by kernel_rfl) (by kernel_rfl) (fun _ _ _ h => h) (.inl ⟨by kernel_rfl, ?_⟩) hS2 ?_
  rotate_left
  · intro w' hw'; go_simp; try with_reducible rfl
  try simp only [Act.put, List.setIfInBounds_toArray, List.set_cons_zero, List.set_cons_succ]
  refine wpAnyH_takeD (some 49) (i := 14) (v := ?_) rfl rfl (by kernel_rfl) (by kernel_rfl) (by kernel_rfl) (fun _ _ _ h => h) (.inl ⟨by kernel_rfl, ?_⟩) hS2 ?_
  rotate_left
  · intro w' hw'; have e9 := hw'.1; have e8 := hw'.2; clear hw'; go_simp; try with_reducible rfl
  try simp only [Act.put, List.setIfInBounds_toArray, List.set_cons_zero, List.set_cons_succ]
  refine wpAnyH_all (rs := [15]) (by kernel_rfl) (by simp) ?_
  intro i hi; simp only [List.mem_cons, List.not_mem_nil, or_false] at hi
  subst hi
  refine wpOp_step rfl (fun K hK => ?_)
  have f10 := rD.frozen 10
  have c10' : (World.cell? v2 ⟨D, 10, none⟩) = some (.bool st) := rD.cell 10
  go_simp
  obtain ⟨X9, hX9⟩ : ∃ X, X = World.setCell v2 ⟨D, 10, none⟩ (.bool (x == v)) := ⟨_, rfl⟩
  have nD : Row X9 D 33 (dvC (.slice (some ⟨B, 0, none⟩) n cap) (dgL zs v) x (decide (x = v)) tk) := by rw [hX9]; exact rD.set 10 _
  have nA : Row X9 w.heap.size 37 [.int .i8 3, .int .i64 x] := by rw [hX9]; exact rA.other (by show D ≠ w.heap.size; have := LD.out; omega) _
  have bb := bU0.trans (bR.mono bU0.size)
  have nB : Below D w X9 := by rw [hX9]; exact (B3.out.trans (bb.mono (by omega))).setCell (p := ⟨D, 10, none⟩) (Nat.le_refl _) _
  have nK : ∀ q, q < w.heap.size → q ≠ D → X9.heap[q]? = w.heap[q]? := fun q h1 h2 => by rw [hX9]; exact (Below.heap_setCell v2 _ _ _ h2).trans ((bb.block q (by omega)).trans (K3.out q h1 h2))
  have hS9 : (fun W' : World => W'.cell? ⟨D, 0, none⟩ = some (.slice (some ⟨B, 0, none⟩) n cap) ∧ W'.cell? ⟨w.heap.size, 1, none⟩ = some (.int .i64 x)) X9 := ⟨nD.cell 0, nA.cell 1⟩
  rw [← hX9]
  refine hK _ _ ⟨hS9, ?_⟩
  try simp only [Act.put, List.setIfInBounds_toArray, List.set_cons_zero, List.set_cons_succ]
  clear hX9 hK K hS2
  refine wpAnyH_done (by kernel_rfl) ?_ _
  go_wp2_with fail
  refine bodyPost_ret (v := .tuple #[.int .i64 0, .int .i64 0]) (by simp [results, Tryd.results44, go_sem]) rfl ?_
  exact ⟨rfl, nD, nB, nK⟩
end Go.Proofs.YthifegbmpmialaaDoor

namespace Go.Proofs.YthifegbmpmialaaDoor
open Go.RowKit
set_option linter.unusedVariables false
set_option linter.unusedSimpArgs false
theorem do07_any (k : Int) (D B n cap : Nat) (zs : List Int) (v pr : Int) (st : Bool) (tk x : Int) (w : World) (hBD : B < D) (hD : Row w D 33 (dvC (.slice (some ⟨B, 0, none⟩) n cap) (dgL zs v) pr st tk)) (hS : Stk w B zs) (hn : n = zs.length) (hzL : okL zs = true) (hok : okS (szL zs) (v, pr, st, tk)) (ha : okAct k x = true) :
    Calls Tryd.prog 44 #[.pointer (some ⟨D, 0, none⟩), .agg #[.int .i8 k, .int .i64 x]] w (DoS D (dvS (.slice (some ⟨B, 0, none⟩) n cap) zs (actF (szL zs) (v, pr, st, tk) k x).2.1) (actF (szL zs) (v, pr, st, tk) k x).2.2 (actF (szL zs) (v, pr, st, tk) k x).1 w) := by
  have ho := hok
  obtain ⟨h1, h2, h3, h4, h5⟩ := ho
  simp only at h1 h2 h3 h4 h5
  by_cases k1 : k = 1
  · subst k1
    rw [okAct_count (.inl rfl)] at ha
    simp only [Bool.and_eq_true, decide_eq_true_eq] at ha
    have e : actF (szL zs) (v, pr, st, tk) 1 x = (0, pulF (szL zs) (v, pr, st, tk) x 1) := by unfold actF; rw [if_pos rfl]
    rw [e]; exact do_1 D B n cap zs v pr st tk x w hBD hD hS hn hzL hok ha
  by_cases k2 : k = 2
  · subst k2
    rw [okAct_count (.inr rfl)] at ha
    simp only [Bool.and_eq_true, decide_eq_true_eq] at ha
    have e : actF (szL zs) (v, pr, st, tk) 2 x = (0, pulF (szL zs) (v, pr, st, tk) x (-1)) := by unfold actF; rw [if_neg (by omega), if_pos rfl]
    rw [e]; exact do_2 D B n cap zs v pr st tk x w hBD hD hS hn hzL hok ha
  by_cases k3 : k = 3
  · subst k3
    by_cases c : (szL zs) ≤ x
    · have e : actF (szL zs) (v, pr, st, tk) 3 x = (2, (v, pr, st, tk), 0) := by unfold actF; rw [if_neg (by omega), if_neg (by omega), if_pos rfl, if_pos c]
      rw [e]; exact do_3no D B n cap zs v pr st tk x w hBD hD hS hn hzL hok c
    · have e : actF (szL zs) (v, pr, st, tk) 3 x = (0, (v, x, decide (v = x), tk), 0) := by unfold actF; rw [if_neg (by omega), if_neg (by omega), if_pos rfl, if_neg c]
      rw [e, show decide (v = x) = decide (x = v) from by congr 1; exact propext eq_comm]
      exact do_3ok D B n cap zs v pr st tk x w hBD hD hS hn hzL hok c
  by_cases k4 : k = 4
  · subst k4
    have e : actF (szL zs) (v, pr, st, tk) 4 x = (0, (0, pr, decide (0 = pr), tk), 0) := by unfold actF; rw [if_neg (by omega), if_neg (by omega), if_neg (by omega), if_pos rfl]
    rw [e]; exact do_4 D B n cap zs v pr st tk x w hBD hD hS hn hzL hok
  have k5 : k = 5 := by
    unfold okAct at ha
    rw [if_neg (by omega), if_neg k3] at ha
    split at ha
    · omega
    · exact absurd ha (by decide)
  subst k5
  by_cases c : 1000000 ≤ tk
  · have e : actF (szL zs) (v, pr, st, tk) 5 x = (4, (v, pr, st, tk), 0) := by unfold actF; rw [if_neg (by omega), if_neg (by omega), if_neg (by omega), if_neg (by omega), if_pos c]
    rw [e]; exact do_5no D B n cap zs v pr st tk x w hBD hD hS hn hzL hok c
  · have e : actF (szL zs) (v, pr, st, tk) 5 x = (0, (v, pr, st, tk + 1), 0) := by unfold actF; rw [if_neg (by omega), if_neg (by omega), if_neg (by omega), if_neg (by omega), if_neg c]
    rw [e]; exact do_5ok D B n cap zs v pr st tk x w hBD hD hS hn hzL hok c h4
end Go.Proofs.YthifegbmpmialaaDoor

namespace Go.Proofs.YthifegbmpmialaaDoor
open Go.RowKit
set_option linter.unusedVariables false
set_option linter.unusedSimpArgs false
def okT (o : Bool) (js : List (Int × Int)) (k : Nat) : Bool := o && (List.range k).all fun j => okAct (ak js j) (an js j)
theorem okT_zero (o : Bool) (js : List (Int × Int)) : okT o js 0 = o := by simp [okT]
theorem okT_succ (o : Bool) (js : List (Int × Int)) (k : Nat) : okT o js (k + 1) = (okT o js k && okAct (ak js k) (an js k)) := by simp [okT, List.range_succ, Bool.and_assoc]
theorem okT_mono {o : Bool} {js : List (Int × Int)} {k : Nat} (h : okT o js k = false) : ∀ n, k ≤ n → okT o js n = false
  | 0, hn => by have : k = 0 := by omega
                subst this; exact h
  | n + 1, hn => by
    by_cases e : k = n + 1
    · subst e; exact h
    · rw [okT_succ, okT_mono h n (by omega)]; rfl
def askV (o : Bool) (js : List (Int × Int)) (N : Nat) : Int := if okT o js N = false then 1 else if 60 < N then 3 else 0
set_option maxRecDepth 100000 in
set_option maxHeartbeats 8000000 in
theorem l07Asked_any (D B n cap : Nat) (zs ds : List Int) (pr : Int) (st : Bool) (tk : Int) (b N acap : Nat) (js : List (Int × Int)) (w : World) (hA : Ast w b js) (hN : N = js.length)
    (hO : Calls Tryd.prog 41 #[.pointer (some ⟨D, 0, none⟩)] w (GivesB w (.bool (okDev zs ds pr st tk)))) :
    Calls Tryd.prog 65 #[.pointer (some ⟨D, 0, none⟩), (.slice (some ⟨b, 0, none⟩) N acap)] w (GivesB w (.int .i64 (askV (okDev zs ds pr st tk) js N))) := by
  have HA := hid hA; have HO := hid hO; have HN := hid hN
  have hm := hA.2.2
  obtain ⟨o, ho⟩ : ∃ o, okDev zs ds pr st tk = o := ⟨_, rfl⟩
  rw [ho] at HO ⊢
  clear hA hO hN ho
  go_enter Tryd.func65, Tryd.ntmps65
  go_wp2_with fail
  refine HO.out.mono ?_
  rintro e w1 ⟨rfl, hB1⟩
  go_wp2_with fail
  go_loopw [5, 6] (fun v i wr => ∃ k : Nat, k ≤ N ∧ i = .int .i64 k ∧ v = .bool (okT o js k) ∧ Below w.heap.size w wr) (fun _ i _ => N - (intOf i).toNat)
  case atStart => exact ⟨0, Nat.zero_le _, rfl, by rw [okT_zero], hB1⟩
  case round =>
    obtain ⟨k, hk, rfl, rfl, hB⟩ := hrel
    have hz := hB.size
    by_cases hkn : k < N
    · have k1 : (k : Int) < (N : Int) := by omega
      cases hok : okT o js k with
      | true =>
        have hkl : k < js.length := by have := HN.out; omega
        obtain ⟨x0, x1⟩ := (HA.out.below hB HA.out.1).2.1 k hkl
        have hAc := hid (l07Act_any (ak js k) (an js k) wr)
        have hsu := okT_succ o js k
        rw [hok, Bool.true_and] at hsu
        have k0 : (0 : Int) ≤ (k : Int) := by omega
        have w1' : IntKind.i64.wrap ((k : Int) + 1) = (k : Int) + 1 := IntWalk.i64_in _ (by omega)
        have HB := hid hB; have HS := hid hsu
        clear hB hsu hz
        go_wp2_with fail
        refine hAc.out.mono ?_
        rintro e w2 ⟨rfl, hB2⟩
        go_wp2_with fail
        go_roundw
        case rel => exact ⟨k + 1, by omega, by go_num, by rw [HS.out], HB.out.trans (hB2.mono HB.out.size)⟩
        case measure => simp [intOf]; omega
      | false =>
        have hf := okT_mono hok N hk
        have hv : askV o js N = 1 := by rw [askV, if_pos hf]
        go_wp2_with fail
        go_ret
        exact ⟨(by rw [hv]; rfl), hB⟩
    · obtain rfl : k = N := by omega
      have k1 : ¬ (k : Int) < (k : Int) := by omega
      cases hok : okT o js k with
      | true =>
        by_cases h60 : 60 < k
        · have h60' : (60 : Int) < (k : Int) := by omega
          have hv : askV o js k = 3 := by rw [askV, if_neg (by rw [hok]; decide), if_pos h60]
          go_wp2_with fail
          go_ret
          exact ⟨by first | rfl | rw [hv] | (rw [hv]; rfl), hB⟩
        · have h60' : ¬ (60 : Int) < (k : Int) := by omega
          have hv : askV o js k = 0 := by rw [askV, if_neg (by rw [hok]; decide), if_neg h60]
          go_wp2_with fail
          go_ret
          exact ⟨by first | rfl | rw [hv] | (rw [hv]; rfl), hB⟩
      | false =>
        have hv : askV o js k = 1 := by rw [askV, if_pos hok]
        go_wp2_with fail
        go_ret
        exact ⟨by first | rfl | rw [hv] | (rw [hv]; rfl), hB⟩
end Go.Proofs.YthifegbmpmialaaDoor

namespace Go.Proofs.YthifegbmpmialaaDoor
open Go.RowKit
set_option linter.unusedVariables false
set_option linter.unusedSimpArgs false
theorem dev_state {zs ds : List Int} {pr : Int} {st : Bool} {tk : Int} (h8 : ds.length = 8) (ho : Oct (dg ds 0) (dg ds 1) (dg ds 2) (dg ds 3) (dg ds 4) (dg ds 5) (dg ds 6) (dg ds 7)) (h : okDev zs ds pr st tk = true) : ds = dgL zs (valL zs ds zs.length) ∧ okS (szL zs) (valL zs ds zs.length, pr, st, tk) := by
  obtain ⟨hV, h1, h2, h3⟩ := okDev_out h
  have hb := valDev_bd (zs := zs) (by rw [dg8 ds h8]; exact hV) ho
  rw [dg8 ds h8] at hb
  refine ⟨(dgL_val zs ds hV (fun j hj => ?_) h8).symm, hb, h1, h3, h2⟩
  have := (oct_bd ho j hj).1
  rw [dg8 ds h8] at this
  exact this
theorem l07Ok_dv (D B n cap : Nat) (zs ds : List Int) (pr : Int) (st : Bool) (tk : Int) (w : World) (hS : Stk w B zs) (hn : n = zs.length) (h8 : ds.length = 8) (ho : Oct (dg ds 0) (dg ds 1) (dg ds 2) (dg ds 3) (dg ds 4) (dg ds 5) (dg ds 6) (dg ds 7)) (hR : Row w D 33 (dvC (.slice (some ⟨B, 0, none⟩) n cap) ds pr st tk)) :
    Calls Tryd.prog 41 #[.pointer (some ⟨D, 0, none⟩)] w (GivesB w (.bool (okDev zs ds pr st tk))) := by
  have h := l07Ok_any D B n cap zs _ _ _ _ _ _ _ _ pr st tk w hS hn ho hR
  rw [dg8 ds h8] at h
  exact h
end Go.Proofs.YthifegbmpmialaaDoor

namespace Go.Proofs.YthifegbmpmialaaDoor
open Go.RowKit
set_option linter.unusedVariables false
set_option linter.unusedSimpArgs false
/-- a device that a call gives, its stack its own, and two numbers -/
def DevG (E ds : List Int) (pr : Int) (st : Bool) (tk l c : Int) (w : World) (e : Ending) (w' : World) : Prop :=
  ∃ a n cap, e = .returned (.tuple #[.agg (dvC (.slice a n cap) ds pr st tk).toArray, .int .i64 l, .int .i64 c]) ∧ OwnB w' w.heap.size (.slice a n cap) E ∧ Below w.heap.size w w'
def oE (zs : List Int) (c : Int) : List Int := if c = 0 then zs else []
def oS (z : Int) (S : DS) (js : List (Int × Int)) (N : Nat) (c : Int) : DS := if c = 0 then stF z S js N else (0, 0, false, 0)
def oD (zs : List Int) (S : DS) (js : List (Int × Int)) (N : Nat) (c : Int) : List Int := if c = 0 then dgL zs (stF (szL zs) S js N).1 else []
def oL (z : Int) (S : DS) (js : List (Int × Int)) (N : Nat) (c : Int) : Int := if c = 0 then suF z S js N else 0
/-- what acts give, as a device and numbers -/
def DevO (zs : List Int) (S : DS) (js : List (Int × Int)) (N : Nat) (c : Int) (w : World) (e : Ending) (w' : World) : Prop :=
  DevG (oE zs c) (oD zs S js N c) (oS (szL zs) S js N c).2.1 (oS (szL zs) S js N c).2.2.1 (oS (szL zs) S js N c).2.2.2 (oL (szL zs) S js N c) c w e w'
theorem dvZ_eq : dvZ = dvC (.slice none 0 0) [] 0 false 0 := rfl
theorem DevO.no {zs : List Int} {S : DS} {js : List (Int × Int)} {N : Nat} {c : Int} {w w' : World} {e : Ending} (hc : c ≠ 0) (he : e = .returned (.tuple #[.agg dvZ.toArray, .int .i64 0, .int .i64 c])) (hB : Below w.heap.size w w') : DevO zs S js N c w e w' := by
  unfold DevO oE oD oS oL
  rw [if_neg hc, if_neg hc, if_neg hc, if_neg hc]
  exact ⟨none, 0, 0, he, OwnB.nil _ _ _ _, hB⟩
theorem DevO.yes {zs : List Int} {S : DS} {js : List (Int × Int)} {N : Nat} {c : Int} {w w' : World} {e : Ending} {g cp : Nat} {rest : List Value} (hc : c = 0) (he : e = .returned (.tuple #[.agg (dvC (.slice (some ⟨g, 0, none⟩) zs.length cp) (dgL zs (stF (szL zs) S js N).1) (stF (szL zs) S js N).2.1 (stF (szL zs) S js N).2.2.1 (stF (szL zs) S js N).2.2.2).toArray, .int .i64 (suF (szL zs) S js N), .int .i64 c])) (hz : zs.length ≤ 1099511627776) (hg : w.heap.size ≤ g) (hR : Row w' g 5 (zs.map (Value.int .u8) ++ rest)) (hB : Below w.heap.size w w') : DevO zs S js N c w e w' := by
  unfold DevO oE oD oS oL
  rw [if_pos hc, if_pos hc, if_pos hc, if_pos hc]
  exact ⟨some ⟨g, 0, none⟩, zs.length, cp, he, ⟨_, _, rfl, hz, .inr ⟨g, rest, rfl, hg, hR⟩⟩, hB⟩
/-- the program's DoActs and DoAct -/
theorem DevO.of_impl {zs ds : List Int} {S : DS} {js : List (Int × Int)} {N : Nat} {c : Int} {w w' : World} {e : Ending} {dv : List Value} {nv : Value} {l : Int} (he : e = .returned (.tuple #[.agg dv.toArray, .int .i64 l, .int .i64 c])) (hX : XR w.heap.size zs S js N c dv nv l w') (hz : zs.length ≤ 1099511627776) (hB : Below w.heap.size w w') : DevO zs S js N c w e w' := by
  rcases hX with ⟨hc, g, cp, rest, base, rfl, rfl, hR, hg, h1, h2, h3⟩ | ⟨hc, rfl, rfl, rfl⟩
  · exact DevO.yes hc he hz hg hR hB
  · exact DevO.no hc he hB
theorem okDev_okL {zs ds : List Int} {pr : Int} {st : Bool} {tk : Int} (h : okDev zs ds pr st tk = true) : okL zs = true := by
  obtain ⟨hV, _⟩ := okDev_out h
  exact (okV_out hV).1
set_option maxRecDepth 100000 in
set_option maxHeartbeats 1600000 in
theorem spDoAct_dev (B n cap : Nat) (zs ds : List Int) (v pr : Int) (st : Bool) (tk : Int) (k x : Int) (w : World) (hS : Stk w B zs) (hn : n = zs.length) (hd8 : ds.length = 8) (ho : Oct (dg ds 0) (dg ds 1) (dg ds 2) (dg ds 3) (dg ds 4) (dg ds 5) (dg ds 6) (dg ds 7)) (h0 : okDev zs ds pr st tk = false) :
    Calls Tryd.prog 10 #[.agg (dvC (.slice (some ⟨B, 0, none⟩) n cap) ds pr st tk).toArray, .agg #[.int .i8 k, .int .i64 x]] w fun e w' => e = .returned (.tuple #[.agg dvZ.toArray, .int .i64 0, .int .i64 1]) ∧ Below w.heap.size w w' := by
  have hID : (Tryd.prog.info? 33).map (·.size) = some 12 := Tryd.infoDev
  obtain ⟨V, hV⟩ : ∃ V, V = ((w.alloc (.cells (dvC (.slice (some ⟨B, 0, none⟩) n cap) ds pr st tk).toArray 33)).alloc (.cells #[.int .i8 k, .int .i64 x] 37)).alloc (.cells #[.slice none 0 0, .int .u8 0, .int .u8 0, .int .u8 0, .int .u8 0, .int .u8 0, .int .u8 0, .int .u8 0, .int .u8 0, .int .i64 0, .bool false, .int .i64 0] 33) := ⟨_, rfl⟩
  have bV : Below w.heap.size w V := by rw [hV]; exact (((Below.refl _ _).alloc (Nat.le_refl _) _).alloc (by simp) _).alloc (by simp; omega) _
  have rP : Row V w.heap.size 33 (dvC (.slice (some ⟨B, 0, none⟩) n cap) ds pr st tk) := by rw [hV]; exact ((Row.new w _ _).alloc _).alloc _
  have rA : Row V (w.heap.size + 1) 37 [.int .i8 k, .int .i64 x] := by
    have h := (Row.new (w.alloc (.cells (dvC (.slice (some ⟨B, 0, none⟩) n cap) ds pr st tk).toArray 33)) 37 [.int .i8 k, .int .i64 x]).alloc (.cells #[.slice none 0 0, .int .u8 0, .int .u8 0, .int .u8 0, .int .u8 0, .int .u8 0, .int .u8 0, .int .u8 0, .int .u8 0, .int .i64 0, .bool false, .int .i64 0] 33)
    simp only [World.size_alloc] at h
    rw [hV]; exact h
  have rZ : Row V (w.heap.size + 2) 33 dvZ := by
    have h := Row.new ((w.alloc (.cells (dvC (.slice (some ⟨B, 0, none⟩) n cap) ds pr st tk).toArray 33)).alloc (.cells #[.int .i8 k, .int .i64 x] 37)) 33 dvZ
    simp only [World.size_alloc] at h
    rw [hV]; exact h
  have HO := hid (l07Ok_dv w.heap.size B n cap zs ds pr st tk V (hS.below bV hS.1) hn hd8 ho rP)
  have HV := hid hV; have HS := hid hS; have HN := hid hn; have BV := hid bV
  rw [h0] at HO
  clear hV hS hn bV h0 ho hd8
  go_enter Tryd.func10, Tryd.ntmps10
  go_wp2_with fail
  rw [← HV.out]
  refine HO.out.mono ?_
  rintro e w1 ⟨rfl, hB1⟩
  have z1 := rZ.below hB1 rZ.lt
  have b1 := BV.out.trans (hB1.mono BV.out.size)
  have T1 := z1.thereO 0 12 (by rw [dvZ_len]; omega)
  have N1 := hid (z1.setAll (ys := dvZ) rfl)
  have NB := hid (below_setCellsD (g := w.heap.size + 2) dvZ 0 _ b1 (by omega))
  clear rZ rA rP z1 b1 hB1
  go_wp2_with ((with_reducible refine wpList_store_mid rfl 33 _ _ rfl (w.heap.size + 2) 0 dvZ.toArray ?_ ?_ ?_ ?_ dvZ_oneT ?_); rfl; rfl; exact T1; exact hID)
  exact bodyPost_ret (v := .tuple #[.agg dvZ.toArray, .int .i64 0, .int .i64 1]) (results_css (p := 4) (q := 5) (r := 6) (fn := Tryd.f10) rfl _ _ _ _ _ _ _ _ rfl rfl rfl N1.out Tryd.underlying33 rfl hID) rfl ⟨rfl, NB.out⟩
set_option maxRecDepth 100000 in
set_option maxHeartbeats 1600000 in
theorem spDoAct_act (B n cap : Nat) (zs ds : List Int) (v pr : Int) (st : Bool) (tk : Int) (k x : Int) (w : World) (hS : Stk w B zs) (hn : n = zs.length) (hd8 : ds.length = 8) (ho : Oct (dg ds 0) (dg ds 1) (dg ds 2) (dg ds 3) (dg ds 4) (dg ds 5) (dg ds 6) (dg ds 7)) (h0 : okDev zs ds pr st tk = true) (h1 : okAct k x = false) :
    Calls Tryd.prog 10 #[.agg (dvC (.slice (some ⟨B, 0, none⟩) n cap) ds pr st tk).toArray, .agg #[.int .i8 k, .int .i64 x]] w fun e w' => e = .returned (.tuple #[.agg dvZ.toArray, .int .i64 0, .int .i64 1]) ∧ Below w.heap.size w w' := by
  have hID : (Tryd.prog.info? 33).map (·.size) = some 12 := Tryd.infoDev
  obtain ⟨V, hV⟩ : ∃ V, V = ((w.alloc (.cells (dvC (.slice (some ⟨B, 0, none⟩) n cap) ds pr st tk).toArray 33)).alloc (.cells #[.int .i8 k, .int .i64 x] 37)).alloc (.cells #[.slice none 0 0, .int .u8 0, .int .u8 0, .int .u8 0, .int .u8 0, .int .u8 0, .int .u8 0, .int .u8 0, .int .u8 0, .int .i64 0, .bool false, .int .i64 0] 33) := ⟨_, rfl⟩
  have bV : Below w.heap.size w V := by rw [hV]; exact (((Below.refl _ _).alloc (Nat.le_refl _) _).alloc (by simp) _).alloc (by simp; omega) _
  have rP : Row V w.heap.size 33 (dvC (.slice (some ⟨B, 0, none⟩) n cap) ds pr st tk) := by rw [hV]; exact ((Row.new w _ _).alloc _).alloc _
  have rA : Row V (w.heap.size + 1) 37 [.int .i8 k, .int .i64 x] := by
    have h := (Row.new (w.alloc (.cells (dvC (.slice (some ⟨B, 0, none⟩) n cap) ds pr st tk).toArray 33)) 37 [.int .i8 k, .int .i64 x]).alloc (.cells #[.slice none 0 0, .int .u8 0, .int .u8 0, .int .u8 0, .int .u8 0, .int .u8 0, .int .u8 0, .int .u8 0, .int .u8 0, .int .i64 0, .bool false, .int .i64 0] 33)
    simp only [World.size_alloc] at h
    rw [hV]; exact h
  have rZ : Row V (w.heap.size + 2) 33 dvZ := by
    have h := Row.new ((w.alloc (.cells (dvC (.slice (some ⟨B, 0, none⟩) n cap) ds pr st tk).toArray 33)).alloc (.cells #[.int .i8 k, .int .i64 x] 37)) 33 dvZ
    simp only [World.size_alloc] at h
    rw [hV]; exact h
  have HO := hid (l07Ok_dv w.heap.size B n cap zs ds pr st tk V (hS.below bV hS.1) hn hd8 ho rP)
  have HV := hid hV; have HS := hid hS; have HN := hid hn; have BV := hid bV
  rw [h0] at HO
  have HAC := hid (fun W => l07Act_any k x W)
  rw [h1] at HAC
  clear hV hS hn bV h0 ho hd8 h1
  go_enter Tryd.func10, Tryd.ntmps10
  go_wp2_with fail
  rw [← HV.out]
  refine HO.out.mono ?_
  rintro e w1 ⟨rfl, hB1⟩
  have z1 := rZ.below hB1 rZ.lt
  have ra1 := rA.below hB1 rA.lt
  have b1 := BV.out.trans (hB1.mono BV.out.size)
  have a0 := ra1.cell 0; have a1 := ra1.cell 1; simp only [List.getElem?_cons_zero, List.getElem?_cons_succ] at a0 a1
  clear rZ rA rP hB1 ra1
  go_wp2_with fail
  refine (HAC.out w1).mono ?_
  rintro e w2 ⟨rfl, hB2⟩
  replace z1 := z1.below hB2 z1.lt
  have b2 := b1.trans (hB2.mono b1.size)
  have T1 := z1.thereO 0 12 (by rw [dvZ_len]; omega)
  have N1 := hid (z1.setAll (ys := dvZ) rfl)
  have NB := hid (below_setCellsD (g := w.heap.size + 2) dvZ 0 _ b2 (by omega))
  clear z1 b1 b2 hB2 a0 a1
  go_wp2_with ((with_reducible refine wpList_store_mid rfl 33 _ _ rfl (w.heap.size + 2) 0 dvZ.toArray ?_ ?_ ?_ ?_ dvZ_oneT ?_); rfl; rfl; exact T1; exact hID)
  exact bodyPost_ret (v := .tuple #[.agg dvZ.toArray, .int .i64 0, .int .i64 1]) (results_css (p := 4) (q := 5) (r := 6) (fn := Tryd.f10) rfl _ _ _ _ _ _ _ _ rfl rfl rfl N1.out Tryd.underlying33 rfl hID) rfl ⟨rfl, NB.out⟩
def SpDo (n : Nat) (zs : List Int) (c : Int) (S' : DS) (l : Int) (w : World) (e : Ending) (w' : World) : Prop :=
  (e = .returned (.tuple #[.agg dvZ.toArray, .int .i64 0, .int .i64 c]) ∧ c ≠ 0 ∧ Below w.heap.size w w') ∨ (c = 0 ∧ ∃ g cp rest, e = .returned (.tuple #[.agg (dvS (.slice (some ⟨g, 0, none⟩) n cp) zs S').toArray, .int .i64 l, .int .i64 0]) ∧ w.heap.size ≤ g ∧ Row w' g 5 (zs.map (Value.int .u8) ++ rest) ∧ Below w.heap.size w w')
set_option maxRecDepth 100000 in
set_option maxHeartbeats 1600000 in
theorem spDoAct_go (B n cap : Nat) (zs ds : List Int) (v pr : Int) (st : Bool) (tk : Int) (k x : Int) (w : World) (hS : Stk w B zs) (hn : n = zs.length) (hd8 : ds.length = 8) (ho : Oct (dg ds 0) (dg ds 1) (dg ds 2) (dg ds 3) (dg ds 4) (dg ds 5) (dg ds 6) (dg ds 7)) (hv : 0 ≤ v) (h0 : okDev zs ds pr st tk = true) (h1 : okAct k x = true) (hvv : ds = dgL zs v ∧ okS (szL zs) (v, pr, st, tk)) :
    Calls Tryd.prog 10 #[.agg (dvC (.slice (some ⟨B, 0, none⟩) n cap) ds pr st tk).toArray, .agg #[.int .i8 k, .int .i64 x]] w (SpDo n zs (actF (szL zs) (v, pr, st, tk) k x).1 (actF (szL zs) (v, pr, st, tk) k x).2.1 (actF (szL zs) (v, pr, st, tk) k x).2.2 w) := by
  have hID : (Tryd.prog.info? 33).map (·.size) = some 12 := Tryd.infoDev
  obtain ⟨V, hV⟩ : ∃ V, V = ((w.alloc (.cells (dvC (.slice (some ⟨B, 0, none⟩) n cap) ds pr st tk).toArray 33)).alloc (.cells #[.int .i8 k, .int .i64 x] 37)).alloc (.cells #[.slice none 0 0, .int .u8 0, .int .u8 0, .int .u8 0, .int .u8 0, .int .u8 0, .int .u8 0, .int .u8 0, .int .u8 0, .int .i64 0, .bool false, .int .i64 0] 33) := ⟨_, rfl⟩
  have bV : Below w.heap.size w V := by rw [hV]; exact (((Below.refl _ _).alloc (Nat.le_refl _) _).alloc (by simp) _).alloc (by simp; omega) _
  have rP : Row V w.heap.size 33 (dvC (.slice (some ⟨B, 0, none⟩) n cap) ds pr st tk) := by rw [hV]; exact ((Row.new w _ _).alloc _).alloc _
  have rA : Row V (w.heap.size + 1) 37 [.int .i8 k, .int .i64 x] := by
    have h := (Row.new (w.alloc (.cells (dvC (.slice (some ⟨B, 0, none⟩) n cap) ds pr st tk).toArray 33)) 37 [.int .i8 k, .int .i64 x]).alloc (.cells #[.slice none 0 0, .int .u8 0, .int .u8 0, .int .u8 0, .int .u8 0, .int .u8 0, .int .u8 0, .int .u8 0, .int .u8 0, .int .i64 0, .bool false, .int .i64 0] 33)
    simp only [World.size_alloc] at h
    rw [hV]; exact h
  have rZ : Row V (w.heap.size + 2) 33 dvZ := by
    have h := Row.new ((w.alloc (.cells (dvC (.slice (some ⟨B, 0, none⟩) n cap) ds pr st tk).toArray 33)).alloc (.cells #[.int .i8 k, .int .i64 x] 37)) 33 dvZ
    simp only [World.size_alloc] at h
    rw [hV]; exact h
  have HO := hid (l07Ok_dv w.heap.size B n cap zs ds pr st tk V (hS.below bV hS.1) hn hd8 ho rP)
  have HV := hid hV; have HS := hid hS; have HN := hid hn; have BV := hid bV
  rw [h0] at HO
  have HAC := hid (fun W => l07Act_any k x W)
  rw [h1] at HAC
  have hzL := okDev_okL h0
  have hz : 1 ≤ zs.length ∧ zs.length ≤ 8 := ⟨(okL_out hzL).1, (okL_out hzL).2.1⟩
  have HCP := hid (fun W (hD : Row W w.heap.size 33 (dvC (.slice (some ⟨B, 0, none⟩) n cap) ds pr st tk)) (hs : Stk W B zs) => l07Copy_any w.heap.size B n cap zs ds pr st tk W hD hs hn hz.1 hz.2)
  obtain ⟨rfl, hok⟩ := hvv
  have HDO := hid (fun (D g cp : Nat) (W : World) (hBD : g < D) (hD : Row W D 33 (dvC (.slice (some ⟨g, 0, none⟩) n cp) (dgL zs v) pr st tk)) (hs : Stk W g zs) => do07_any k D g n cp zs v pr st tk x W hBD hD hs hn hzL hok h1)
  obtain ⟨⟨c, S', l⟩, hR⟩ : ∃ r, actF (szL zs) (v, pr, st, tk) k x = r := ⟨_, rfl⟩
  obtain ⟨v', pr', st', tk'⟩ := S'
  rw [hR] at HDO ⊢
  simp only at HDO ⊢
  have hzb := hS.2.2.1
  have hzl := hS.2.2.2
  have HZB := hid hzb; have HZL := hid hzl
  clear hV hn bV h0 ho hd8 h1 hR hzL hz hok hzb hzl
  go_enter Tryd.func10, Tryd.ntmps10
  go_wp2_with fail
  rw [← HV.out]
  refine HO.out.mono ?_
  rintro e w1 ⟨rfl, hB1⟩
  replace rZ := rZ.below hB1 rZ.lt; replace rA := rA.below hB1 rA.lt; replace rP := rP.below hB1 rP.lt
  have b1 := BV.out.trans (hB1.mono BV.out.size)
  have a0 := rA.cell 0; have a1 := rA.cell 1; simp only [List.getElem?_cons_zero, List.getElem?_cons_succ] at a0 a1
  clear hB1
  go_wp2_with fail
  refine (HAC.out w1).mono ?_
  rintro e w2 ⟨rfl, hB2⟩
  replace rZ := rZ.below hB2 rZ.lt; replace rA := rA.below hB2 rA.lt; replace rP := rP.below hB2 rP.lt
  replace b1 := b1.trans (hB2.mono b1.size)
  clear hB2 a0 a1
  go_wp2_with fail
  refine (HCP.out w2 rP (HS.out.below b1 HS.out.1)).mono ?_
  rintro e w3 ⟨g, cp, rest, rfl, hg, hge, hB3⟩
  have hge' : w.heap.size + 3 ≤ g := by have h := rZ.lt; omega
  replace rZ := rZ.below hB3 rZ.lt; replace rA := rA.below hB3 rA.lt
  replace b1 := b1.trans (hB3.mono b1.size)
  have lg := hg.lt
  clear hB3 rP hge
  obtain ⟨V7, hV7⟩ : ∃ X, X = w3.alloc (.cells #[.slice none 0 0, .int .u8 0, .int .u8 0, .int .u8 0, .int .u8 0, .int .u8 0, .int .u8 0, .int .u8 0, .int .u8 0, .int .i64 0, .bool false, .int .i64 0] 33) := ⟨_, rfl⟩
  have r7 : Row V7 w3.heap.size 33 dvZ := by rw [hV7]; exact Row.new w3 _ dvZ
  replace rZ : Row V7 (w.heap.size + 2) 33 dvZ := by rw [hV7]; exact rZ.alloc _
  replace rA : Row V7 (w.heap.size + 1) 37 [.int .i8 k, .int .i64 x] := by rw [hV7]; exact rA.alloc _
  replace hg : Row V7 g 5 (zs.map (Value.int .u8) ++ rest) := by rw [hV7]; exact hg.alloc _
  replace b1 : Below w.heap.size w V7 := by rw [hV7]; exact b1.alloc b1.size _
  have T7 := r7.thereO 0 12 (by rw [dvZ_len]; omega)
  rw [hV7] at T7
  obtain ⟨W8, hW8⟩ : ∃ X, X = V7.setCells w3.heap.size 0 (dvC (.slice (some ⟨g, 0, none⟩) n cp) (dgL zs v) pr st tk) := ⟨_, rfl⟩
  have r8 : Row W8 w3.heap.size 33 (dvC (.slice (some ⟨g, 0, none⟩) n cp) (dgL zs v) pr st tk) := by rw [hW8]; exact r7.setAll (by rw [dvC_len, dvZ_len])
  replace rZ : Row W8 (w.heap.size + 2) 33 dvZ := by rw [hW8]; exact rZ.setCellsO (by omega) _ _
  replace rA : Row W8 (w.heap.size + 1) 37 [.int .i8 k, .int .i64 x] := by rw [hW8]; exact rA.setCellsO (by omega) _ _
  replace hg : Row W8 g 5 (zs.map (Value.int .u8) ++ rest) := by rw [hW8]; exact hg.setCellsO (by omega) _ _
  have hsz3 : w.heap.size + 3 ≤ w3.heap.size := by omega
  replace b1 : Below w.heap.size w W8 := by rw [hW8]; exact below_setCellsD (dvC (.slice (some ⟨g, 0, none⟩) n cp) (dgL zs v) pr st tk) 0 _ b1 (by omega)
  have HW8 := hid hW8; have HV7 := hid hV7
  have sg : Stk W8 g zs := rowB_stk hg HZB.out HZL.out
  have HD4 := hid (HDO.out w3.heap.size g cp W8 lg r8 sg)
  obtain ⟨D7, hD7⟩ : ∃ y, y = w3.heap.size := ⟨_, rfl⟩
  have LG := hid (show g < D7 by rw [hD7]; exact lg)
  have LGE := hid hge'
  have LD7 := hid (show w.heap.size + 3 ≤ D7 by rw [hD7]; exact hsz3)
  have HD7 := hid hD7
  clear hW8 hV7 r7 sg lg hge' hsz3 hD7 r8
  go_upto_region 4 with ((with_reducible refine wpList_store_mid rfl 33 _ _ rfl w3.heap.size 0 (dvC (.slice (some ⟨g, 0, none⟩) n cp) (dgL zs v) pr st tk).toArray ?_ ?_ ?_ ?_ (all_oneCell_toArray (dvC_one _ _ _ _ _ _ _)) ?_); rfl; rfl; exact T7; exact hID)
  rw [show World.setCells (w3.alloc (.cells #[.slice none 0 0, .int .u8 0, .int .u8 0, .int .u8 0, .int .u8 0, .int .u8 0, .int .u8 0, .int .u8 0, .int .u8 0, .int .i64 0, .bool false, .int .i64 0] 33)) w3.heap.size 0 (dvC (.slice (some ⟨g, 0, none⟩) n cp) (dgL zs v) pr st tk).toArray.toList = W8 by rw [← HV7.out]; exact HW8.out.symm]
  have a0 := rA.cell 0; have a1 := rA.cell 1; simp only [List.getElem?_cons_zero, List.getElem?_cons_succ] at a0 a1
  clear T7
  go_wp2_with fail
  refine HD4.out.mono ?_
  rintro e w5 ⟨rfl, hD5, hB5, hK5⟩
  rw [← HD7.out] at hD5 hB5 hK5 ⊢
  change Row w5 D7 33 (dvC (.slice (some ⟨g, 0, none⟩) n cp) (dgL zs v') pr' st' tk') at hD5
  have z5 := rZ.keepD (by have := LD7.out; omega) hK5
  have g5 := hg.keepD (by have := LG.out; omega) hK5
  have b5 := b1.trans (hB5.mono (by have := LD7.out; omega))
  have T5 := z5.thereO 0 12 (by rw [dvZ_len]; omega)
  have hID2 : (Tryd.prog.info? 33).map (·.size) = some (dvC (.slice (some ⟨g, 0, none⟩) n cp) (dgL zs v') pr' st' tk').toArray.size := hID
  clear hK5 hB5 b1 hg rZ rA a0 a1
  by_cases hc : c = 0
  · subst hc
    have N1 := hid (z5.setAll (ys := dvC (.slice (some ⟨g, 0, none⟩) n cp) (dgL zs v') pr' st' tk') rfl)
    have NG := hid (g5.setCellsO (g := w.heap.size + 2) (by have := LGE.out; omega) (dvC (.slice (some ⟨g, 0, none⟩) n cp) (dgL zs v') pr' st' tk') 0)
    have NB := hid (below_setCellsD (g := w.heap.size + 2) (dvC (.slice (some ⟨g, 0, none⟩) n cp) (dgL zs v') pr' st' tk') 0 _ b5 (by omega))
    clear z5 g5 b5
    go_wp2_with (first | ((with_reducible refine wpList_load_row rfl 33 _ rfl D7 ?_ 33 (dvC (.slice (some ⟨g, 0, none⟩) n cp) (dgL zs v') pr' st' tk').toArray (0, 0) _ ?_ Tryd.underlying33 ?_ ?_ ?_); rfl; exact hD5; rfl; exact hID2) | ((with_reducible refine wpList_store_mid rfl 33 _ _ rfl (w.heap.size + 2) 0 (dvC (.slice (some ⟨g, 0, none⟩) n cp) (dgL zs v') pr' st' tk').toArray ?_ ?_ ?_ ?_ (all_oneCell_toArray (dvC_one _ _ _ _ _ _ _)) ?_); rfl; rfl; exact T5; exact hID))
    exact bodyPost_ret (v := .tuple #[.agg (dvC (.slice (some ⟨g, 0, none⟩) n cp) (dgL zs v') pr' st' tk').toArray, .int .i64 l, .int .i64 0]) (results_css (p := 4) (q := 5) (r := 6) (fn := Tryd.f10) rfl _ _ _ _ _ _ _ _ rfl rfl rfl N1.out Tryd.underlying33 rfl hID2) rfl (.inr ⟨rfl, g, cp, rest, rfl, by have := LGE.out; omega, NG.out, NB.out⟩)
  · have dcn : (c != 0) = true := by simpa using hc
    have N1 := hid (z5.setAll (ys := dvZ) rfl)
    have NB := hid (below_setCellsD (g := w.heap.size + 2) dvZ 0 _ b5 (by omega))
    have HC := hid hc
    clear z5 g5 b5 hc hD5
    go_wp2_with ((with_reducible refine wpList_store_mid rfl 33 _ _ rfl (w.heap.size + 2) 0 dvZ.toArray ?_ ?_ ?_ ?_ dvZ_oneT ?_); rfl; rfl; exact T5; exact hID)
    exact bodyPost_ret (v := .tuple #[.agg dvZ.toArray, .int .i64 0, .int .i64 c]) (results_css (p := 4) (q := 5) (r := 6) (fn := Tryd.f10) rfl _ _ _ _ _ _ _ _ rfl rfl rfl N1.out Tryd.underlying33 rfl hID) rfl (.inl ⟨rfl, HC.out, NB.out⟩)
theorem rcode_one {zs ds : List Int} {v pr : Int} {st : Bool} {tk k x : Int} (h0 : okDev zs ds pr st tk = true) (h1 : okAct k x = true) (hz : 1 ≤ szL zs) (hok : okS (szL zs) (v, pr, st, tk)) : rcode zs ds v pr st tk [(k, x)] 1 = (actF (szL zs) (v, pr, st, tk) k x).1 ∧ suF (szL zs) (v, pr, st, tk) [(k, x)] 1 = (actF (szL zs) (v, pr, st, tk) k x).2.2 ∧ stF (szL zs) (v, pr, st, tk) [(k, x)] 1 = (actF (szL zs) (v, pr, st, tk) k x).2.1 := by
  have hl := actF_lost hz hok k x h1
  have hA : okAs [(k, x)] = true := by
    unfold okAs
    simp [ak, an, h1]
  have e1 : suF (szL zs) (v, pr, st, tk) [(k, x)] 1 = (actF (szL zs) (v, pr, st, tk) k x).2.2 := by
    show 0 + _ = _
    rw [Int.zero_add]; rfl
  have e2 : rpF (szL zs) (v, pr, st, tk) [(k, x)] 1 = (actF (szL zs) (v, pr, st, tk) k x).1 := by
    show (if (0 : Int) ≠ 0 then _ else _) = _
    rw [if_neg (by decide)]; rfl
  refine ⟨?_, e1, rfl⟩
  rw [rcode, if_neg (by rw [h0]; decide), if_neg (by rw [hA]; decide), if_neg (by omega), rpE, e2, e1]
  split
  · rfl
  · next h => rw [if_neg (by omega)]; omega
theorem specDoAct_any (B n cap : Nat) (zs ds : List Int) (v pr : Int) (st : Bool) (tk : Int) (k x : Int) (w : World) (hS : Stk w B zs) (hn : n = zs.length) (hd8 : ds.length = 8) (ho : Oct (dg ds 0) (dg ds 1) (dg ds 2) (dg ds 3) (dg ds 4) (dg ds 5) (dg ds 6) (dg ds 7)) (hvv : okDev zs ds pr st tk = true → ds = dgL zs v ∧ okS (szL zs) (v, pr, st, tk)) :
    Calls Tryd.prog 10 #[.agg (dvC (.slice (some ⟨B, 0, none⟩) n cap) ds pr st tk).toArray, .agg #[.int .i8 k, .int .i64 x]] w (DevO zs (v, pr, st, tk) [(k, x)] 1 (rcode zs ds v pr st tk [(k, x)] 1) w) := by
  cases h0 : okDev zs ds pr st tk with
  | false =>
    refine (spDoAct_dev B n cap zs ds v pr st tk k x w hS hn hd8 ho h0).mono ?_
    rintro e w' ⟨he, hB⟩
    have hc : rcode zs ds v pr st tk [(k, x)] 1 = 1 := by rw [rcode, if_pos h0]
    rw [hc]
    exact DevO.no (by decide) he hB
  | true =>
    cases h1 : okAct k x with
    | false =>
      refine (spDoAct_act B n cap zs ds v pr st tk k x w hS hn hd8 ho h0 h1).mono ?_
      rintro e w' ⟨he, hB⟩
      have hc : rcode zs ds v pr st tk [(k, x)] 1 = 1 := by rw [rcode, if_neg (by rw [h0]; decide), if_pos (okAs_bad (js := [(k, x)]) 0 (by simp) h1)]
      rw [hc]
      exact DevO.no (by decide) he hB
    | true =>
      have hv2 := hvv h0
      obtain ⟨ec, el, es⟩ := rcode_one (k := k) (x := x) h0 h1 (okL_out (okDev_okL h0)).2.2.2.1 hv2.2
      refine (spDoAct_go B n cap zs ds v pr st tk k x w hS hn hd8 ho hv2.2.1.1 h0 h1 hv2).mono ?_
      rintro e w' (⟨he, hc, hB⟩ | ⟨hc, g, cp, rest, he, hg, hR, hB⟩)
      · rw [ec]; exact DevO.no hc he hB
      · subst hn
        refine DevO.yes (cp := cp) (by rw [ec]; exact hc) ?_ (by have := hS.2.2.2; omega) hg hR hB
        rw [ec, hc, el, es, he]; rfl
end Go.Proofs.YthifegbmpmialaaDoor

namespace Go.Proofs.YthifegbmpmialaaDoor
open Go.RowKit
set_option linter.unusedVariables false
set_option linter.unusedSimpArgs false
theorem OwnB.only {g base : Nat} {w w' : World} {v : Value} {zs : List Int} (h : OwnB w base v zs) (o : OnlyB g w w') (hg : g < base) : OwnB w' base v zs := by
  obtain ⟨a, cap, h1, h2, h3⟩ := h
  refine ⟨a, cap, h1, h2, ?_⟩
  rcases h3 with h0 | ⟨q, rest, e, hq, hr⟩
  · exact .inl h0
  · exact .inr ⟨q, rest, e, hq, o.row hr (by omega)⟩
/-- an owned stack beside a row of another type that is written -/
theorem OwnB.setO {w : World} {base : Nat} {v : Value} {zs : List Int} (h : OwnB w base v zs) {g : Nat} {T : TypeId} {xs : List Value} (r : Row w g T xs) (hT : T ≠ 5) (ys : List Value) (o : Nat) : OwnB (w.setCells g o ys) base v zs := by
  obtain ⟨a, cap, h1, h2, h3⟩ := h
  refine ⟨a, cap, h1, h2, ?_⟩
  rcases h3 with h0 | ⟨q, rest, e, hq, hr⟩
  · exact .inl h0
  · refine .inr ⟨q, rest, e, hq, hr.setCellsO (fun he => hT ?_) _ _⟩
    subst he
    exact row_type r hr
theorem toDeviceL (a : Option Addr) (len cap : Nat) (zs ds : List Int) (pr : Int) (st : Bool) (tk : Int) (w : World) (h : InB w a len zs) (hl : len ≤ 1048576) :
    Calls Tryd.prog 11 #[.agg (dvC (.slice a len cap) ds pr st tk).toArray] w fun e w' => ∃ X, e = .returned (.agg (dvC (.slice (some ⟨X, 0, none⟩) len len) ds pr st tk).toArray) ∧ Below w.heap.size w w' ∧ Row w' X 5 (zs.map (Value.int .u8)) ∧ w.heap.size ≤ X :=
  toDeviceR_any a len cap zs (dg ds 0) (dg ds 1) (dg ds 2) (dg ds 3) (dg ds 4) (dg ds 5) (dg ds 6) (dg ds 7) pr st tk w h hl
theorem szDeviceL (a : Option Addr) (len cap : Nat) (ds : List Int) (pr : Int) (st : Bool) (tk : Int) (w : World) (h : len ≤ 1048576) :
    Calls Tryd.prog 9 #[.agg (dvC (.slice a len cap) ds pr st tk).toArray, .int .i64 1048576] w fun e w' => e = .returned (.int .i64 (1048576 - (len : Int))) ∧ Below w.heap.size w w' := by
  refine (szDevice_ok a len cap (dg ds 0) (dg ds 1) (dg ds 2) (dg ds 3) (dg ds 4) (dg ds 5) (dg ds 6) (dg ds 7) pr st tk w h).mono ?_
  rintro e w' ⟨rfl, rfl⟩
  exact ⟨rfl, (Below.refl _ _).alloc (Nat.le_refl _) _⟩
theorem szDeviceN (a : Option Addr) (len cap : Nat) (ds : List Int) (pr : Int) (st : Bool) (tk : Int) (w : World) (h : 1048576 < len) (hl : len ≤ 9223372036854775807) :
    Calls Tryd.prog 9 #[.agg (dvC (.slice a len cap) ds pr st tk).toArray, .int .i64 1048576] w fun e w' => e = .returned (.int .i64 (-1)) ∧ Below w.heap.size w w' := by
  refine (szDevice_no a len cap (dg ds 0) (dg ds 1) (dg ds 2) (dg ds 3) (dg ds 4) (dg ds 5) (dg ds 6) (dg ds 7) pr st tk w h hl).mono ?_
  rintro e w' ⟨rfl, rfl⟩
  exact ⟨rfl, (Below.refl _ _).alloc (Nat.le_refl _) _⟩
theorem eqDeviceL (b1 b2 n c1 c2 : Nat) (zs ds : List Int) (pr : Int) (st : Bool) (tk : Int) (w : World) (h1 : Stk w b1 zs) (h2 : Stk w b2 zs) (hn : n = zs.length) :
    Calls Tryd.prog 14 #[.agg (dvC (.slice (some ⟨b1, 0, none⟩) n c1) ds pr st tk).toArray, .agg (dvC (.slice (some ⟨b2, 0, none⟩) n c2) ds pr st tk).toArray] w fun e w' => e = .returned (.bool true) ∧ Below w.heap.size w w' :=
  eqDevice_same b1 b2 n c1 c2 zs (dg ds 0) (dg ds 1) (dg ds 2) (dg ds 3) (dg ds 4) (dg ds 5) (dg ds 6) (dg ds 7) pr st tk w h1 h2 hn
theorem markDeviceL (b n cap : Nat) (xs : List Value) (ds : List Int) (pr : Int) (st : Bool) (tk : Int) (hx : xs.length = n) (hn : n ≤ 1048576) (w : World) (hR : Row w b 5 xs) :
    Calls Tryd.prog 15 #[.agg (dvC (.slice (some ⟨b, 0, none⟩) n cap) ds pr st tk).toArray, .int .i64 1] w fun e w' => e = .returned (.int .i64 (1 + (n : Int))) ∧ OnlyB b (w.alloc (.cells (dvC (.slice (some ⟨b, 0, none⟩) n cap) ds pr st tk).toArray 33)) w' :=
  markDevice_any b n cap xs (dg ds 0) (dg ds 1) (dg ds 2) (dg ds 3) (dg ds 4) (dg ds 5) (dg ds 6) (dg ds 7) pr st tk hx hn w hR
theorem eqDevO (b1 b2 : Nat) (a1 : Option Addr) (n1 c1 : Nat) (a2 : Option Addr) (n2 c2 : Nat) (zs ds : List Int) (pr : Int) (st : Bool) (tk : Int) (w : World) (h1 : OwnB w b1 (.slice a1 n1 c1) zs) (h2 : OwnB w b2 (.slice a2 n2 c2) zs) :
    Calls Tryd.prog 14 #[.agg (dvC (.slice a1 n1 c1) ds pr st tk).toArray, .agg (dvC (.slice a2 n2 c2) ds pr st tk).toArray] w fun e w' => e = .returned (.bool true) ∧ Below w.heap.size w w' :=
  eqDev_own b1 b2 (.slice a1 n1 c1) (.slice a2 n2 c2) zs (dg ds 0) (dg ds 1) (dg ds 2) (dg ds 3) (dg ds 4) (dg ds 5) (dg ds 6) (dg ds 7) pr st tk w h1 h2
theorem markDevO (base : Nat) (a1 : Option Addr) (n1 c1 : Nat) (zs ds : List Int) (pr : Int) (st : Bool) (tk : Int) (w : World) (h : OwnB w base (.slice a1 n1 c1) zs) (hb : base ≤ w.heap.size) :
    Calls Tryd.prog 15 #[.agg (dvC (.slice a1 n1 c1) ds pr st tk).toArray, .int .i64 1] w fun e w' => e = .returned (.int .i64 (1 + (zs.length : Int))) ∧ OwnB w' base (.slice a1 n1 c1) (marksB 1 zs.length) ∧ Below base w w' ∧ ∀ q xs, Row w q 33 xs → Row w' q 33 xs :=
  (markDev_only base (.slice a1 n1 c1) zs (dg ds 0) (dg ds 1) (dg ds 2) (dg ds 3) (dg ds 4) (dg ds 5) (dg ds 6) (dg ds 7) pr st tk w h hb).mono fun e w' ⟨h1, h2, h3, h4⟩ => ⟨h1, h2, h3, h4⟩
theorem heldDevO (base : Nat) (a1 : Option Addr) (n1 c1 : Nat) (n : Nat) (ds : List Int) (pr : Int) (st : Bool) (tk : Int) (w : World) (h : OwnB w base (.slice a1 n1 c1) (marksB 1 n)) :
    Calls Tryd.prog 16 #[.agg (dvC (.slice a1 n1 c1) ds pr st tk).toArray, .int .i64 1] w fun e w' => e = .returned (.int .i64 (1 + (n : Int))) ∧ Below w.heap.size w w' :=
  heldDev_own base (.slice a1 n1 c1) n (dg ds 0) (dg ds 1) (dg ds 2) (dg ds 3) (dg ds 4) (dg ds 5) (dg ds 6) (dg ds 7) pr st tk w h
theorem wpList_load_rowG {P : Program} {ops : Array Oper} {rest : List Oper} {o : Oper} {a : Act} {w : World} {Q : Exit → Act → World → Prop} (hgd : Region.wanted o (yielded ops a.tmps) = true) (ty : TypeId) (x : Operand) (ho : o.op = .load ty x)
    (g : Nat) (hx : a.eval x = .pointer (some ⟨g, 0, none⟩)) (t : TypeId) (cs : Array Value) (fr : Nat × Nat) (d : TypeDesc) (hg : w.heap[g]? = some (.cells cs t fr))
    (hu : P.underlying ty = some d) (hd : (match d with | .struct _ | .array _ _ => true | _ => false) = true) (hi : (P.info? ty).map (·.size) = some cs.size)
    (h : wpList P ops Q rest (a.put o.dst (.agg cs)) w) : wpList P ops Q (o :: rest) a w :=
  BigFrame.wpList_want hgd fun _ hK => wp_load_row ty x ho g hx t cs fr d hg hu hd hi (hK _ _ h)
theorem Tryd.infoDevL : (Tryd.prog.info? 25).map (·.size) = some 12 := by kernel_rfl
end Go.Proofs.YthifegbmpmialaaDoor
