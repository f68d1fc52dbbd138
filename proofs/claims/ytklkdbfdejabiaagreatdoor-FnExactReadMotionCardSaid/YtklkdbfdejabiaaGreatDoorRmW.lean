/- A joint's word: the model's reader and the program's. -/
import Derived.Test.YtklkdbfdejabiaaGreatDoorRmM
import Derived.Test.YtklkdbfdejabiaaGreatDoorRst
namespace Go.Proofs.YtklkdbfdejabiaaGreatDoor
open Go.RowKit Go.Shelf
set_option linter.unusedVariables false
set_option linter.unusedSimpArgs false
theorem parse16_some {l : List UInt8} {v : Int} (h : pi16 l = some v) : Lib.parseIntB 16 l = .ok v := by
  unfold pi16 at h
  cases hh : Lib.parseIntB 16 l with
  | ok u => rw [hh] at h; injection h with h; rw [h]
  | «syntax» => rw [hh] at h; cases h
  | range => rw [hh] at h; cases h
theorem pi16_bd {l : List UInt8} {v : Int} (h : pi16 l = some v) : -32768 ≤ v ∧ v ≤ 32767 := by
  have := Lib.parseIntB_bounds (parse16_some h)
  simp at this
  omega
theorem p16_yes (p : ByteArray) (hp : p.size ≤ 1048576) {v : Int} (hv : pi16 p.data.toList = some v) (w : World) :
    Calls Tryz.prog 32 #[.string p, .int .i64 10, .int .i64 16] w fun e w' => e = .returned (.tuple #[.int .i64 v, .nilIface]) ∧ Below w.heap.size w w' := by
  refine (Tryz.strconv_ParseInt_10_at16_ok p (by omega) v (parse16_some hv) w).mono ?_
  rintro e w' ⟨rfl, hw⟩
  refine ⟨rfl, ?_⟩
  rcases hw with rfl | ⟨t, rfl⟩
  · exact Below.refl _ _
  · exact Lib.bytesWorld_below _ _ _
theorem p16_no (p : ByteArray) (hp : p.size ≤ 1048576) (hv : pi16 p.data.toList = none) (w : World) {tS tR : TypeId} {pS pR : Value} {m : Int} (h : LV w tS pS tR pR m) :
    Calls Tryz.prog 32 #[.string p, .int .i64 10, .int .i64 16] w fun e w' => ∃ v T q, e = .returned (.tuple #[.int .i64 v, .iface T (.pointer (some q))]) ∧ Below w.heap.size w w' := by
  cases hh : Lib.parseIntB 16 p.data.toList with
  | ok u => unfold pi16 at hv; rw [hh] at hv; cases hv
  | «syntax» =>
    refine (Tryz.strconv_ParseInt_10_at16_syntax_var p (by omega) hh tS pS w h.1.1).mono ?_
    rintro e w' ⟨N, rfl, _, _, hB⟩
    exact ⟨_, _, _, rfl, hB⟩
  | range =>
    refine (Tryz.strconv_ParseInt_10_at16_range_var p (by omega) hh tR pR w h.2.1.1).mono ?_
    rintro e w' ⟨N, rfl, _, _, hB⟩
    exact ⟨_, _, _, rfl, hB⟩
def RjG (r : Option (Int × Int)) (w : World) (e : Ending) (w' : World) : Prop := ∃ k f : Int, e = .returned (.tuple #[.agg #[.int .i8 k, .int .i16 f], .bool r.isSome]) ∧ (∀ a b, r = some (a, b) → k = a ∧ f = b) ∧ Below w.heap.size w w'
theorem ev_yes {t : ByteArray} (h : t.data.toList = evT) : (t.toList == [101, 118, 101, 110]) = true := by rw [Lib.toList_data, h]; rfl
theorem ev_no {t : ByteArray} (h : ¬ t.data.toList = evT) : (t.toList == [101, 118, 101, 110]) = false := by
  rw [Lib.toList_data]
  exact beq_eq_false_iff_ne.2 h
theorem lt_yes {t : ByteArray} (h : t.data.toList = ltT) : (t.toList == [108, 97, 116, 101]) = true := by rw [Lib.toList_data, h]; rfl
theorem lt_no {t : ByteArray} (h : ¬ t.data.toList = ltT) : (t.toList == [108, 97, 116, 101]) = false := by
  rw [Lib.toList_data]
  exact beq_eq_false_iff_ne.2 h
theorem one_out {k f : Int} : ∀ a b, some (k, f) = some (a, b) → k = a ∧ f = b := fun a b h => by
  injection h with h
  injection h with h1 h2
  exact ⟨h1, h2⟩
set_option maxRecDepth 100000 in
set_option maxHeartbeats 2000000 in
theorem specJoint_any (t : ByteArray) (ht : t.size ≤ 1048576) (w : World) : Calls Tryz.prog 11 #[.string t] w (RjG (moW t.data.toList) w) := by
  have hsz : t.size = t.data.toList.length := by rw [Array.length_toList]; rfl
  by_cases h1 : t.data.toList = evT
  · have HR := hid (show moW t.data.toList = some (0, 0) by rw [moW, if_pos h1])
    have q1 := ev_yes h1
    unfold RjG
    rw [HR.out]
    clear h1 hsz ht
    go_enter Tryz.func11, Tryz.ntmps11
    go_wp2_with fail
    exact bodyPost_ret (v := .tuple #[.agg #[.int .i8 0, .int .i16 0], .bool true]) (by simp [results, Tryz.results11, go_sem]) rfl ⟨0, 0, rfl, one_out, (Below.refl _ _).alloc (Nat.le_refl _) _⟩
  have q1 := ev_no h1
  by_cases h5 : 5 ≤ t.size
  · have p5 : ¬ ((t.size : Int) < 5) := by omega
    have p5' : 5 ≤ t.size := h5
    have p6 : (5 : Int) ≤ (t.size : Int) := by omega
    have hx4 : (t.extract 0 4).data.toList = t.data.toList.take 4 := by rw [ext_data]; simp [piece]
    have hx5 : (t.extract 4 t.size).data.toList = t.data.toList.drop 4 := by rw [ext_data, piece, List.take_of_length_le (by omega)]
    have n1 : ¬ (t.size < 4) := by omega
    have n2 : 4 ≤ t.size := by omega
    have n3 : (4 : Int) ≤ (t.size : Int) := by omega
    have n4 : ¬ ((t.size : Int) < 4) := by omega
    by_cases h4 : t.data.toList.take 4 = ltT
    · have q2 := lt_yes (hx4.trans h4)
      have szx : (t.extract 4 t.size).size ≤ 1048576 := by
        have : (t.extract 4 t.size).size = (t.extract 4 t.size).data.toList.length := by rw [Array.length_toList]; rfl
        rw [this, hx5, List.length_drop]
        omega
      have HN := hid (fun W => l01Number_any (t.extract 4 t.size) (szx) W)
      rw [hx5] at HN
      by_cases hc : canB (t.data.toList.drop 4) = true
      · rw [numR_yes hc] at HN
        by_cases hn : numV (t.data.toList.drop 4) < 1000
        · have HR := hid (show moW t.data.toList = some (1, (numV (t.data.toList.drop 4) : Int)) by rw [moW, if_neg h1, if_pos ⟨by omega, h4, hc, hn⟩])
          unfold RjG
          rw [HR.out]
          obtain ⟨v, hv⟩ : ∃ v : Int, (numV (t.data.toList.drop 4) : Int) = v := ⟨_, rfl⟩
          have hvb : ¬ (1000 ≤ v) := by omega
          have hw : IntKind.i16.wrap v = v := IntWalk.i16_in _ (by omega)
          rw [hv] at HN ⊢
          obtain ⟨X, hX⟩ : ∃ X, t.extract 0 4 = X := ⟨_, rfl⟩
          obtain ⟨Y, hY⟩ : ∃ X, t.extract 4 t.size = X := ⟨_, rfl⟩
          rw [hX] at q2
          rw [hY] at HN
          clear h1 hsz ht h5 hx4 hx5 h4 hc hn HR hv szx
          go_enter Tryz.func11, Tryz.ntmps11
          go_wp2_with fail
          refine (HN.out _).mono ?_
          rintro e w1 ⟨rfl, rfl⟩
          go_wp2_with fail
          exact bodyPost_ret (v := .tuple #[.agg #[.int .i8 1, .int .i16 v], .bool true]) (by simp [results, Tryz.results11, go_sem]) rfl ⟨1, v, rfl, one_out, (Below.refl _ _).alloc (Nat.le_refl _) _⟩
        · have HR := hid (show moW t.data.toList = none by rw [moW, if_neg h1, if_neg (fun h => hn h.2.2.2)])
          unfold RjG
          rw [HR.out]
          obtain ⟨v, hv⟩ : ∃ v : Int, (numV (t.data.toList.drop 4) : Int) = v := ⟨_, rfl⟩
          have hvb : 1000 ≤ v := by omega
          rw [hv] at HN
          obtain ⟨X, hX⟩ : ∃ X, t.extract 0 4 = X := ⟨_, rfl⟩
          obtain ⟨Y, hY⟩ : ∃ X, t.extract 4 t.size = X := ⟨_, rfl⟩
          rw [hX] at q2
          rw [hY] at HN
          clear h1 hsz ht h5 hx4 hx5 h4 hc hn HR hv szx
          go_enter Tryz.func11, Tryz.ntmps11
          go_wp2_with fail
          refine (HN.out _).mono ?_
          rintro e w1 ⟨rfl, rfl⟩
          go_wp2_with fail
          first | exact bodyPost_ret (v := .tuple #[.agg #[.int .i8 0, .int .i16 0], .bool false]) (by simp [results, Tryz.results11, go_sem]) rfl ⟨0, 0, rfl, (fun a b h => by cases h), (Below.refl _ _).alloc (Nat.le_refl _) _⟩ | exact bodyPost_ret (v := .tuple #[.agg #[.int .i8 0, .int .i16 0], .bool false]) (by simp [results, Tryz.results11, go_sem]) rfl ⟨⟨0, 0, rfl⟩, (Below.refl _ _).alloc (Nat.le_refl _) _⟩
      · rw [numR_no (by simpa using hc)] at HN
        have HR := hid (show moW t.data.toList = none by rw [moW, if_neg h1, if_neg (fun h => hc h.2.2.1)])
        unfold RjG
        rw [HR.out]
        obtain ⟨X, hX⟩ : ∃ X, t.extract 0 4 = X := ⟨_, rfl⟩
        obtain ⟨Y, hY⟩ : ∃ X, t.extract 4 t.size = X := ⟨_, rfl⟩
        rw [hX] at q2
        rw [hY] at HN
        clear h1 hsz ht h5 hx4 hx5 h4 hc HR szx
        go_enter Tryz.func11, Tryz.ntmps11
        go_wp2_with fail
        refine (HN.out _).mono ?_
        rintro e w1 ⟨rfl, rfl⟩
        go_wp2_with fail
        first | exact bodyPost_ret (v := .tuple #[.agg #[.int .i8 0, .int .i16 0], .bool false]) (by simp [results, Tryz.results11, go_sem]) rfl ⟨0, 0, rfl, (fun a b h => by cases h), (Below.refl _ _).alloc (Nat.le_refl _) _⟩ | exact bodyPost_ret (v := .tuple #[.agg #[.int .i8 0, .int .i16 0], .bool false]) (by simp [results, Tryz.results11, go_sem]) rfl ⟨⟨0, 0, rfl⟩, (Below.refl _ _).alloc (Nat.le_refl _) _⟩
    · have q2 := lt_no (fun h => h4 (hx4.symm.trans h))
      have HR := hid (show moW t.data.toList = none by rw [moW, if_neg h1, if_neg (fun h => h4 h.2.1)])
      unfold RjG
      rw [HR.out]
      obtain ⟨X, hX⟩ : ∃ X, t.extract 0 4 = X := ⟨_, rfl⟩
      rw [hX] at q2
      clear h1 hsz ht h5 hx4 hx5 h4 HR
      go_enter Tryz.func11, Tryz.ntmps11
      go_wp2_with fail
      first | exact bodyPost_ret (v := .tuple #[.agg #[.int .i8 0, .int .i16 0], .bool false]) (by simp [results, Tryz.results11, go_sem]) rfl ⟨0, 0, rfl, (fun a b h => by cases h), (Below.refl _ _).alloc (Nat.le_refl _) _⟩ | exact bodyPost_ret (v := .tuple #[.agg #[.int .i8 0, .int .i16 0], .bool false]) (by simp [results, Tryz.results11, go_sem]) rfl ⟨⟨0, 0, rfl⟩, (Below.refl _ _).alloc (Nat.le_refl _) _⟩
  · have p5 : (t.size : Int) < 5 := by omega
    have HR := hid (show moW t.data.toList = none by rw [moW, if_neg h1, if_neg (fun h => h5 (by omega))])
    unfold RjG
    rw [HR.out]
    clear h1 hsz ht h5 HR
    go_enter Tryz.func11, Tryz.ntmps11
    go_wp2_with fail
    first | exact bodyPost_ret (v := .tuple #[.agg #[.int .i8 0, .int .i16 0], .bool false]) (by simp [results, Tryz.results11, go_sem]) rfl ⟨0, 0, rfl, (fun a b h => by cases h), (Below.refl _ _).alloc (Nat.le_refl _) _⟩ | exact bodyPost_ret (v := .tuple #[.agg #[.int .i8 0, .int .i16 0], .bool false]) (by simp [results, Tryz.results11, go_sem]) rfl ⟨⟨0, 0, rfl⟩, (Below.refl _ _).alloc (Nat.le_refl _) _⟩
set_option maxRecDepth 100000 in
set_option maxHeartbeats 2000000 in
theorem implJoint_any (t : ByteArray) (ht : t.size ≤ 1048576) (w : World) {tS tR : TypeId} {pS pR : Value} {m : Int} (hL : LV w tS pS tR pR m) : Calls Tryz.prog 15 #[.string t] w (RjG (rjF t.data.toList) w) := by
  by_cases h1 : t.data.toList = evT
  · have HR := hid (show rjF t.data.toList = some (0, 0) by rw [rjF, if_pos h1])
    have q1 := ev_yes h1
    unfold RjG
    rw [HR.out]
    clear h1 ht hL
    go_enter Tryz.func15, Tryz.ntmps15
    go_wp2_with fail
    exact bodyPost_ret (v := .tuple #[.agg #[.int .i8 0, .int .i16 0], .bool true]) (by simp [results, Tryz.results15, go_sem]) rfl ⟨0, 0, rfl, one_out, (Below.refl _ _).alloc (Nat.le_refl _) _⟩
  have q1 := ev_no h1
  have HCP := hid (fun W => Tryz.strings_CutPrefix t ⟨#[108, 97, 116, 101]⟩ W)
  rw [show (⟨#[108, 97, 116, 101]⟩ : ByteArray).data.toList = ltT from rfl] at HCP
  obtain ⟨c, hc⟩ : ∃ c, Lib.trimPrefix t.data.toList ltT = c := ⟨_, rfl⟩
  have hcs : (⟨c.toArray⟩ : ByteArray).size ≤ 1048576 := by
    show c.toArray.size ≤ _
    have : c.length ≤ t.data.toList.length := by
      rw [← hc, Lib.trimPrefix]
      split
      · rw [List.length_drop]; omega
      · exact Nat.le_refl _
    have e : t.data.toList.length = t.size := by rw [Array.length_toList]; rfl
    simp
    omega
  have hB0 : Below w.heap.size w (w.alloc (.cells #[.int .i8 0, .int .i16 0] 39)) := (Below.refl _ _).alloc (Nat.le_refl _) _
  have HL0 := hid (hL.below hB0 (Nat.le_refl _))
  have HB0 := hid hB0
  have HR0 := hid (Row.new w 39 [.int .i8 0, .int .i16 0])
  have hlt := hL
  have PY := hid (fun W v (hv : pi16 c = some v) => p16_yes ⟨c.toArray⟩ hcs (v := v) hv W)
  have PN := hid (fun W (hv : pi16 c = none) (h : LV W tS pS tR pR m) => p16_no ⟨c.toArray⟩ hcs hv W h)
  cases hp : Lib.hasPrefix t.data.toList ltT with
  | true =>
    have hcd : c = t.data.toList.drop 4 := by rw [← hc, Lib.trimPrefix, if_pos hp]; rfl
    have HRJ := hid (show rjF t.data.toList = (match pi16 c with | some v => some (1, v) | none => none) by
      rw [rjF, if_neg h1, if_pos hp, hcd]
      cases pi16 (List.drop 4 t.data.toList) <;> rfl)
    rw [hc, hp] at HCP
    obtain ⟨Y, hY⟩ : ∃ Y, (⟨c.toArray⟩ : ByteArray) = Y := ⟨_, rfl⟩
    rw [hY] at HCP PY PN
    cases hv : pi16 c with
    | some v =>
      rw [hv] at HRJ
      have HPY := hid (fun W => PY.out W v hv)
      have bd := pi16_bd hv
      have hw : IntKind.i16.wrap v = v := IntWalk.i16_in _ (by omega)
      unfold RjG
      rw [HRJ.out]
      clear h1 ht hL hlt hc hcs hB0 PY PN hp hcd HRJ hY hv bd
      go_enter Tryz.func15, Tryz.ntmps15
      go_wp2_with fail
      refine (HCP.out _).mono ?_
      rintro e w1 ⟨rfl, rfl⟩
      go_wp2_with fail
      refine (HPY.out _).mono ?_
      rintro e w2 ⟨rfl, hB⟩
      have b2 := HB0.out.trans (hB.mono HB0.out.size)
      have r2 := HR0.out.below hB HR0.out.lt
      have c0 := r2.cell 0; have c1 := r2.cell 1; have f0 := r2.frozen 0; have f1 := r2.frozen 1
      simp only [List.getElem?_cons_zero, List.getElem?_cons_succ] at c0 c1
      have HB5 := hid ((b2.setCell (p := ⟨w.heap.size, 0, none⟩) (Nat.le_refl _) (.int .i8 1)).setCell (p := ⟨w.heap.size, 1, none⟩) (Nat.le_refl _) (.int .i16 v))
      have r5 := (r2.set 0 (.int .i8 1)).set 1 (.int .i16 v)
      have d0 := r5.cell 0; have d1 := r5.cell 1
      simp only [List.set_cons_zero, List.set_cons_succ, List.getElem?_cons_zero, List.getElem?_cons_succ] at d0 d1
      have D0 := hid d0; have D1 := hid d1
      clear hB b2 r2 r5 d0 d1
      go_wp2_with fail
      exact bodyPost_ret (v := .tuple #[.agg #[.int .i8 1, .int .i16 v], .bool true]) (by simp [results, Tryz.results15, go_sem, D0.out, D1.out]) rfl ⟨1, v, rfl, one_out, HB5.out⟩
    | none =>
      rw [hv] at HRJ
      have HPN := hid (fun W h => PN.out W hv h)
      unfold RjG
      rw [HRJ.out]
      clear h1 ht hL hlt hc hcs hB0 PY PN hp hcd HRJ hY hv
      go_enter Tryz.func15, Tryz.ntmps15
      go_wp2_with fail
      refine (HCP.out _).mono ?_
      rintro e w1 ⟨rfl, rfl⟩
      go_wp2_with fail
      refine (HPN.out _ HL0.out).mono ?_
      rintro e w2 ⟨v, T, q, rfl, hB⟩
      have b2 := HB0.out.trans (hB.mono HB0.out.size)
      have r2 := HR0.out.below hB HR0.out.lt
      have c0 := r2.cell 0; have c1 := r2.cell 1; have f0 := r2.frozen 0; have f1 := r2.frozen 1
      simp only [List.getElem?_cons_zero, List.getElem?_cons_succ] at c0 c1
      have HB5 := hid ((b2.setCell (p := ⟨w.heap.size, 0, none⟩) (Nat.le_refl _) (.int .i8 0)).setCell (p := ⟨w.heap.size, 1, none⟩) (Nat.le_refl _) (.int .i16 0))
      have r5 := (r2.set 0 (.int .i8 0)).set 1 (.int .i16 0)
      have d0 := r5.cell 0; have d1 := r5.cell 1
      simp only [List.set_cons_zero, List.set_cons_succ, List.getElem?_cons_zero, List.getElem?_cons_succ] at d0 d1
      have D0 := hid d0; have D1 := hid d1
      clear hB b2 r2 r5 d0 d1
      go_wp2_with fail
      first | exact bodyPost_ret (v := .tuple #[.agg #[.int .i8 0, .int .i16 0], .bool false]) (by simp [results, Tryz.results15, go_sem, D0.out, D1.out]) rfl ⟨0, 0, rfl, (fun a b h => by cases h), HB5.out⟩ | exact bodyPost_ret (v := .tuple #[.agg #[.int .i8 0, .int .i16 0], .bool false]) (by simp [results, Tryz.results15, go_sem, D0.out, D1.out]) rfl ⟨⟨0, 0, rfl⟩, HB5.out⟩
  | false =>
    have HRJ := hid (show rjF t.data.toList = none by rw [rjF, if_neg h1, hp]; rfl)
    rw [hc, hp] at HCP
    have HPB := hid (show ∀ W, LV W tS pS tR pR m → Calls Tryz.prog 32 #[.string ⟨c.toArray⟩, .int .i64 10, .int .i64 16] W fun e w' => ∃ v V, e = .returned (.tuple #[.int .i64 v, V]) ∧ Below W.heap.size W w' from fun W h => by
      cases hv : pi16 c with
      | some v =>
        refine (PY.out W v hv).mono ?_
        rintro e w' ⟨rfl, hB⟩
        exact ⟨_, _, rfl, hB⟩
      | none =>
        refine (PN.out W hv h).mono ?_
        rintro e w' ⟨v, T, q, rfl, hB⟩
        exact ⟨_, _, rfl, hB⟩)
    obtain ⟨Y, hY⟩ : ∃ Y, (⟨c.toArray⟩ : ByteArray) = Y := ⟨_, rfl⟩
    rw [hY] at HCP HPB
    unfold RjG
    rw [HRJ.out]
    clear h1 ht hL hlt hc hcs hB0 PY PN hp HRJ hY
    go_enter Tryz.func15, Tryz.ntmps15
    go_wp2_with fail
    refine (HCP.out _).mono ?_
    rintro e w1 ⟨rfl, rfl⟩
    go_wp2_with fail
    refine (HPB.out _ HL0.out).mono ?_
    rintro e w2 ⟨v, V, rfl, hB⟩
    have b2 := HB0.out.trans (hB.mono HB0.out.size)
    have r2 := HR0.out.below hB HR0.out.lt
    have c0 := r2.cell 0; have c1 := r2.cell 1; have f0 := r2.frozen 0; have f1 := r2.frozen 1
    simp only [List.getElem?_cons_zero, List.getElem?_cons_succ] at c0 c1
    have HB5 := hid ((b2.setCell (p := ⟨w.heap.size, 0, none⟩) (Nat.le_refl _) (.int .i8 0)).setCell (p := ⟨w.heap.size, 1, none⟩) (Nat.le_refl _) (.int .i16 0))
    have r5 := (r2.set 0 (.int .i8 0)).set 1 (.int .i16 0)
    have d0 := r5.cell 0; have d1 := r5.cell 1
    simp only [List.set_cons_zero, List.set_cons_succ, List.getElem?_cons_zero, List.getElem?_cons_succ] at d0 d1
    have D0 := hid d0; have D1 := hid d1
    clear hB b2 r2 r5 d0 d1
    go_wp2_with fail
    first | exact bodyPost_ret (v := .tuple #[.agg #[.int .i8 0, .int .i16 0], .bool false]) (by simp [results, Tryz.results15, go_sem, D0.out, D1.out]) rfl ⟨0, 0, rfl, (fun a b h => by cases h), HB5.out⟩ | exact bodyPost_ret (v := .tuple #[.agg #[.int .i8 0, .int .i16 0], .bool false]) (by simp [results, Tryz.results15, go_sem, D0.out, D1.out]) rfl ⟨⟨0, 0, rfl⟩, HB5.out⟩
end Go.Proofs.YtklkdbfdejabiaaGreatDoor
