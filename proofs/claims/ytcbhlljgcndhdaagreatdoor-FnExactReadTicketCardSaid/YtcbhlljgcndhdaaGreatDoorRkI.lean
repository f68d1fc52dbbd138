/- impl.ReadTicket. -/
import Derived.Test.YtcbhlljgcndhdaaGreatDoorRkM
namespace Go.Proofs.YtcbhlljgcndhdaaGreatDoor
open Go.RowKit Go.Shelf
set_option linter.unusedVariables false
set_option linter.unusedSimpArgs false
theorem RdG.eight {zs : List Int} {l : List UInt8} (ho : okL zs = true) {w : World} {e : Ending} {w' : World} (h : RdG zs l w e w') : ∃ (e0 e1 e2 e3 e4 e5 e6 e7 k : Int), e = .returned (.tuple #[.agg #[.int .u8 e0, .int .u8 e1, .int .u8 e2, .int .u8 e3, .int .u8 e4, .int .u8 e5, .int .u8 e6, .int .u8 e7], .int .i64 k]) ∧ Below w.heap.size w w' ∧ Oct e0 e1 e2 e3 e4 e5 e6 e7 ∧ ((Dg zs l [e0, e1, e2, e3, e4, e5, e6, e7] ∧ k = 0) ∨ ((¬ ∃ es, Dg zs l es) ∧ k = 5)) := by
  obtain ⟨ds, c, rfl, hB, ⟨hf, _⟩ | ⟨_, ⟨hd, rfl⟩ | ⟨hn, rfl, rfl⟩⟩⟩ := h
  · rw [ho] at hf; cases hf
  · obtain ⟨e0, e1, e2, e3, e4, e5, e6, e7, rfl⟩ := len8 hd.1
    refine ⟨e0, e1, e2, e3, e4, e5, e6, e7, 0, rfl, hB, ?_, .inl ⟨hd, rfl⟩⟩
    have a := hd.nonneg; have b := hd.le ho
    exact ⟨⟨a 0 (by omega), b 0 (by omega)⟩, ⟨a 1 (by omega), b 1 (by omega)⟩, ⟨a 2 (by omega), b 2 (by omega)⟩, ⟨a 3 (by omega), b 3 (by omega)⟩, ⟨a 4 (by omega), b 4 (by omega)⟩, ⟨a 5 (by omega), b 5 (by omega)⟩, ⟨a 6 (by omega), b 6 (by omega)⟩, ⟨a 7 (by omega), b 7 (by omega)⟩⟩
  · exact ⟨0, 0, 0, 0, 0, 0, 0, 0, 5, rfl, hB, by unfold Oct; decide, .inr ⟨hn, rfl⟩⟩
theorem p64_yes (p : ByteArray) (hp : p.size ≤ 1048576) {v : Int} (hv : pi64 p.data.toList = some v) (w : World) :
    Calls Tryz.prog 16 #[.string p, .int .i64 10, .int .i64 64] w fun e w' => e = .returned (.tuple #[.int .i64 v, .nilIface]) ∧ Below w.heap.size w w' := by
  refine (Tryz.strconv_ParseInt_10_at64_ok p (by omega) v (pi64_out hv) w).mono ?_
  rintro e w' ⟨rfl, hw⟩
  refine ⟨rfl, ?_⟩
  rcases hw with rfl | ⟨t, rfl⟩
  · exact Below.refl _ _
  · exact Lib.bytesWorld_below _ _ _
theorem p64_no (p : ByteArray) (hp : p.size ≤ 1048576) (hv : pi64 p.data.toList = none) (w : World) {tS tR : TypeId} {pS pR : Value} {m : Int} (h : LV w tS pS tR pR m) :
    Calls Tryz.prog 16 #[.string p, .int .i64 10, .int .i64 64] w fun e w' => ∃ v T q, e = .returned (.tuple #[.int .i64 v, .iface T (.pointer (some q))]) ∧ Below w.heap.size w w' ∧ -9223372036854775808 ≤ v ∧ v ≤ 9223372036854775807 := by
  cases hh : Lib.parseIntB 64 p.data.toList with
  | ok u => unfold pi64 at hv; rw [hh] at hv; cases hv
  | «syntax» =>
    refine (Tryz.strconv_ParseInt_10_at64_syntax_var p (by omega) hh tS pS w h.1.1).mono ?_
    rintro e w' ⟨N, rfl, _, _, hB⟩
    exact ⟨_, _, _, rfl, hB, by omega, by omega⟩
  | range =>
    refine (Tryz.strconv_ParseInt_10_at64_range_var p (by omega) hh tR pR w h.2.1.1).mono ?_
    rintro e w' ⟨N, rfl, _, _, hB⟩
    have hb : -9223372036854775808 ≤ Lib.intSat 64 p.data.toList ∧ Lib.intSat 64 p.data.toList ≤ 9223372036854775807 := by
      unfold Lib.intSat
      split <;> exact ⟨by decide, by decide⟩
    exact ⟨_, _, _, rfl, hB, hb.1, hb.2⟩
set_option maxRecDepth 100000 in
set_option maxHeartbeats 4000000 in
theorem implReadTicket_any (b n cap : Nat) (zs : List Int) (hn : n = zs.length) (t : ByteArray) (ht : t.size ≤ 1048576) (w : World) (hS : Stk w b zs) {tS tR : TypeId} {pS pR : Value} {m : Int} (hL : LW w tS pS tR pR m) :
    Calls Tryz.prog 6 #[.slice (some ⟨b, 0, none⟩) n cap, .string t] w (RkG zs t.data.toList w) := by
  have HOK := hid (fun W h => validStack_any b n cap zs W h hn)
  have hsz : t.data.toList.length = t.size := by rw [Array.length_toList]; rfl
  have hdt : t.toList = t.data.toList := Lib.toList_data t
  obtain ⟨n1, n2⟩ := cut_lenK t.data.toList [32]
  obtain ⟨n3, n4⟩ := cut_lenK (Lib.cut t.data.toList [32]).2.1 [32]
  have HC1 := hid (fun W (h : LW W tS pS tR pR m) => show Calls Tryz.prog 15 #[.string t, .string ⟨#[32]⟩] W fun e w' => e = .returned (.tuple #[.string ⟨(kA t.data.toList).toArray⟩, .string ⟨(Lib.cut t.data.toList [32]).2.1.toArray⟩, .bool (Lib.cut t.data.toList [32]).2.2]) ∧ ∃ n, w' = W.drewN n from Tryz.strings_Cut t ⟨#[32]⟩ m W (by omega) h.1.2.2.1)
  have HC2 := hid (fun W (h : LW W tS pS tR pR m) => show Calls Tryz.prog 15 #[.string ⟨(Lib.cut t.data.toList [32]).2.1.toArray⟩, .string ⟨#[32]⟩] W fun e w' => e = .returned (.tuple #[.string ⟨(kB t.data.toList).toArray⟩, .string ⟨(Lib.cut (Lib.cut t.data.toList [32]).2.1 [32]).2.1.toArray⟩, .bool (Lib.cut (Lib.cut t.data.toList [32]).2.1 [32]).2.2]) ∧ ∃ n, w' = W.drewN n from Tryz.strings_Cut ⟨(Lib.cut t.data.toList [32]).2.1.toArray⟩ ⟨#[32]⟩ m W (by show (Lib.cut t.data.toList [32]).2.1.toArray.size < _; simp; omega) h.1.2.2.1)
  have zA : (⟨(kA t.data.toList).toArray⟩ : ByteArray).size ≤ 1048576 := by show (kA t.data.toList).toArray.size ≤ _; unfold kA; simp; omega
  have zB : (⟨(kB t.data.toList).toArray⟩ : ByteArray).size ≤ 1048576 := by show (kB t.data.toList).toArray.size ≤ _; unfold kB; simp; omega
  have HRD := hid (fun (ho : okL zs = true) W (hS : Stk W b zs) (h : LW W tS pS tR pR m) => (implReadDigits_any b n cap zs hn ⟨(kB t.data.toList).toArray⟩ zB W hS h).mono (fun e w' hh => RdG.eight (l := kB t.data.toList) ho hh))
  have HPY := hid (fun v (hv : pi64 (kA t.data.toList) = some v) W => p64_yes ⟨(kA t.data.toList).toArray⟩ zA (v := v) hv W)
  have HPN := hid (fun (hv : pi64 (kA t.data.toList) = none) W (h : LW W tS pS tR pR m) => p64_no ⟨(kA t.data.toList).toArray⟩ zA hv W h.1)
  have HTT := hid (fun (v : Int) e0 e1 e2 e3 e4 e5 e6 e7 (c : Int) W h hw ho (hL : LW W tS pS tR pR m) => implTT_any b n cap zs v e0 e1 e2 e3 e4 e5 e6 e7 c W h hn hw ho hL.2.1 hL.2.2)
  have HTO := hid (fun (v : Int) e0 e1 e2 e3 e4 e5 e6 e7 W hv ho => ticketOf_any v e0 e1 e2 e3 e4 e5 e6 e7 W hv ho)
  have HLW := hid (fun W (h : Below w.heap.size w W) => hL.below h (Nat.le_refl _))
  obtain ⟨l, hl⟩ : ∃ l, t.data.toList = l := ⟨_, rfl⟩
  rw [hl] at HC1 HC2 HRD HPY HPN hdt ⊢
  have HDT := hid hdt
  obtain ⟨A, hA⟩ : ∃ A, (⟨(kA l).toArray⟩ : ByteArray) = A := ⟨_, rfl⟩
  obtain ⟨Bq, hBq⟩ : ∃ A, (⟨(kB l).toArray⟩ : ByteArray) = A := ⟨_, rfl⟩
  obtain ⟨Rq, hRq⟩ : ∃ A, (⟨(Lib.cut l [32]).2.1.toArray⟩ : ByteArray) = A := ⟨_, rfl⟩
  obtain ⟨Sq, hSq⟩ : ∃ A, (⟨(Lib.cut (Lib.cut l [32]).2.1 [32]).2.1.toArray⟩ : ByteArray) = A := ⟨_, rfl⟩
  obtain ⟨b1, hb1⟩ : ∃ A, (Lib.cut l [32]).2.2 = A := ⟨_, rfl⟩
  obtain ⟨b2, hb2⟩ : ∃ A, (Lib.cut (Lib.cut l [32]).2.1 [32]).2.2 = A := ⟨_, rfl⟩
  rw [hA, hRq, hb1] at HC1
  rw [hRq, hBq, hSq, hb2] at HC2
  rw [hBq] at HRD
  rw [hA] at HPY HPN
  have q0 : Below w.heap.size w (w.alloc (.cells #[.int .i64 0, .int .u8 0, .int .u8 0, .int .u8 0, .int .u8 0, .int .u8 0, .int .u8 0, .int .u8 0, .int .u8 0, .int .u16 0] 27)) := (Below.refl _ _).alloc (Nat.le_refl _) _
  have hS0 := hS.below q0 hS.1
  have r0 := Row.new w 27 [.int .i64 0, .int .u8 0, .int .u8 0, .int .u8 0, .int .u8 0, .int .u8 0, .int .u8 0, .int .u8 0, .int .u8 0, .int .u16 0]
  clear hl ht hsz hn hL hA hBq hRq hSq hb1 hb2 zA zB n1 n2 n3 n4 hdt
  cases hok : okL zs with
  | false =>
    rw [hok] at HOK
    have H1 := HOK.out _ hS0
    have HF := hid hok
    clear hok HC1 HC2 HRD HPY HPN HTT HTO HLW HOK r0
    go_enter Tryz.func6, Tryz.ntmps6
    go_wp2_with fail
    with_reducible refine H1.mono ?_
    rintro e v0 ⟨rfl, hw⟩
    subst hw
    go_wp2_with fail
    exact bodyPost_ret (v := .tuple #[.agg #[.int .i64 0, .int .u8 0, .int .u8 0, .int .u8 0, .int .u8 0, .int .u8 0, .int .u8 0, .int .u8 0, .int .u8 0, .int .u16 0], .int .i64 1]) (by simp [results, Tryz.results6, go_sem]) rfl ⟨0, [0, 0, 0, 0, 0, 0, 0, 0], 0, 1, rfl, q0, .inl ⟨HF.out, rfl, rfl, rfl, rfl⟩⟩
  | true =>
    rw [hok] at HOK
    have HOK1 := hid (HOK.out _ hS0)
    have HRDK := hid (HRD.out hok)
    have HO := hid hok
    clear HOK HRD hok
    cases hp : pi64 (kA l) with
    | none =>
      have HPI := hid (HPN.out hp)
      have NO : ¬ ∃ m es d, TkT zs l m es d := fun ⟨m, es, d, hk⟩ => by
        have := (tk_cut hk).1
        rw [hp] at this
        cases this
      have HNO := hid NO
      clear hp HPN HPY NO
      go_enter Tryz.func6, Tryz.ntmps6
      go_wp2_with fail
      with_reducible refine HOK1.out.mono ?_
      rintro e v0 ⟨rfl, hw⟩
      obtain ⟨V0, hV0⟩ : ∃ X, X = w.alloc (.cells #[.int .i64 0, .int .u8 0, .int .u8 0, .int .u8 0, .int .u8 0, .int .u8 0, .int .u8 0, .int .u8 0, .int .u8 0, .int .u16 0] 27) := ⟨_, rfl⟩
      rw [← hV0] at q0 hS0 r0 hw
      subst hw
      clear hV0 HOK1
      have Q0 := hid q0; have S0 := hid hS0; have R0 := hid r0
      clear q0 hS0 r0
      go_wp2_with fail
      with_reducible refine (HC1.out _ (HLW.out _ Q0.out)).mono ?_
      rintro e w1 ⟨rfl, d1, hw⟩
      have hB : Below (V0).heap.size (V0) w1 := by rw [hw]; exact below_drewN (Below.refl _ _) _
      have q := Q0.out.trans ((hB).mono Q0.out.size)
      have r := R0.out.below (hB) R0.out.lt
      have s := S0.out.below (hB) S0.out.1
      have Q1 := hid q; have R1 := hid r; have S1 := hid s
      clear hw hB q r s
      go_wp2_with fail
      with_reducible refine (HC2.out _ (HLW.out _ Q1.out)).mono ?_
      rintro e w2 ⟨rfl, d2, hw⟩
      have hB : Below w1.heap.size w1 w2 := by rw [hw]; exact below_drewN (Below.refl _ _) _
      have q := Q1.out.trans ((hB).mono Q1.out.size)
      have r := R1.out.below (hB) R1.out.lt
      have s := S1.out.below (hB) S1.out.1
      have Q2 := hid q; have R2 := hid r; have S2 := hid s
      clear hw hB q r s
      go_wp2_with fail
      with_reducible refine (HPI.out _ (HLW.out _ Q2.out)).mono ?_
      rintro e w3 ⟨v, T, q, rfl, hB, hv⟩
      have HV := hid hv
      clear hv
      have q := Q2.out.trans ((hB).mono Q2.out.size)
      have r := R2.out.below (hB) R2.out.lt
      have s := S2.out.below (hB) S2.out.1
      have Q3 := hid q; have R3 := hid r; have S3 := hid s
      clear hB q r s
      go_wp2_with fail
      with_reducible refine (HRDK.out _ S3.out (HLW.out _ Q3.out)).mono ?_
      rintro e w4 ⟨e0, e1, e2, e3, e4, e5, e6, e7, k, rfl, hB, hoct, hk⟩
      have bA : Below w4.heap.size w4 (w4.alloc (.cells #[.int .u8 e0, .int .u8 e1, .int .u8 e2, .int .u8 e3, .int .u8 e4, .int .u8 e5, .int .u8 e6, .int .u8 e7] 24)) := (Below.refl _ _).alloc (Nat.le_refl _) _
      have hB2 := hB.trans (bA.mono hB.size)
      have q := Q3.out.trans ((hB2).mono Q3.out.size)
      have r := R3.out.below (hB2) R3.out.lt
      have s := S3.out.below (hB2) S3.out.1
      have rd := Row.new w4 24 [.int .u8 e0, .int .u8 e1, .int .u8 e2, .int .u8 e3, .int .u8 e4, .int .u8 e5, .int .u8 e6, .int .u8 e7]
      obtain ⟨V5, hV5⟩ : ∃ X, X = w4.alloc (.cells #[.int .u8 e0, .int .u8 e1, .int .u8 e2, .int .u8 e3, .int .u8 e4, .int .u8 e5, .int .u8 e6, .int .u8 e7] 24) := ⟨_, rfl⟩
      have HV5 := hid hV5
      rw [← hV5] at q r s rd
      have Q5 := hid q; have R5 := hid r; have S5 := hid s; have RD := hid rd; have OCT := hid hoct; have HK := hid hk
      clear hB hB2 bA q r s rd hoct hk hV5
      go_upto_region 7 with fail
      rw [← HV5.out]
      have rd := RD.out
      have c0 := rd.cell 0; have c1 := rd.cell 1; have c2 := rd.cell 2; have c3 := rd.cell 3; have c4 := rd.cell 4; have c5 := rd.cell 5; have c6 := rd.cell 6; have c7 := rd.cell 7
      simp only [List.getElem?_cons_zero, List.getElem?_cons_succ] at c0 c1 c2 c3 c4 c5 c6 c7
      clear rd
      go_wp2_with fail
      with_reducible refine (HTO.out v e0 e1 e2 e3 e4 e5 e6 e7 _ HV.out OCT.out).mono ?_
      rintro e w6 ⟨rfl, hB⟩
      obtain ⟨CH, hCH⟩ : ∃ z, chk v [e0, e1, e2, e3, e4, e5, e6, e7] = z := ⟨_, rfl⟩
      rw [hCH]
      have HCH := hid hCH
      clear c0 c1 c2 c3 c4 c5 c6 c7 hCH
      have bA : Below w6.heap.size w6 (w6.alloc (.cells #[.int .i64 v, .int .u8 e0, .int .u8 e1, .int .u8 e2, .int .u8 e3, .int .u8 e4, .int .u8 e5, .int .u8 e6, .int .u8 e7, .int .u16 CH] 27)) := (Below.refl _ _).alloc (Nat.le_refl _) _
      have hB2 := hB.trans (bA.mono hB.size)
      have q := Q5.out.trans ((hB2).mono Q5.out.size)
      have r := R5.out.below (hB2) R5.out.lt
      have s := S5.out.below (hB2) S5.out.1
      have tt := Row.new w6 27 [.int .i64 v, .int .u8 e0, .int .u8 e1, .int .u8 e2, .int .u8 e3, .int .u8 e4, .int .u8 e5, .int .u8 e6, .int .u8 e7, .int .u16 CH]
      obtain ⟨V7, hV7⟩ : ∃ X, X = w6.alloc (.cells #[.int .i64 v, .int .u8 e0, .int .u8 e1, .int .u8 e2, .int .u8 e3, .int .u8 e4, .int .u8 e5, .int .u8 e6, .int .u8 e7, .int .u16 CH] 27) := ⟨_, rfl⟩
      have HV7 := hid hV7
      rw [← hV7] at q r s tt
      have Q7 := hid q; have R7 := hid r; have S7 := hid s; have TT := hid tt
      clear hB hB2 bA q r s tt hV7
      go_upto_region 8 with fail
      rw [← HV7.out]
      have NO := HNO.out; have r := R7.out; have q := Q7.out
      have c0 := r.cell 0; have c1 := r.cell 1; have c2 := r.cell 2; have c3 := r.cell 3; have c4 := r.cell 4; have c5 := r.cell 5; have c6 := r.cell 6; have c7 := r.cell 7; have c8 := r.cell 8; have c9 := r.cell 9
      simp only [List.getElem?_cons_zero, List.getElem?_cons_succ] at c0 c1 c2 c3 c4 c5 c6 c7 c8 c9
      have f0 := r.frozen 0; have f1 := r.frozen 1; have f2 := r.frozen 2; have f3 := r.frozen 3; have f4 := r.frozen 4; have f5 := r.frozen 5; have f6 := r.frozen 6; have f7 := r.frozen 7; have f8 := r.frozen 8; have f9 := r.frozen 9
      go_wp2_with fail
      have b5 := ((((((((((q.setCell (p := ⟨w.heap.size, 0, none⟩) (Nat.le_refl _) (.int .i64 0)).setCell (p := ⟨w.heap.size, 1, none⟩) (Nat.le_refl _) (.int .u8 0)).setCell (p := ⟨w.heap.size, 2, none⟩) (Nat.le_refl _) (.int .u8 0)).setCell (p := ⟨w.heap.size, 3, none⟩) (Nat.le_refl _) (.int .u8 0)).setCell (p := ⟨w.heap.size, 4, none⟩) (Nat.le_refl _) (.int .u8 0)).setCell (p := ⟨w.heap.size, 5, none⟩) (Nat.le_refl _) (.int .u8 0)).setCell (p := ⟨w.heap.size, 6, none⟩) (Nat.le_refl _) (.int .u8 0)).setCell (p := ⟨w.heap.size, 7, none⟩) (Nat.le_refl _) (.int .u8 0)).setCell (p := ⟨w.heap.size, 8, none⟩) (Nat.le_refl _) (.int .u8 0)).setCell (p := ⟨w.heap.size, 9, none⟩) (Nat.le_refl _) (.int .u16 0))
      have r5 := ((((((((((r.set 0 (.int .i64 0)).set 1 (.int .u8 0)).set 2 (.int .u8 0)).set 3 (.int .u8 0)).set 4 (.int .u8 0)).set 5 (.int .u8 0)).set 6 (.int .u8 0)).set 7 (.int .u8 0)).set 8 (.int .u8 0)).set 9 (.int .u16 0))
      simp only [List.set_cons_zero, List.set_cons_succ] at r5
      have d0 := r5.cell 0; have d1 := r5.cell 1; have d2 := r5.cell 2; have d3 := r5.cell 3; have d4 := r5.cell 4; have d5 := r5.cell 5; have d6 := r5.cell 6; have d7 := r5.cell 7; have d8 := r5.cell 8; have d9 := r5.cell 9
      simp only [List.getElem?_cons_zero, List.getElem?_cons_succ] at d0 d1 d2 d3 d4 d5 d6 d7 d8 d9
      exact bodyPost_ret (v := .tuple #[.agg #[.int .i64 0, .int .u8 0, .int .u8 0, .int .u8 0, .int .u8 0, .int .u8 0, .int .u8 0, .int .u8 0, .int .u8 0, .int .u16 0], .int .i64 5]) (by simp [results, Tryz.results6, go_sem, d0, d1, d2, d3, d4, d5, d6, d7, d8, d9]) rfl ⟨0, [0, 0, 0, 0, 0, 0, 0, 0], 0, 5, rfl, b5, .inr ⟨HO.out, .inr ⟨NO, rfl, rfl, rfl, rfl⟩⟩⟩
    | some v =>
      have HPI := hid (HPY.out v hp)
      have HV := hid (pi64_bd hp)
      have HTK := hid (fun ds => tk_impl (zs := zs) (ds := ds) hp)
      have HNT := hid (fun m es d (hk : TkT zs l m es d) => show m = v ∧ Dg zs (kB l) es ∧ tkR zs es v (chk v es) = l from by
        have a := tk_cut hk
        have e : v = m := by have := hp.symm.trans a.1; injection this
        rw [e]
        exact ⟨rfl, a.2⟩)
      clear hp HPN HPY
      go_enter Tryz.func6, Tryz.ntmps6
      go_wp2_with fail
      with_reducible refine HOK1.out.mono ?_
      rintro e v0 ⟨rfl, hw⟩
      obtain ⟨V0, hV0⟩ : ∃ X, X = w.alloc (.cells #[.int .i64 0, .int .u8 0, .int .u8 0, .int .u8 0, .int .u8 0, .int .u8 0, .int .u8 0, .int .u8 0, .int .u8 0, .int .u16 0] 27) := ⟨_, rfl⟩
      rw [← hV0] at q0 hS0 r0 hw
      subst hw
      clear hV0 HOK1
      have Q0 := hid q0; have S0 := hid hS0; have R0 := hid r0
      clear q0 hS0 r0
      go_wp2_with fail
      with_reducible refine (HC1.out _ (HLW.out _ Q0.out)).mono ?_
      rintro e w1 ⟨rfl, d1, hw⟩
      have hB : Below (V0).heap.size (V0) w1 := by rw [hw]; exact below_drewN (Below.refl _ _) _
      have q := Q0.out.trans ((hB).mono Q0.out.size)
      have r := R0.out.below (hB) R0.out.lt
      have s := S0.out.below (hB) S0.out.1
      have Q1 := hid q; have R1 := hid r; have S1 := hid s
      clear hw hB q r s
      go_wp2_with fail
      with_reducible refine (HC2.out _ (HLW.out _ Q1.out)).mono ?_
      rintro e w2 ⟨rfl, d2, hw⟩
      have hB : Below w1.heap.size w1 w2 := by rw [hw]; exact below_drewN (Below.refl _ _) _
      have q := Q1.out.trans ((hB).mono Q1.out.size)
      have r := R1.out.below (hB) R1.out.lt
      have s := S1.out.below (hB) S1.out.1
      have Q2 := hid q; have R2 := hid r; have S2 := hid s
      clear hw hB q r s
      go_wp2_with fail
      with_reducible refine (HPI.out _).mono ?_
      rintro e w3 ⟨rfl, hB⟩
      have q := Q2.out.trans ((hB).mono Q2.out.size)
      have r := R2.out.below (hB) R2.out.lt
      have s := S2.out.below (hB) S2.out.1
      have Q3 := hid q; have R3 := hid r; have S3 := hid s
      clear hB q r s
      go_wp2_with fail
      with_reducible refine (HRDK.out _ S3.out (HLW.out _ Q3.out)).mono ?_
      rintro e w4 ⟨e0, e1, e2, e3, e4, e5, e6, e7, k, rfl, hB, hoct, hk⟩
      have bA : Below w4.heap.size w4 (w4.alloc (.cells #[.int .u8 e0, .int .u8 e1, .int .u8 e2, .int .u8 e3, .int .u8 e4, .int .u8 e5, .int .u8 e6, .int .u8 e7] 24)) := (Below.refl _ _).alloc (Nat.le_refl _) _
      have hB2 := hB.trans (bA.mono hB.size)
      have q := Q3.out.trans ((hB2).mono Q3.out.size)
      have r := R3.out.below (hB2) R3.out.lt
      have s := S3.out.below (hB2) S3.out.1
      have rd := Row.new w4 24 [.int .u8 e0, .int .u8 e1, .int .u8 e2, .int .u8 e3, .int .u8 e4, .int .u8 e5, .int .u8 e6, .int .u8 e7]
      obtain ⟨V5, hV5⟩ : ∃ X, X = w4.alloc (.cells #[.int .u8 e0, .int .u8 e1, .int .u8 e2, .int .u8 e3, .int .u8 e4, .int .u8 e5, .int .u8 e6, .int .u8 e7] 24) := ⟨_, rfl⟩
      have HV5 := hid hV5
      rw [← hV5] at q r s rd
      have Q5 := hid q; have R5 := hid r; have S5 := hid s; have RD := hid rd; have OCT := hid hoct; have HK := hid hk
      clear hB hB2 bA q r s rd hoct hk hV5
      go_upto_region 7 with fail
      rw [← HV5.out]
      have rd := RD.out
      have c0 := rd.cell 0; have c1 := rd.cell 1; have c2 := rd.cell 2; have c3 := rd.cell 3; have c4 := rd.cell 4; have c5 := rd.cell 5; have c6 := rd.cell 6; have c7 := rd.cell 7
      simp only [List.getElem?_cons_zero, List.getElem?_cons_succ] at c0 c1 c2 c3 c4 c5 c6 c7
      clear rd
      go_wp2_with fail
      with_reducible refine (HTO.out v e0 e1 e2 e3 e4 e5 e6 e7 _ HV.out OCT.out).mono ?_
      rintro e w6 ⟨rfl, hB⟩
      obtain ⟨CH, hCH⟩ : ∃ z, chk v [e0, e1, e2, e3, e4, e5, e6, e7] = z := ⟨_, rfl⟩
      rw [hCH]
      have HCH := hid hCH
      clear c0 c1 c2 c3 c4 c5 c6 c7 hCH
      have bA : Below w6.heap.size w6 (w6.alloc (.cells #[.int .i64 v, .int .u8 e0, .int .u8 e1, .int .u8 e2, .int .u8 e3, .int .u8 e4, .int .u8 e5, .int .u8 e6, .int .u8 e7, .int .u16 CH] 27)) := (Below.refl _ _).alloc (Nat.le_refl _) _
      have hB2 := hB.trans (bA.mono hB.size)
      have q := Q5.out.trans ((hB2).mono Q5.out.size)
      have r := R5.out.below (hB2) R5.out.lt
      have s := S5.out.below (hB2) S5.out.1
      have tt := Row.new w6 27 [.int .i64 v, .int .u8 e0, .int .u8 e1, .int .u8 e2, .int .u8 e3, .int .u8 e4, .int .u8 e5, .int .u8 e6, .int .u8 e7, .int .u16 CH]
      obtain ⟨V7, hV7⟩ : ∃ X, X = w6.alloc (.cells #[.int .i64 v, .int .u8 e0, .int .u8 e1, .int .u8 e2, .int .u8 e3, .int .u8 e4, .int .u8 e5, .int .u8 e6, .int .u8 e7, .int .u16 CH] 27) := ⟨_, rfl⟩
      have HV7 := hid hV7
      rw [← hV7] at q r s tt
      have Q7 := hid q; have R7 := hid r; have S7 := hid s; have TT := hid tt
      clear hB hB2 bA q r s tt hV7
      go_upto_region 8 with fail
      rw [← HV7.out]
      rcases HK.out with ⟨hd, rfl⟩ | ⟨hn, rfl⟩
      · have HD := hid hd
        clear hd
        have hw64 : (Lit.int .i64 v).wf = true := by
          have := HV.out
          simp only [Lit.wf, Bool.and_eq_true, decide_eq_true_eq]
          exact this
        have HTX := hid (HTT.out v e0 e1 e2 e3 e4 e5 e6 e7 CH V7 S7.out hw64 OCT.out (HLW.out V7 Q7.out))
        clear hw64
        have tt := TT.out
        have g0 := tt.cell 0; have g1 := tt.cell 1; have g2 := tt.cell 2; have g3 := tt.cell 3; have g4 := tt.cell 4; have g5 := tt.cell 5; have g6 := tt.cell 6; have g7 := tt.cell 7; have g8 := tt.cell 8; have g9 := tt.cell 9
        simp only [List.getElem?_cons_zero, List.getElem?_cons_succ] at g0 g1 g2 g3 g4 g5 g6 g7 g8 g9
        clear tt
        by_cases htx : tkR zs [e0, e1, e2, e3, e4, e5, e6, e7] v CH = l
        · have heq : ((⟨(tkR zs [e0, e1, e2, e3, e4, e5, e6, e7] v CH).toArray⟩ : ByteArray).toList == t.toList) = true := by rw [Lib.toList_data, HDT.out, htx]; simp
          have heq2 : ((⟨(tkR zs [e0, e1, e2, e3, e4, e5, e6, e7] v CH).toArray⟩ : ByteArray).toList != t.toList) = false := by rw [bne, heq]; rfl
          obtain ⟨TX, hT⟩ : ∃ T, (⟨(tkR zs [e0, e1, e2, e3, e4, e5, e6, e7] v CH).toArray⟩ : ByteArray) = T := ⟨_, rfl⟩
          rw [hT] at heq heq2 HTX
          have HTE := hid htx
          clear hT htx
          go_wp2_with fail
          with_reducible refine HTX.out.mono ?_
          rintro e w8 ⟨rfl, hB⟩
          have q := Q7.out.trans ((hB).mono Q7.out.size)
          have r := R7.out.below (hB) R7.out.lt
          have s := S7.out.below (hB) S7.out.1
          have tt := TT.out.below hB TT.out.lt
          clear hB g0 g1 g2 g3 g4 g5 g6 g7 g8 g9 s
          have YES : TkT zs l v [e0, e1, e2, e3, e4, e5, e6, e7] CH := by
            have a := HTK.out [e0, e1, e2, e3, e4, e5, e6, e7] HD.out (by rw [HCH.out]; exact HTE.out)
            rw [HCH.out] at a
            exact a
          have g0 := tt.cell 0; have g1 := tt.cell 1; have g2 := tt.cell 2; have g3 := tt.cell 3; have g4 := tt.cell 4; have g5 := tt.cell 5; have g6 := tt.cell 6; have g7 := tt.cell 7; have g8 := tt.cell 8; have g9 := tt.cell 9
          simp only [List.getElem?_cons_zero, List.getElem?_cons_succ] at g0 g1 g2 g3 g4 g5 g6 g7 g8 g9
          have c0 := r.cell 0; have c1 := r.cell 1; have c2 := r.cell 2; have c3 := r.cell 3; have c4 := r.cell 4; have c5 := r.cell 5; have c6 := r.cell 6; have c7 := r.cell 7; have c8 := r.cell 8; have c9 := r.cell 9
          simp only [List.getElem?_cons_zero, List.getElem?_cons_succ] at c0 c1 c2 c3 c4 c5 c6 c7 c8 c9
          have f0 := r.frozen 0; have f1 := r.frozen 1; have f2 := r.frozen 2; have f3 := r.frozen 3; have f4 := r.frozen 4; have f5 := r.frozen 5; have f6 := r.frozen 6; have f7 := r.frozen 7; have f8 := r.frozen 8; have f9 := r.frozen 9
          go_wp2_with fail
          have b5 := ((((((((((q.setCell (p := ⟨w.heap.size, 0, none⟩) (Nat.le_refl _) (.int .i64 v)).setCell (p := ⟨w.heap.size, 1, none⟩) (Nat.le_refl _) (.int .u8 e0)).setCell (p := ⟨w.heap.size, 2, none⟩) (Nat.le_refl _) (.int .u8 e1)).setCell (p := ⟨w.heap.size, 3, none⟩) (Nat.le_refl _) (.int .u8 e2)).setCell (p := ⟨w.heap.size, 4, none⟩) (Nat.le_refl _) (.int .u8 e3)).setCell (p := ⟨w.heap.size, 5, none⟩) (Nat.le_refl _) (.int .u8 e4)).setCell (p := ⟨w.heap.size, 6, none⟩) (Nat.le_refl _) (.int .u8 e5)).setCell (p := ⟨w.heap.size, 7, none⟩) (Nat.le_refl _) (.int .u8 e6)).setCell (p := ⟨w.heap.size, 8, none⟩) (Nat.le_refl _) (.int .u8 e7)).setCell (p := ⟨w.heap.size, 9, none⟩) (Nat.le_refl _) (.int .u16 CH))
          have r5 := ((((((((((r.set 0 (.int .i64 v)).set 1 (.int .u8 e0)).set 2 (.int .u8 e1)).set 3 (.int .u8 e2)).set 4 (.int .u8 e3)).set 5 (.int .u8 e4)).set 6 (.int .u8 e5)).set 7 (.int .u8 e6)).set 8 (.int .u8 e7)).set 9 (.int .u16 CH))
          simp only [List.set_cons_zero, List.set_cons_succ] at r5
          have d0 := r5.cell 0; have d1 := r5.cell 1; have d2 := r5.cell 2; have d3 := r5.cell 3; have d4 := r5.cell 4; have d5 := r5.cell 5; have d6 := r5.cell 6; have d7 := r5.cell 7; have d8 := r5.cell 8; have d9 := r5.cell 9
          simp only [List.getElem?_cons_zero, List.getElem?_cons_succ] at d0 d1 d2 d3 d4 d5 d6 d7 d8 d9
          exact bodyPost_ret (v := .tuple #[.agg #[.int .i64 v, .int .u8 e0, .int .u8 e1, .int .u8 e2, .int .u8 e3, .int .u8 e4, .int .u8 e5, .int .u8 e6, .int .u8 e7, .int .u16 CH], .int .i64 0]) (by simp [results, Tryz.results6, go_sem, d0, d1, d2, d3, d4, d5, d6, d7, d8, d9]) rfl ⟨v, [e0, e1, e2, e3, e4, e5, e6, e7], CH, 0, rfl, b5, .inr ⟨HO.out, .inl ⟨YES, rfl⟩⟩⟩
        · have heq : ((⟨(tkR zs [e0, e1, e2, e3, e4, e5, e6, e7] v CH).toArray⟩ : ByteArray).toList == t.toList) = false := by rw [Lib.toList_data, HDT.out]; simpa using htx
          have heq2 : ((⟨(tkR zs [e0, e1, e2, e3, e4, e5, e6, e7] v CH).toArray⟩ : ByteArray).toList != t.toList) = true := by rw [bne, heq]; rfl
          have heq3 : ¬ (⟨(tkR zs [e0, e1, e2, e3, e4, e5, e6, e7] v CH).toArray⟩ : ByteArray).toList = t.toList := by simpa using heq
          obtain ⟨TX, hT⟩ : ∃ T, (⟨(tkR zs [e0, e1, e2, e3, e4, e5, e6, e7] v CH).toArray⟩ : ByteArray) = T := ⟨_, rfl⟩
          rw [hT] at heq heq2 heq3 HTX
          have HTE := hid htx
          clear hT htx
          go_wp2_with fail
          with_reducible refine HTX.out.mono ?_
          rintro e w8 ⟨rfl, hB⟩
          have q := Q7.out.trans ((hB).mono Q7.out.size)
          have r := R7.out.below (hB) R7.out.lt
          have s := S7.out.below (hB) S7.out.1
          have tt := TT.out.below hB TT.out.lt
          clear hB g0 g1 g2 g3 g4 g5 g6 g7 g8 g9 s
          have NO : ¬ ∃ m es d, TkT zs l m es d := fun ⟨m, es, d, hk⟩ => by
            have a := HNT.out m es d hk
            rw [a.2.1.uniq HO.out HD.out, HCH.out] at a
            exact HTE.out a.2.2
          clear tt
          have c0 := r.cell 0; have c1 := r.cell 1; have c2 := r.cell 2; have c3 := r.cell 3; have c4 := r.cell 4; have c5 := r.cell 5; have c6 := r.cell 6; have c7 := r.cell 7; have c8 := r.cell 8; have c9 := r.cell 9
          simp only [List.getElem?_cons_zero, List.getElem?_cons_succ] at c0 c1 c2 c3 c4 c5 c6 c7 c8 c9
          have f0 := r.frozen 0; have f1 := r.frozen 1; have f2 := r.frozen 2; have f3 := r.frozen 3; have f4 := r.frozen 4; have f5 := r.frozen 5; have f6 := r.frozen 6; have f7 := r.frozen 7; have f8 := r.frozen 8; have f9 := r.frozen 9
          go_wp2_with fail
          have b5 := ((((((((((q.setCell (p := ⟨w.heap.size, 0, none⟩) (Nat.le_refl _) (.int .i64 0)).setCell (p := ⟨w.heap.size, 1, none⟩) (Nat.le_refl _) (.int .u8 0)).setCell (p := ⟨w.heap.size, 2, none⟩) (Nat.le_refl _) (.int .u8 0)).setCell (p := ⟨w.heap.size, 3, none⟩) (Nat.le_refl _) (.int .u8 0)).setCell (p := ⟨w.heap.size, 4, none⟩) (Nat.le_refl _) (.int .u8 0)).setCell (p := ⟨w.heap.size, 5, none⟩) (Nat.le_refl _) (.int .u8 0)).setCell (p := ⟨w.heap.size, 6, none⟩) (Nat.le_refl _) (.int .u8 0)).setCell (p := ⟨w.heap.size, 7, none⟩) (Nat.le_refl _) (.int .u8 0)).setCell (p := ⟨w.heap.size, 8, none⟩) (Nat.le_refl _) (.int .u8 0)).setCell (p := ⟨w.heap.size, 9, none⟩) (Nat.le_refl _) (.int .u16 0))
          have r5 := ((((((((((r.set 0 (.int .i64 0)).set 1 (.int .u8 0)).set 2 (.int .u8 0)).set 3 (.int .u8 0)).set 4 (.int .u8 0)).set 5 (.int .u8 0)).set 6 (.int .u8 0)).set 7 (.int .u8 0)).set 8 (.int .u8 0)).set 9 (.int .u16 0))
          simp only [List.set_cons_zero, List.set_cons_succ] at r5
          have d0 := r5.cell 0; have d1 := r5.cell 1; have d2 := r5.cell 2; have d3 := r5.cell 3; have d4 := r5.cell 4; have d5 := r5.cell 5; have d6 := r5.cell 6; have d7 := r5.cell 7; have d8 := r5.cell 8; have d9 := r5.cell 9
          simp only [List.getElem?_cons_zero, List.getElem?_cons_succ] at d0 d1 d2 d3 d4 d5 d6 d7 d8 d9
          exact bodyPost_ret (v := .tuple #[.agg #[.int .i64 0, .int .u8 0, .int .u8 0, .int .u8 0, .int .u8 0, .int .u8 0, .int .u8 0, .int .u8 0, .int .u8 0, .int .u16 0], .int .i64 5]) (by simp [results, Tryz.results6, go_sem, d0, d1, d2, d3, d4, d5, d6, d7, d8, d9]) rfl ⟨0, [0, 0, 0, 0, 0, 0, 0, 0], 0, 5, rfl, b5, .inr ⟨HO.out, .inr ⟨NO, rfl, rfl, rfl, rfl⟩⟩⟩
      · have NO : ¬ ∃ m es d, TkT zs l m es d := fun ⟨m, es, d, hk⟩ => hn ⟨es, (HNT.out m es d hk).2.1⟩
        have HNO := hid NO
        clear hn NO
        have NO := HNO.out; have r := R7.out; have q := Q7.out
        have c0 := r.cell 0; have c1 := r.cell 1; have c2 := r.cell 2; have c3 := r.cell 3; have c4 := r.cell 4; have c5 := r.cell 5; have c6 := r.cell 6; have c7 := r.cell 7; have c8 := r.cell 8; have c9 := r.cell 9
        simp only [List.getElem?_cons_zero, List.getElem?_cons_succ] at c0 c1 c2 c3 c4 c5 c6 c7 c8 c9
        have f0 := r.frozen 0; have f1 := r.frozen 1; have f2 := r.frozen 2; have f3 := r.frozen 3; have f4 := r.frozen 4; have f5 := r.frozen 5; have f6 := r.frozen 6; have f7 := r.frozen 7; have f8 := r.frozen 8; have f9 := r.frozen 9
        go_wp2_with fail
        have b5 := ((((((((((q.setCell (p := ⟨w.heap.size, 0, none⟩) (Nat.le_refl _) (.int .i64 0)).setCell (p := ⟨w.heap.size, 1, none⟩) (Nat.le_refl _) (.int .u8 0)).setCell (p := ⟨w.heap.size, 2, none⟩) (Nat.le_refl _) (.int .u8 0)).setCell (p := ⟨w.heap.size, 3, none⟩) (Nat.le_refl _) (.int .u8 0)).setCell (p := ⟨w.heap.size, 4, none⟩) (Nat.le_refl _) (.int .u8 0)).setCell (p := ⟨w.heap.size, 5, none⟩) (Nat.le_refl _) (.int .u8 0)).setCell (p := ⟨w.heap.size, 6, none⟩) (Nat.le_refl _) (.int .u8 0)).setCell (p := ⟨w.heap.size, 7, none⟩) (Nat.le_refl _) (.int .u8 0)).setCell (p := ⟨w.heap.size, 8, none⟩) (Nat.le_refl _) (.int .u8 0)).setCell (p := ⟨w.heap.size, 9, none⟩) (Nat.le_refl _) (.int .u16 0))
        have r5 := ((((((((((r.set 0 (.int .i64 0)).set 1 (.int .u8 0)).set 2 (.int .u8 0)).set 3 (.int .u8 0)).set 4 (.int .u8 0)).set 5 (.int .u8 0)).set 6 (.int .u8 0)).set 7 (.int .u8 0)).set 8 (.int .u8 0)).set 9 (.int .u16 0))
        simp only [List.set_cons_zero, List.set_cons_succ] at r5
        have d0 := r5.cell 0; have d1 := r5.cell 1; have d2 := r5.cell 2; have d3 := r5.cell 3; have d4 := r5.cell 4; have d5 := r5.cell 5; have d6 := r5.cell 6; have d7 := r5.cell 7; have d8 := r5.cell 8; have d9 := r5.cell 9
        simp only [List.getElem?_cons_zero, List.getElem?_cons_succ] at d0 d1 d2 d3 d4 d5 d6 d7 d8 d9
        exact bodyPost_ret (v := .tuple #[.agg #[.int .i64 0, .int .u8 0, .int .u8 0, .int .u8 0, .int .u8 0, .int .u8 0, .int .u8 0, .int .u8 0, .int .u8 0, .int .u16 0], .int .i64 5]) (by simp [results, Tryz.results6, go_sem, d0, d1, d2, d3, d4, d5, d6, d7, d8, d9]) rfl ⟨0, [0, 0, 0, 0, 0, 0, 0, 0], 0, 5, rfl, b5, .inr ⟨HO.out, .inr ⟨NO, rfl, rfl, rfl, rfl⟩⟩⟩
end Go.Proofs.YtcbhlljgcndhdaaGreatDoor
