/- spec.ReadTicket. -/
import Derived.Test.YtcbhlljgcndhdaaGreatDoorRkM
namespace Go.Proofs.YtcbhlljgcndhdaaGreatDoor
open Go.RowKit Go.Shelf
set_option linter.unusedVariables false
set_option linter.unusedSimpArgs false
theorem LrG.eight {zs : List Int} {l : List UInt8} (ho : okL zs = true) {w : World} {e : Ending} {w' : World} (h : LrG zs l w e w') : ∃ (e0 e1 e2 e3 e4 e5 e6 e7 : Int) (ok : Bool), e = .returned (.tuple #[.agg #[.int .u8 e0, .int .u8 e1, .int .u8 e2, .int .u8 e3, .int .u8 e4, .int .u8 e5, .int .u8 e6, .int .u8 e7], .bool ok]) ∧ Below w.heap.size w w' ∧ Oct e0 e1 e2 e3 e4 e5 e6 e7 ∧ (ok = true → Dg zs l [e0, e1, e2, e3, e4, e5, e6, e7]) ∧ (ok = false → ¬ ∃ es, Dg zs l es) := by
  obtain ⟨ds, ok, rfl, hB, ⟨rfl, hd⟩ | ⟨rfl, rfl, hn⟩⟩ := h
  · obtain ⟨e0, e1, e2, e3, e4, e5, e6, e7, rfl⟩ := len8 hd.1
    refine ⟨e0, e1, e2, e3, e4, e5, e6, e7, true, rfl, hB, ?_, fun _ => hd, fun h => by cases h⟩
    have a := hd.nonneg; have b := hd.le ho
    exact ⟨⟨a 0 (by omega), b 0 (by omega)⟩, ⟨a 1 (by omega), b 1 (by omega)⟩, ⟨a 2 (by omega), b 2 (by omega)⟩, ⟨a 3 (by omega), b 3 (by omega)⟩, ⟨a 4 (by omega), b 4 (by omega)⟩, ⟨a 5 (by omega), b 5 (by omega)⟩, ⟨a 6 (by omega), b 6 (by omega)⟩, ⟨a 7 (by omega), b 7 (by omega)⟩⟩
  · exact ⟨0, 0, 0, 0, 0, 0, 0, 0, false, rfl, hB, by unfold Oct; decide, (fun h => by cases h), fun _ => hn⟩
set_option maxRecDepth 100000 in
set_option maxHeartbeats 4000000 in
theorem specReadTicket_any (b n cap : Nat) (zs : List Int) (hn : n = zs.length) (t : ByteArray) (ht : t.size ≤ 1048576) (w : World) (hS : Stk w b zs) :
    Calls Tryz.prog 4 #[.slice (some ⟨b, 0, none⟩) n cap, .string t] w (RkG zs t.data.toList w) := by
  have HOK := hid (fun W h => l01Ok_any b n cap zs W h hn)
  have HSP := hid (fun W => l01Split_any t ht 32 32 (by decide) W)
  have hsz : t.size = t.data.toList.length := by rw [Array.length_toList]; rfl
  have HLR := hid (fun (ho : okL zs = true) (y : List UInt8) (hy : y.length ≤ 1048576) W h => (l01Read_any b n cap zs hn ho ⟨y.toArray⟩ (by show y.toArray.size ≤ _; simpa using hy) W h).mono (fun e w' hh => LrG.eight ho hh))
  have HNUM := hid (fun (y : List UInt8) (hy : y.length ≤ 1048576) W => show Calls Tryz.prog 11 #[.string ⟨y.toArray⟩] W fun e w' => e = .returned (.tuple #[.int .i64 (numR y).1, .bool (numR y).2]) ∧ w' = W from l01Number_any ⟨y.toArray⟩ (by show y.toArray.size ≤ _; simpa using hy) W)
  have HGEN := hid (fun g (m : Int) e0 e1 e2 e3 e4 e5 e6 e7 (c : Int) W h hm ho hr => l07Genuine_any g b n cap zs m e0 e1 e2 e3 e4 e5 e6 e7 c W h hn hm ho hr)
  obtain ⟨l, hl⟩ : ∃ l, t.data.toList = l := ⟨_, rfl⟩
  rw [hl] at HSP hsz ⊢
  have HML := hid (fun p (hp : p ∈ spl 32 l) => show p.length ≤ 1048576 from by have := spl_mem_len (c := 32) (l := l) (p := p) hp; omega)
  have q0 : Below w.heap.size w (w.alloc (.cells #[.int .i64 0, .int .u8 0, .int .u8 0, .int .u8 0, .int .u8 0, .int .u8 0, .int .u8 0, .int .u8 0, .int .u8 0, .int .u16 0] 27)) := (Below.refl _ _).alloc (Nat.le_refl _) _
  have hS0 := hS.below q0 hS.1
  have r0 := Row.new w 27 [.int .i64 0, .int .u8 0, .int .u8 0, .int .u8 0, .int .u8 0, .int .u8 0, .int .u8 0, .int .u8 0, .int .u8 0, .int .u16 0]
  clear hl ht hsz hn
  cases hok : okL zs with
  | false =>
    rw [hok] at HOK
    have H1 := HOK.out _ hS0
    have HF := hid hok
    clear hok HSP HLR HNUM HGEN HML HOK r0
    go_enter Tryz.func4, Tryz.ntmps4
    go_wp2_with fail
    with_reducible refine H1.mono ?_
    rintro e v0 ⟨rfl, hw⟩
    subst hw
    go_wp2_with fail
    exact bodyPost_ret (v := .tuple #[.agg #[.int .i64 0, .int .u8 0, .int .u8 0, .int .u8 0, .int .u8 0, .int .u8 0, .int .u8 0, .int .u8 0, .int .u8 0, .int .u16 0], .int .i64 1]) (by simp [results, Tryz.results4, go_sem]) rfl ⟨0, [0, 0, 0, 0, 0, 0, 0, 0], 0, 1, rfl, q0, .inl ⟨HF.out, rfl, rfl, rfl, rfl⟩⟩
  | true =>
    rw [hok] at HOK
    have HOK1 := hid (HOK.out _ hS0)
    have HLRK := hid (HLR.out hok)
    have HO := hid hok
    have hthree : (spl 32 l).length ≠ 3 → ¬ ∃ m es d, TkT zs l m es d := fun h ⟨m, es, d, hk⟩ => h (tk_three hk)
    have HTH := hid hthree
    clear HOK HLR hok hthree
    go_enter Tryz.func4, Tryz.ntmps4
    go_wp2_with fail
    with_reducible refine HOK1.out.mono ?_
    rintro e v0 ⟨rfl, hw⟩
    obtain ⟨V0, hV0⟩ : ∃ X, X = w.alloc (.cells #[.int .i64 0, .int .u8 0, .int .u8 0, .int .u8 0, .int .u8 0, .int .u8 0, .int .u8 0, .int .u8 0, .int .u8 0, .int .u16 0] 27) := ⟨_, rfl⟩
    rw [← hV0] at q0 hS0 r0 hw
    subst hw
    clear hV0 HOK1
    have Q0 := hid q0; have S0 := hid hS0; have R0 := hid r0
    clear q0 hS0 r0
    go_wp2_with fail
    with_reducible refine (HSP.out V0).mono ?_
    rintro e w1 ⟨v, rfl, hO, hB⟩
    have hne : 1 ≤ (spl 32 l).length := by
      cases hh : spl 32 l with
      | nil => exact absurd hh (spl_ne 32 l)
      | cons => simp
    obtain ⟨g, cp, rfl, hg, hcp, hgz, hcl⟩ := ownsS_addr hO (by rw [bas_len]; exact hne)
    rw [bas_len] at *
    have q1 := Q0.out.trans (hB.mono Q0.out.size)
    have r1 := R0.out.below hB R0.out.lt
    have s1 := S0.out.below hB S0.out.1
    have Q1 := hid q1; have S1 := hid s1; have GZ := hid hgz
    clear hO hB hcp hg q1 s1 hgz
    by_cases h3 : (spl 32 l).length = 3
    · obtain ⟨x, y, z, hxyz⟩ : ∃ x y z, spl 32 l = [x, y, z] := by
        match hh : spl 32 l, h3 with
        | [x, y, z], _ => exact ⟨x, y, z, rfl⟩
      have HX := hid (HNUM.out x (HML.out x (by rw [hxyz]; simp)))
      have HY := hid (HLRK.out y (HML.out y (by rw [hxyz]; simp)))
      have HZ := hid (HNUM.out z (HML.out z (by rw [hxyz]; simp)))
      have HYES := hid (fun ds => tk_yes (ds := ds) HO.out hxyz)
      have HNOT := hid (fun m es d => tk_out (n := m) (ds := es) (c := d) (zs := zs) hxyz)
      rw [hxyz] at hcl ⊢
      have cx := hcl 0 ⟨x.toArray⟩ (by simp [bas])
      have cy := hcl 1 ⟨y.toArray⟩ (by simp [bas])
      have cz := hcl 2 ⟨z.toArray⟩ (by simp [bas])
      obtain ⟨X, hX⟩ : ∃ X, (⟨x.toArray⟩ : ByteArray) = X := ⟨_, rfl⟩
      obtain ⟨Y, hY⟩ : ∃ X, (⟨y.toArray⟩ : ByteArray) = X := ⟨_, rfl⟩
      obtain ⟨Zt, hZt⟩ : ∃ X, (⟨z.toArray⟩ : ByteArray) = X := ⟨_, rfl⟩
      rw [hX] at cx HX
      rw [hY] at cy HY
      rw [hZt] at cz HZ
      simp only [List.length_cons, List.length_nil, Nat.zero_add, Nat.reduceAdd]
      have CZ := hid cz; have R1 := hid r1
      clear hX hY hZt hcl h3 hxyz hne HTH HNUM HLRK HSP HML cz r1
      obtain ⟨nx, bx, hnx⟩ : ∃ (a : Int) (b : Bool), numR x = (a, b) := ⟨_, _, rfl⟩
      obtain ⟨nz, bz, hnz⟩ : ∃ (a : Int) (b : Bool), numR z = (a, b) := ⟨_, _, rfl⟩
      rw [hnx] at HX
      rw [hnz] at HZ
      have NX := hid hnx; have NZ := hid hnz
      clear hnx hnz
      go_wp2_with fail
      with_reducible refine (HX.out _).mono ?_
      rintro e v2 ⟨rfl, hw⟩
      subst hw
      go_wp2_with fail
      with_reducible refine (HY.out _ S1.out).mono ?_
      rintro e w2 ⟨e0, e1, e2, e3, e4, e5, e6, e7, oky, rfl, hB, hoct, hd1, hd2⟩
      have bA : Below w2.heap.size w2 (w2.alloc (.cells #[.int .u8 e0, .int .u8 e1, .int .u8 e2, .int .u8 e3, .int .u8 e4, .int .u8 e5, .int .u8 e6, .int .u8 e7] 24)) := (Below.refl _ _).alloc (Nat.le_refl _) _
      have hB2 := hB.trans (bA.mono hB.size)
      have q3 := Q1.out.trans (hB2.mono Q1.out.size)
      have r3 := R1.out.below hB2 R1.out.lt
      have s3 := S1.out.below hB2 S1.out.1
      have cz := (hB2.cell (p := ⟨g, 2, none⟩) GZ.out).trans CZ.out
      have rd := Row.new w2 24 [.int .u8 e0, .int .u8 e1, .int .u8 e2, .int .u8 e3, .int .u8 e4, .int .u8 e5, .int .u8 e6, .int .u8 e7]
      have hF : w2.heap.size = w2.heap.size := rfl
      obtain ⟨V3, hV3⟩ : ∃ X, X = w2.alloc (.cells #[.int .u8 e0, .int .u8 e1, .int .u8 e2, .int .u8 e3, .int .u8 e4, .int .u8 e5, .int .u8 e6, .int .u8 e7] 24) := ⟨_, rfl⟩
      have HV3 := hid hV3
      rw [← hV3] at q3 r3 s3 cz rd
      have OCT := hid hoct; have D1 := hid hd1; have D2 := hid hd2
      have Q3 := hid q3; have R3 := hid r3; have S3 := hid s3; have RD := hid rd
      clear hB hB2 bA q3 r3 s3 rd cx cy hoct hd1 hd2 hF hV3
      go_upto_region 8 with fail
      rw [← HV3.out]
      go_wp2_with fail
      with_reducible refine (HZ.out _).mono ?_
      rintro e v4 ⟨rfl, hw⟩
      subst hw
      clear cz
      cases bx with
      | false =>
        have NO : ¬ ∃ m es d, TkT zs l m es d := fun ⟨m, es, d, hk⟩ => by
          have := (HNOT.out m es d hk).1
          have e := NX.out
          rw [numR_yes this] at e
          injection e with _ e
          cases e
        have r := R3.out; have q := Q3.out
        have c0 := r.cell 0; have c1 := r.cell 1; have c2 := r.cell 2; have c3 := r.cell 3; have c4 := r.cell 4; have c5 := r.cell 5; have c6 := r.cell 6; have c7 := r.cell 7; have c8 := r.cell 8; have c9 := r.cell 9
        simp only [List.getElem?_cons_zero, List.getElem?_cons_succ] at c0 c1 c2 c3 c4 c5 c6 c7 c8 c9
        have f0 := r.frozen 0; have f1 := r.frozen 1; have f2 := r.frozen 2; have f3 := r.frozen 3; have f4 := r.frozen 4; have f5 := r.frozen 5; have f6 := r.frozen 6; have f7 := r.frozen 7; have f8 := r.frozen 8; have f9 := r.frozen 9
        go_wp2_with fail
        have b5 := ((((((((((q.setCell (p := ⟨w.heap.size, 0, none⟩) (Nat.le_refl _) (.int .i64 0)).setCell (p := ⟨w.heap.size, 1, none⟩) (Nat.le_refl _) (.int .u8 0)).setCell (p := ⟨w.heap.size, 2, none⟩) (Nat.le_refl _) (.int .u8 0)).setCell (p := ⟨w.heap.size, 3, none⟩) (Nat.le_refl _) (.int .u8 0)).setCell (p := ⟨w.heap.size, 4, none⟩) (Nat.le_refl _) (.int .u8 0)).setCell (p := ⟨w.heap.size, 5, none⟩) (Nat.le_refl _) (.int .u8 0)).setCell (p := ⟨w.heap.size, 6, none⟩) (Nat.le_refl _) (.int .u8 0)).setCell (p := ⟨w.heap.size, 7, none⟩) (Nat.le_refl _) (.int .u8 0)).setCell (p := ⟨w.heap.size, 8, none⟩) (Nat.le_refl _) (.int .u8 0)).setCell (p := ⟨w.heap.size, 9, none⟩) (Nat.le_refl _) (.int .u16 0))
        have r5 := ((((((((((r.set 0 (.int .i64 0)).set 1 (.int .u8 0)).set 2 (.int .u8 0)).set 3 (.int .u8 0)).set 4 (.int .u8 0)).set 5 (.int .u8 0)).set 6 (.int .u8 0)).set 7 (.int .u8 0)).set 8 (.int .u8 0)).set 9 (.int .u16 0))
        simp only [List.set_cons_zero, List.set_cons_succ] at r5
        have d0 := r5.cell 0; have d1 := r5.cell 1; have d2 := r5.cell 2; have d3 := r5.cell 3; have d4 := r5.cell 4; have d5 := r5.cell 5; have d6 := r5.cell 6; have d7 := r5.cell 7; have d8 := r5.cell 8; have d9 := r5.cell 9
        simp only [List.getElem?_cons_zero, List.getElem?_cons_succ] at d0 d1 d2 d3 d4 d5 d6 d7 d8 d9
        exact bodyPost_ret (v := .tuple #[.agg #[.int .i64 0, .int .u8 0, .int .u8 0, .int .u8 0, .int .u8 0, .int .u8 0, .int .u8 0, .int .u8 0, .int .u8 0, .int .u16 0], .int .i64 5]) (by simp [results, Tryz.results4, go_sem, d0, d1, d2, d3, d4, d5, d6, d7, d8, d9]) rfl ⟨0, [0, 0, 0, 0, 0, 0, 0, 0], 0, 5, rfl, b5, .inr ⟨HO.out, .inr ⟨NO, rfl, rfl, rfl, rfl⟩⟩⟩
      | true =>
        cases oky with
        | false =>
          have NO : ¬ ∃ m es d, TkT zs l m es d := fun ⟨m, es, d, hk⟩ => D2.out rfl ⟨es, (HNOT.out m es d hk).2.1⟩
          have r := R3.out; have q := Q3.out
          have c0 := r.cell 0; have c1 := r.cell 1; have c2 := r.cell 2; have c3 := r.cell 3; have c4 := r.cell 4; have c5 := r.cell 5; have c6 := r.cell 6; have c7 := r.cell 7; have c8 := r.cell 8; have c9 := r.cell 9
          simp only [List.getElem?_cons_zero, List.getElem?_cons_succ] at c0 c1 c2 c3 c4 c5 c6 c7 c8 c9
          have f0 := r.frozen 0; have f1 := r.frozen 1; have f2 := r.frozen 2; have f3 := r.frozen 3; have f4 := r.frozen 4; have f5 := r.frozen 5; have f6 := r.frozen 6; have f7 := r.frozen 7; have f8 := r.frozen 8; have f9 := r.frozen 9
          go_wp2_with fail
          have b5 := ((((((((((q.setCell (p := ⟨w.heap.size, 0, none⟩) (Nat.le_refl _) (.int .i64 0)).setCell (p := ⟨w.heap.size, 1, none⟩) (Nat.le_refl _) (.int .u8 0)).setCell (p := ⟨w.heap.size, 2, none⟩) (Nat.le_refl _) (.int .u8 0)).setCell (p := ⟨w.heap.size, 3, none⟩) (Nat.le_refl _) (.int .u8 0)).setCell (p := ⟨w.heap.size, 4, none⟩) (Nat.le_refl _) (.int .u8 0)).setCell (p := ⟨w.heap.size, 5, none⟩) (Nat.le_refl _) (.int .u8 0)).setCell (p := ⟨w.heap.size, 6, none⟩) (Nat.le_refl _) (.int .u8 0)).setCell (p := ⟨w.heap.size, 7, none⟩) (Nat.le_refl _) (.int .u8 0)).setCell (p := ⟨w.heap.size, 8, none⟩) (Nat.le_refl _) (.int .u8 0)).setCell (p := ⟨w.heap.size, 9, none⟩) (Nat.le_refl _) (.int .u16 0))
          have r5 := ((((((((((r.set 0 (.int .i64 0)).set 1 (.int .u8 0)).set 2 (.int .u8 0)).set 3 (.int .u8 0)).set 4 (.int .u8 0)).set 5 (.int .u8 0)).set 6 (.int .u8 0)).set 7 (.int .u8 0)).set 8 (.int .u8 0)).set 9 (.int .u16 0))
          simp only [List.set_cons_zero, List.set_cons_succ] at r5
          have d0 := r5.cell 0; have d1 := r5.cell 1; have d2 := r5.cell 2; have d3 := r5.cell 3; have d4 := r5.cell 4; have d5 := r5.cell 5; have d6 := r5.cell 6; have d7 := r5.cell 7; have d8 := r5.cell 8; have d9 := r5.cell 9
          simp only [List.getElem?_cons_zero, List.getElem?_cons_succ] at d0 d1 d2 d3 d4 d5 d6 d7 d8 d9
          exact bodyPost_ret (v := .tuple #[.agg #[.int .i64 0, .int .u8 0, .int .u8 0, .int .u8 0, .int .u8 0, .int .u8 0, .int .u8 0, .int .u8 0, .int .u8 0, .int .u16 0], .int .i64 5]) (by simp [results, Tryz.results4, go_sem, d0, d1, d2, d3, d4, d5, d6, d7, d8, d9]) rfl ⟨0, [0, 0, 0, 0, 0, 0, 0, 0], 0, 5, rfl, b5, .inr ⟨HO.out, .inr ⟨NO, rfl, rfl, rfl, rfl⟩⟩⟩
        | true =>
          cases bz with
          | false =>
            have NO : ¬ ∃ m es d, TkT zs l m es d := fun ⟨m, es, d, hk⟩ => by
              have := (HNOT.out m es d hk).2.2.1
              have e := NZ.out
              rw [numR_yes this] at e
              injection e with _ e
              cases e
            have r := R3.out; have q := Q3.out
            have c0 := r.cell 0; have c1 := r.cell 1; have c2 := r.cell 2; have c3 := r.cell 3; have c4 := r.cell 4; have c5 := r.cell 5; have c6 := r.cell 6; have c7 := r.cell 7; have c8 := r.cell 8; have c9 := r.cell 9
            simp only [List.getElem?_cons_zero, List.getElem?_cons_succ] at c0 c1 c2 c3 c4 c5 c6 c7 c8 c9
            have f0 := r.frozen 0; have f1 := r.frozen 1; have f2 := r.frozen 2; have f3 := r.frozen 3; have f4 := r.frozen 4; have f5 := r.frozen 5; have f6 := r.frozen 6; have f7 := r.frozen 7; have f8 := r.frozen 8; have f9 := r.frozen 9
            go_wp2_with fail
            have b5 := ((((((((((q.setCell (p := ⟨w.heap.size, 0, none⟩) (Nat.le_refl _) (.int .i64 0)).setCell (p := ⟨w.heap.size, 1, none⟩) (Nat.le_refl _) (.int .u8 0)).setCell (p := ⟨w.heap.size, 2, none⟩) (Nat.le_refl _) (.int .u8 0)).setCell (p := ⟨w.heap.size, 3, none⟩) (Nat.le_refl _) (.int .u8 0)).setCell (p := ⟨w.heap.size, 4, none⟩) (Nat.le_refl _) (.int .u8 0)).setCell (p := ⟨w.heap.size, 5, none⟩) (Nat.le_refl _) (.int .u8 0)).setCell (p := ⟨w.heap.size, 6, none⟩) (Nat.le_refl _) (.int .u8 0)).setCell (p := ⟨w.heap.size, 7, none⟩) (Nat.le_refl _) (.int .u8 0)).setCell (p := ⟨w.heap.size, 8, none⟩) (Nat.le_refl _) (.int .u8 0)).setCell (p := ⟨w.heap.size, 9, none⟩) (Nat.le_refl _) (.int .u16 0))
            have r5 := ((((((((((r.set 0 (.int .i64 0)).set 1 (.int .u8 0)).set 2 (.int .u8 0)).set 3 (.int .u8 0)).set 4 (.int .u8 0)).set 5 (.int .u8 0)).set 6 (.int .u8 0)).set 7 (.int .u8 0)).set 8 (.int .u8 0)).set 9 (.int .u16 0))
            simp only [List.set_cons_zero, List.set_cons_succ] at r5
            have d0 := r5.cell 0; have d1 := r5.cell 1; have d2 := r5.cell 2; have d3 := r5.cell 3; have d4 := r5.cell 4; have d5 := r5.cell 5; have d6 := r5.cell 6; have d7 := r5.cell 7; have d8 := r5.cell 8; have d9 := r5.cell 9
            simp only [List.getElem?_cons_zero, List.getElem?_cons_succ] at d0 d1 d2 d3 d4 d5 d6 d7 d8 d9
            exact bodyPost_ret (v := .tuple #[.agg #[.int .i64 0, .int .u8 0, .int .u8 0, .int .u8 0, .int .u8 0, .int .u8 0, .int .u8 0, .int .u8 0, .int .u8 0, .int .u16 0], .int .i64 5]) (by simp [results, Tryz.results4, go_sem, d0, d1, d2, d3, d4, d5, d6, d7, d8, d9]) rfl ⟨0, [0, 0, 0, 0, 0, 0, 0, 0], 0, 5, rfl, b5, .inr ⟨HO.out, .inr ⟨NO, rfl, rfl, rfl, rfl⟩⟩⟩
          | true =>
            have hcx : canB x = true ∧ (numV x : Int) = nx := by
              have e := NX.out
              cases h : canB x with
              | false => rw [numR_no h] at e; injection e with _ e; cases e
              | true => rw [numR_yes h] at e; injection e with e _; exact ⟨rfl, e⟩
            have hcz : canB z = true ∧ (numV z : Int) = nz := by
              have e := NZ.out
              cases h : canB z with
              | false => rw [numR_no h] at e; injection e with _ e; cases e
              | true => rw [numR_yes h] at e; injection e with e _; exact ⟨rfl, e⟩
            have CX := hid hcx; have CZ2 := hid hcz
            clear hcx hcz
            by_cases hz : nz ≤ 65535
            · have hz0 : 0 ≤ nz := by have := CZ2.out.2; omega
              have hx0 : 0 ≤ nx ∧ nx ≤ 1000000000 := by
                have h := CX.out.1; unfold canB at h; simp only [Bool.and_eq_true, decide_eq_true_eq] at h
                have h2 := numV_lt x h.2
                have h3 : 10 ^ x.length ≤ 10 ^ 9 := Nat.pow_le_pow_right (by omega) h.1.1.2
                have := CX.out.2
                omega
              have wz : IntKind.u16.wrap nz = nz := by simp only [IntKind.wrap, IntKind.signed, IntKind.bits]; simp; omega
              have hzf : ¬ (65535 < nz) := by omega
              have HYES1 := hid (fun hg => HYES.out [e0, e1, e2, e3, e4, e5, e6, e7] CX.out.1 (D1.out rfl) CZ2.out.1 hg)
              have HNO1 := hid (fun (hg : gen zs [e0, e1, e2, e3, e4, e5, e6, e7] (numV x) (numV z) = false) (hh : ∃ m es d, TkT zs l m es d) => show False from by
                obtain ⟨m, es, d, hk⟩ := hh
                have a := HNOT.out m es d hk
                rw [← (D1.out rfl).uniq HO.out a.2.1, hg] at a
                cases a.2.2.2.2)
              rw [CX.out.2, CZ2.out.2] at HYES1 HNO1
              obtain ⟨G, hG⟩ : ∃ G, gen zs [e0, e1, e2, e3, e4, e5, e6, e7] nx nz = G := ⟨_, rfl⟩
              rw [hG] at HYES1 HNO1
              have rd := RD.out
              have c0 := rd.cell 0; have c1 := rd.cell 1; have c2 := rd.cell 2; have c3 := rd.cell 3; have c4 := rd.cell 4; have c5 := rd.cell 5; have c6 := rd.cell 6; have c7 := rd.cell 7
              simp only [List.getElem?_cons_zero, List.getElem?_cons_succ] at c0 c1 c2 c3 c4 c5 c6 c7
              clear rd
              have bT : Below v4.heap.size v4 (v4.alloc (.cells #[.int .i64 nx, .int .u8 e0, .int .u8 e1, .int .u8 e2, .int .u8 e3, .int .u8 e4, .int .u8 e5, .int .u8 e6, .int .u8 e7, .int .u16 nz] 27)) := (Below.refl _ _).alloc (Nat.le_refl _) _
              have qT := Q3.out.trans (bT.mono Q3.out.size)
              have rT := R3.out.below bT R3.out.lt
              have sT := S3.out.below bT S3.out.1
              have tT := Row.new v4 27 [.int .i64 nx, .int .u8 e0, .int .u8 e1, .int .u8 e2, .int .u8 e3, .int .u8 e4, .int .u8 e5, .int .u8 e6, .int .u8 e7, .int .u16 nz]
              obtain ⟨V5, hV5⟩ : ∃ X, X = v4.alloc (.cells #[.int .i64 nx, .int .u8 e0, .int .u8 e1, .int .u8 e2, .int .u8 e3, .int .u8 e4, .int .u8 e5, .int .u8 e6, .int .u8 e7, .int .u16 nz] 27) := ⟨_, rfl⟩
              have HV5 := hid hV5
              rw [← hV5] at qT rT sT tT
              have HG := hid (HGEN.out _ nx e0 e1 e2 e3 e4 e5 e6 e7 nz V5 sT (by omega) OCT.out tT)
              rw [hG] at HG
              have QT := hid qT; have RT := hid rT; have TT := hid tT
              clear bT qT rT sT tT hV5 hG
              go_upto_region 12 with fail
              rw [← HV5.out]
              go_wp2_with fail
              with_reducible refine HG.out.mono ?_
              rintro e w6 ⟨rfl, hB⟩
              have q := QT.out.trans (hB.mono QT.out.size)
              have r := RT.out.below hB RT.out.lt
              have tt := TT.out.below hB TT.out.lt
              clear hB c0 c1 c2 c3 c4 c5 c6 c7
              cases G with
              | false =>
                have NO : ¬ ∃ m es d, TkT zs l m es d := fun hh => HNO1.out rfl hh
                clear tt
                have c0 := r.cell 0; have c1 := r.cell 1; have c2 := r.cell 2; have c3 := r.cell 3; have c4 := r.cell 4; have c5 := r.cell 5; have c6 := r.cell 6; have c7 := r.cell 7; have c8 := r.cell 8; have c9 := r.cell 9
                simp only [List.getElem?_cons_zero, List.getElem?_cons_succ] at c0 c1 c2 c3 c4 c5 c6 c7 c8 c9
                have f0 := r.frozen 0; have f1 := r.frozen 1; have f2 := r.frozen 2; have f3 := r.frozen 3; have f4 := r.frozen 4; have f5 := r.frozen 5; have f6 := r.frozen 6; have f7 := r.frozen 7; have f8 := r.frozen 8; have f9 := r.frozen 9
                go_wp2_with fail
                have b5 := ((((((((((q.setCell (p := ⟨w.heap.size, 0, none⟩) (Nat.le_refl _) (.int .i64 0)).setCell (p := ⟨w.heap.size, 1, none⟩) (Nat.le_refl _) (.int .u8 0)).setCell (p := ⟨w.heap.size, 2, none⟩) (Nat.le_refl _) (.int .u8 0)).setCell (p := ⟨w.heap.size, 3, none⟩) (Nat.le_refl _) (.int .u8 0)).setCell (p := ⟨w.heap.size, 4, none⟩) (Nat.le_refl _) (.int .u8 0)).setCell (p := ⟨w.heap.size, 5, none⟩) (Nat.le_refl _) (.int .u8 0)).setCell (p := ⟨w.heap.size, 6, none⟩) (Nat.le_refl _) (.int .u8 0)).setCell (p := ⟨w.heap.size, 7, none⟩) (Nat.le_refl _) (.int .u8 0)).setCell (p := ⟨w.heap.size, 8, none⟩) (Nat.le_refl _) (.int .u8 0)).setCell (p := ⟨w.heap.size, 9, none⟩) (Nat.le_refl _) (.int .u16 0))
                have r5 := ((((((((((r.set 0 (.int .i64 0)).set 1 (.int .u8 0)).set 2 (.int .u8 0)).set 3 (.int .u8 0)).set 4 (.int .u8 0)).set 5 (.int .u8 0)).set 6 (.int .u8 0)).set 7 (.int .u8 0)).set 8 (.int .u8 0)).set 9 (.int .u16 0))
                simp only [List.set_cons_zero, List.set_cons_succ] at r5
                have d0 := r5.cell 0; have d1 := r5.cell 1; have d2 := r5.cell 2; have d3 := r5.cell 3; have d4 := r5.cell 4; have d5 := r5.cell 5; have d6 := r5.cell 6; have d7 := r5.cell 7; have d8 := r5.cell 8; have d9 := r5.cell 9
                simp only [List.getElem?_cons_zero, List.getElem?_cons_succ] at d0 d1 d2 d3 d4 d5 d6 d7 d8 d9
                exact bodyPost_ret (v := .tuple #[.agg #[.int .i64 0, .int .u8 0, .int .u8 0, .int .u8 0, .int .u8 0, .int .u8 0, .int .u8 0, .int .u8 0, .int .u8 0, .int .u16 0], .int .i64 5]) (by simp [results, Tryz.results4, go_sem, d0, d1, d2, d3, d4, d5, d6, d7, d8, d9]) rfl ⟨0, [0, 0, 0, 0, 0, 0, 0, 0], 0, 5, rfl, b5, .inr ⟨HO.out, .inr ⟨NO, rfl, rfl, rfl, rfl⟩⟩⟩
              | true =>
                have YES := HYES1.out rfl
                have g0 := tt.cell 0; have g1 := tt.cell 1; have g2 := tt.cell 2; have g3 := tt.cell 3; have g4 := tt.cell 4; have g5 := tt.cell 5; have g6 := tt.cell 6; have g7 := tt.cell 7; have g8 := tt.cell 8; have g9 := tt.cell 9
                simp only [List.getElem?_cons_zero, List.getElem?_cons_succ] at g0 g1 g2 g3 g4 g5 g6 g7 g8 g9
                have c0 := r.cell 0; have c1 := r.cell 1; have c2 := r.cell 2; have c3 := r.cell 3; have c4 := r.cell 4; have c5 := r.cell 5; have c6 := r.cell 6; have c7 := r.cell 7; have c8 := r.cell 8; have c9 := r.cell 9
                simp only [List.getElem?_cons_zero, List.getElem?_cons_succ] at c0 c1 c2 c3 c4 c5 c6 c7 c8 c9
                have f0 := r.frozen 0; have f1 := r.frozen 1; have f2 := r.frozen 2; have f3 := r.frozen 3; have f4 := r.frozen 4; have f5 := r.frozen 5; have f6 := r.frozen 6; have f7 := r.frozen 7; have f8 := r.frozen 8; have f9 := r.frozen 9
                go_wp2_with fail
                have b5 := ((((((((((q.setCell (p := ⟨w.heap.size, 0, none⟩) (Nat.le_refl _) (.int .i64 nx)).setCell (p := ⟨w.heap.size, 1, none⟩) (Nat.le_refl _) (.int .u8 e0)).setCell (p := ⟨w.heap.size, 2, none⟩) (Nat.le_refl _) (.int .u8 e1)).setCell (p := ⟨w.heap.size, 3, none⟩) (Nat.le_refl _) (.int .u8 e2)).setCell (p := ⟨w.heap.size, 4, none⟩) (Nat.le_refl _) (.int .u8 e3)).setCell (p := ⟨w.heap.size, 5, none⟩) (Nat.le_refl _) (.int .u8 e4)).setCell (p := ⟨w.heap.size, 6, none⟩) (Nat.le_refl _) (.int .u8 e5)).setCell (p := ⟨w.heap.size, 7, none⟩) (Nat.le_refl _) (.int .u8 e6)).setCell (p := ⟨w.heap.size, 8, none⟩) (Nat.le_refl _) (.int .u8 e7)).setCell (p := ⟨w.heap.size, 9, none⟩) (Nat.le_refl _) (.int .u16 nz))
                have r5 := ((((((((((r.set 0 (.int .i64 nx)).set 1 (.int .u8 e0)).set 2 (.int .u8 e1)).set 3 (.int .u8 e2)).set 4 (.int .u8 e3)).set 5 (.int .u8 e4)).set 6 (.int .u8 e5)).set 7 (.int .u8 e6)).set 8 (.int .u8 e7)).set 9 (.int .u16 nz))
                simp only [List.set_cons_zero, List.set_cons_succ] at r5
                have d0 := r5.cell 0; have d1 := r5.cell 1; have d2 := r5.cell 2; have d3 := r5.cell 3; have d4 := r5.cell 4; have d5 := r5.cell 5; have d6 := r5.cell 6; have d7 := r5.cell 7; have d8 := r5.cell 8; have d9 := r5.cell 9
                simp only [List.getElem?_cons_zero, List.getElem?_cons_succ] at d0 d1 d2 d3 d4 d5 d6 d7 d8 d9
                exact bodyPost_ret (v := .tuple #[.agg #[.int .i64 nx, .int .u8 e0, .int .u8 e1, .int .u8 e2, .int .u8 e3, .int .u8 e4, .int .u8 e5, .int .u8 e6, .int .u8 e7, .int .u16 nz], .int .i64 0]) (by simp [results, Tryz.results4, go_sem, d0, d1, d2, d3, d4, d5, d6, d7, d8, d9]) rfl ⟨nx, [e0, e1, e2, e3, e4, e5, e6, e7], nz, 0, rfl, b5, .inr ⟨HO.out, .inl ⟨YES, rfl⟩⟩⟩
            · have NO : ¬ ∃ m es d, TkT zs l m es d := fun ⟨m, es, d, hk⟩ => by
                have a := (HNOT.out m es d hk).2.2.2.1
                have := CZ2.out.2
                omega
              have hzf : 65535 < nz := by omega
              have r := R3.out; have q := Q3.out
              have c0 := r.cell 0; have c1 := r.cell 1; have c2 := r.cell 2; have c3 := r.cell 3; have c4 := r.cell 4; have c5 := r.cell 5; have c6 := r.cell 6; have c7 := r.cell 7; have c8 := r.cell 8; have c9 := r.cell 9
              simp only [List.getElem?_cons_zero, List.getElem?_cons_succ] at c0 c1 c2 c3 c4 c5 c6 c7 c8 c9
              have f0 := r.frozen 0; have f1 := r.frozen 1; have f2 := r.frozen 2; have f3 := r.frozen 3; have f4 := r.frozen 4; have f5 := r.frozen 5; have f6 := r.frozen 6; have f7 := r.frozen 7; have f8 := r.frozen 8; have f9 := r.frozen 9
              go_wp2_with fail
              have b5 := ((((((((((q.setCell (p := ⟨w.heap.size, 0, none⟩) (Nat.le_refl _) (.int .i64 0)).setCell (p := ⟨w.heap.size, 1, none⟩) (Nat.le_refl _) (.int .u8 0)).setCell (p := ⟨w.heap.size, 2, none⟩) (Nat.le_refl _) (.int .u8 0)).setCell (p := ⟨w.heap.size, 3, none⟩) (Nat.le_refl _) (.int .u8 0)).setCell (p := ⟨w.heap.size, 4, none⟩) (Nat.le_refl _) (.int .u8 0)).setCell (p := ⟨w.heap.size, 5, none⟩) (Nat.le_refl _) (.int .u8 0)).setCell (p := ⟨w.heap.size, 6, none⟩) (Nat.le_refl _) (.int .u8 0)).setCell (p := ⟨w.heap.size, 7, none⟩) (Nat.le_refl _) (.int .u8 0)).setCell (p := ⟨w.heap.size, 8, none⟩) (Nat.le_refl _) (.int .u8 0)).setCell (p := ⟨w.heap.size, 9, none⟩) (Nat.le_refl _) (.int .u16 0))
              have r5 := ((((((((((r.set 0 (.int .i64 0)).set 1 (.int .u8 0)).set 2 (.int .u8 0)).set 3 (.int .u8 0)).set 4 (.int .u8 0)).set 5 (.int .u8 0)).set 6 (.int .u8 0)).set 7 (.int .u8 0)).set 8 (.int .u8 0)).set 9 (.int .u16 0))
              simp only [List.set_cons_zero, List.set_cons_succ] at r5
              have d0 := r5.cell 0; have d1 := r5.cell 1; have d2 := r5.cell 2; have d3 := r5.cell 3; have d4 := r5.cell 4; have d5 := r5.cell 5; have d6 := r5.cell 6; have d7 := r5.cell 7; have d8 := r5.cell 8; have d9 := r5.cell 9
              simp only [List.getElem?_cons_zero, List.getElem?_cons_succ] at d0 d1 d2 d3 d4 d5 d6 d7 d8 d9
              exact bodyPost_ret (v := .tuple #[.agg #[.int .i64 0, .int .u8 0, .int .u8 0, .int .u8 0, .int .u8 0, .int .u8 0, .int .u8 0, .int .u8 0, .int .u8 0, .int .u16 0], .int .i64 5]) (by simp [results, Tryz.results4, go_sem, d0, d1, d2, d3, d4, d5, d6, d7, d8, d9]) rfl ⟨0, [0, 0, 0, 0, 0, 0, 0, 0], 0, 5, rfl, b5, .inr ⟨HO.out, .inr ⟨NO, rfl, rfl, rfl, rfl⟩⟩⟩
    · have NO := HTH.out h3
      obtain ⟨k3, hk3⟩ : ∃ q, (spl 32 l).length = q := ⟨_, rfl⟩
      rw [hk3] at h3 ⊢
      have hq2 : ((k3 : Int) != 3) = true := by simp; omega
      have hq3 : ¬ (k3 : Int) = 3 := by omega
      have q := Q1.out
      clear hk3 h3 hcl HTH
      have c0 := r1.cell 0; have c1 := r1.cell 1; have c2 := r1.cell 2; have c3 := r1.cell 3; have c4 := r1.cell 4; have c5 := r1.cell 5; have c6 := r1.cell 6; have c7 := r1.cell 7; have c8 := r1.cell 8; have c9 := r1.cell 9
      simp only [List.getElem?_cons_zero, List.getElem?_cons_succ] at c0 c1 c2 c3 c4 c5 c6 c7 c8 c9
      have f0 := r1.frozen 0; have f1 := r1.frozen 1; have f2 := r1.frozen 2; have f3 := r1.frozen 3; have f4 := r1.frozen 4; have f5 := r1.frozen 5; have f6 := r1.frozen 6; have f7 := r1.frozen 7; have f8 := r1.frozen 8; have f9 := r1.frozen 9
      go_wp2_with fail
      have b5 := ((((((((((q.setCell (p := ⟨w.heap.size, 0, none⟩) (Nat.le_refl _) (.int .i64 0)).setCell (p := ⟨w.heap.size, 1, none⟩) (Nat.le_refl _) (.int .u8 0)).setCell (p := ⟨w.heap.size, 2, none⟩) (Nat.le_refl _) (.int .u8 0)).setCell (p := ⟨w.heap.size, 3, none⟩) (Nat.le_refl _) (.int .u8 0)).setCell (p := ⟨w.heap.size, 4, none⟩) (Nat.le_refl _) (.int .u8 0)).setCell (p := ⟨w.heap.size, 5, none⟩) (Nat.le_refl _) (.int .u8 0)).setCell (p := ⟨w.heap.size, 6, none⟩) (Nat.le_refl _) (.int .u8 0)).setCell (p := ⟨w.heap.size, 7, none⟩) (Nat.le_refl _) (.int .u8 0)).setCell (p := ⟨w.heap.size, 8, none⟩) (Nat.le_refl _) (.int .u8 0)).setCell (p := ⟨w.heap.size, 9, none⟩) (Nat.le_refl _) (.int .u16 0))
      have r5 := ((((((((((r1.set 0 (.int .i64 0)).set 1 (.int .u8 0)).set 2 (.int .u8 0)).set 3 (.int .u8 0)).set 4 (.int .u8 0)).set 5 (.int .u8 0)).set 6 (.int .u8 0)).set 7 (.int .u8 0)).set 8 (.int .u8 0)).set 9 (.int .u16 0))
      simp only [List.set_cons_zero, List.set_cons_succ] at r5
      have d0 := r5.cell 0; have d1 := r5.cell 1; have d2 := r5.cell 2; have d3 := r5.cell 3; have d4 := r5.cell 4; have d5 := r5.cell 5; have d6 := r5.cell 6; have d7 := r5.cell 7; have d8 := r5.cell 8; have d9 := r5.cell 9
      simp only [List.getElem?_cons_zero, List.getElem?_cons_succ] at d0 d1 d2 d3 d4 d5 d6 d7 d8 d9
      exact bodyPost_ret (v := .tuple #[.agg #[.int .i64 0, .int .u8 0, .int .u8 0, .int .u8 0, .int .u8 0, .int .u8 0, .int .u8 0, .int .u8 0, .int .u8 0, .int .u16 0], .int .i64 5]) (by simp [results, Tryz.results4, go_sem, d0, d1, d2, d3, d4, d5, d6, d7, d8, d9]) rfl ⟨0, [0, 0, 0, 0, 0, 0, 0, 0], 0, 5, rfl, b5, .inr ⟨HO.out, .inr ⟨NO, rfl, rfl, rfl, rfl⟩⟩⟩
end Go.Proofs.YtcbhlljgcndhdaaGreatDoor
