/- impl.ReadMotion. -/
import Derived.Test.YtklkdbfdejabiaaGreatDoorRmQ
namespace Go.Proofs.YtklkdbfdejabiaaGreatDoor
open Go.RowKit Go.Shelf
set_option linter.unusedVariables false
set_option linter.unusedSimpArgs false
theorem split_sizeM (sep : ByteArray) (save : Nat) : ∀ (k : Nat) (s p : ByteArray), p ∈ Lib.splitB sep save k s → p.size ≤ s.size
  | 0, s, p, h => by simp [Lib.splitB] at h; subst h; exact Nat.le_refl _
  | k + 1, s, p, h => by
    unfold Lib.splitB at h
    split at h
    · simp at h; subst h; exact Nat.le_refl _
    · simp only [List.mem_cons] at h
      rcases h with rfl | h
      · simp [ByteArray.size_extract]; omega
      · have := split_sizeM sep save k _ p h
        simp [ByteArray.size_extract] at this; omega
theorem rjJs_snoc {ps : List ByteArray} {k : Nat} {q : ByteArray} {a b : Int} (h : ps[k]? = some q) (hq : rjF q.data.toList = some (a, b)) : rjJs (ps.take (k + 1)) = rjJs (ps.take k) ++ [(a, b)] := by
  rw [List.take_add_one, h]
  simp [rjJs, hq]
set_option maxRecDepth 100000 in
set_option maxHeartbeats 4000000 in
theorem implReadMotion_any (t : ByteArray) (ht : t.size ≤ 1048576) (w : World) {tS tR : TypeId} {pS pR : Value} {mx : Int} (hL : LW w tS pS tR pR mx) : Calls Tryz.prog 5 #[.string t] w (MmR (mmR t.data.toList) w) := by
  obtain ⟨i0, hi0, iz0, iz1, iz2⟩ := info_parts Tryz.infoJoint
  obtain ⟨V0, hV0⟩ : ∃ V, V = w.alloc (.cells #[.slice none 0 0, .slice none 0 0] 26) := ⟨_, rfl⟩
  have R0 := hid (show Row V0 w.heap.size 26 [.slice none 0 0, .slice none 0 0] by rw [hV0]; exact Row.new w _ _)
  have b00 : Below w.heap.size w V0 := by rw [hV0]; exact resMo_bel w
  have B0 := hid b00
  have HV0 := hid hV0
  have HLW := hid (fun W (h : Below w.heap.size w W) => hL.below h (Nat.le_refl _))
  have HSP := hid (show Calls Tryz.prog 13 #[.string t, .string ⟨#[32]⟩, .int .i64 9] V0 fun e w' => e = .returned (.slice (some ⟨V0.heap.size, 0, none⟩) (wMo t).length (min 9 (t.size + 1))) ∧ w' = V0.alloc (.cells (Lib.cellsOf (wMo t) (min 9 (t.size + 1))) 9) from Tryz.strings_SplitN t ⟨#[32]⟩ 9 mx V0 (by omega) (hL.below b00 (Nat.le_refl _)).1.2.2.1 (by decide) (by omega) (by omega))
  have HSZ := hid (fun p (h : p ∈ wMo t) => Nat.le_trans (split_sizeM _ _ _ _ p h) ht)
  have h9 : (wMo t).length ≤ min 9 (t.size + 1) := by have := Lib.splitB_length_le ⟨#[32]⟩ 0 (min 9 (t.size + 1) - 1) t; unfold wMo; omega
  obtain ⟨p, qs, hps⟩ : ∃ p qs, wMo t = p :: qs := by
    cases hh : wMo t with
    | nil =>
      exfalso
      unfold wMo at hh
      cases hk : min 9 (t.size + 1) - 1 with
      | zero => rw [hk] at hh; simp [Lib.splitB] at hh
      | succ k => rw [hk] at hh; unfold Lib.splitB at hh; split at hh <;> simp at hh
    | cons p qs => exact ⟨p, qs, rfl⟩
  have hps0 : p.size ≤ t.size := split_sizeM _ _ _ _ p (show p ∈ wMo t by rw [hps]; simp)
  have HCP1 := hid (show stkR p.data.toList ≠ none → ¬ min 9 (t.size + 1) = 1 from fun h e => by
    have e0 : p.data.toList.length = p.size := by rw [Array.length_toList]; rfl
    have e1 : p.data.toList = [] := List.length_eq_zero_iff.1 (by omega)
    rw [e1] at h
    exact h (by decide))
  clear hps0
  have hfst := fun h => mmR_no (rm_first hps h)
  have hwrd := fun q hq h => mmR_no (rm_word (q := q) hps hq h)
  have hno := fun zs hz he => mmR_no (rm_no (zs := zs) hps hz he)
  have hyes := fun zs hz he => mmR_yes (rm_yes (zs := zs) hps hz he)
  have hdt : t.toList = t.data.toList := Lib.toList_data t
  obtain ⟨R, hR⟩ : ∃ R, mmR t.data.toList = R := ⟨_, rfl⟩
  obtain ⟨l, hl⟩ : ∃ l, t.data.toList = l := ⟨_, rfl⟩
  rw [hl] at hR
  rw [hl] at hfst hwrd hno hyes hdt ⊢
  rw [hR] at hfst hwrd hno hyes ⊢
  obtain ⟨cp, hcp⟩ : ∃ cp, min 9 (t.size + 1) = cp := ⟨_, rfl⟩
  rw [hps] at HSP HSZ h9
  rw [hcp] at HSP h9 HCP1
  obtain ⟨m, hm⟩ : ∃ m, qs.length = m := ⟨_, rfl⟩
  have hrow := Row.new V0 9 ((p :: qs).map Value.string ++ List.replicate (cp - (p :: qs).length) (Value.string ByteArray.empty))
  have hW : (V0.alloc (.cells ((p :: qs).map Value.string ++ List.replicate (cp - (p :: qs).length) (Value.string ByteArray.empty)).toArray 9)) = V0.alloc (.cells (Lib.cellsOf (p :: qs) cp) 9) := rfl
  rw [hW] at hrow
  have hcl : ∀ k x, (p :: qs)[k]? = some x → (V0.alloc (.cells (Lib.cellsOf (p :: qs) cp) 9)).cell? ⟨V0.heap.size, k, none⟩ = some (.string x) := fun k x h => by
    have hk : k < (p :: qs).length := by
      by_cases c : k < (p :: qs).length
      · exact c
      · rw [List.getElem?_eq_none (by omega)] at h; cases h
    rw [hrow.cell k, List.getElem?_append_left (by simpa using hk), List.getElem?_map, h]
    rfl
  have hlt := hrow.lt
  have hB1 : Below V0.heap.size V0 (V0.alloc (.cells (Lib.cellsOf (p :: qs) cp) 9)) := (Below.refl _ _).alloc (Nat.le_refl _) _
  have hm9 : m + 1 ≤ cp ∧ cp ≤ 9 := by simp only [List.length_cons] at h9; omega
  have HFST := hid hfst; have HWRD := hid hwrd; have HNO := hid hno; have HYES := hid hyes; have HDT := hid hdt; have HM := hid hm
  simp only [List.length_cons, hm] at HSP
  obtain ⟨hm1, hm2⟩ := hm9
  have cpi : (m : Int) + 1 ≤ (cp : Int) := by omega
  have m0 : (0 : Int) < (m : Int) + 1 := by omega
  have m00 : (0 : Int) ≤ (m : Int) := by omega
  have mc1 : (1 : Int) ≤ (cp : Int) := by omega
  have mc2 : (1 : Int) ≤ (m : Int) + 1 := by omega
  obtain ⟨W1, hW1⟩ : ∃ X, X = V0.alloc (.cells (Lib.cellsOf (p :: qs) cp) 9) := ⟨_, rfl⟩
  rw [← hW1] at HSP hcl hlt hB1
  have HCL := hid hcl; have HGZ := hid hlt
  have R1 := hid (R0.out.below hB1 R0.out.lt)
  have B1 := hid (B0.out.trans (hB1.mono B0.out.size))
  have HRS := hid (fun W hW => implReadStack_any p (HSZ.out p (by simp)) W (HLW.out W hW))
  obtain ⟨g, hg⟩ : ∃ g, V0.heap.size = g := ⟨_, rfl⟩
  rw [hg] at HSP
  have HG := hid hg
  have cell0 : W1.cell? ⟨g, 0, none⟩ = some (.string p) := by rw [← hg]; exact hcl 0 p rfl
  clear hfst hwrd hno hyes hdt hR hps hl ht hV0 hm hcl hlt hB1 hrow hW h9 hcp hL hW1 b00 hg
  unfold MmR
  cases hst : stkR p.data.toList with
  | none =>
    have HBADR := hid (HFST.out hst)
    rw [rsR_no2 hst] at HRS
    clear hst
    go_enter Tryz.func5, Tryz.ntmps5
    go_wp2_with fail
    rw [← HV0.out]
    refine HSP.out.mono ?_
    rintro e w1 ⟨rfl, hw⟩
    subst hw
    clear HSP
    go_wp2_with fail
    refine (HRS.out _ B1.out).mono ?_
    rintro e w2 ⟨vS, rfl, -, hB⟩
    have B2 := hid (B1.out.trans (hB.mono B1.out.size))
    have R2 := hid (R1.out.below hB R1.out.lt)
    clear hB cell0
    have r9 := R2.out
    have c90 := r9.cell 0; have c91 := r9.cell 1; have f90 := r9.frozen 0; have f91 := r9.frozen 1
    simp only [List.getElem?_cons_zero, List.getElem?_cons_succ] at c90 c91
    have s9 := (r9.set 0 (.slice none 0 0)).set 1 (.slice none 0 0)
    have d0 := s9.cell 0; have d1 := s9.cell 1
    simp only [List.set_cons_zero, List.set_cons_succ, List.getElem?_cons_zero, List.getElem?_cons_succ] at d0 d1
    have D0 := hid d0; have D1 := hid d1
    have HB9 := hid ((B2.out.setCell (p := ⟨w.heap.size, 0, none⟩) (Nat.le_refl _) (.slice none 0 0)).setCell (p := ⟨w.heap.size, 1, none⟩) (Nat.le_refl _) (.slice none 0 0))
    have DX := D0
    clear d0 d1 r9 s9
    go_wp2_with fail
    first | exact bodyPost_ret (v := .tuple #[.agg #[.slice none 0 0, .slice none 0 0], .int .i64 5]) (by simp [results, Tryz.results4, go_sem, D0.out, D1.out]) rfl ⟨_, _, by rw [HBADR.out], by rw [HBADR.out]; exact OwnB.nil _ _ _ _, by rw [HBADR.out]; exact OwnJ.nil _ _ _ _, HB9.out⟩ | exact bodyPost_ret (v := .tuple #[.agg #[.slice none 0 0, .slice none 0 0], .int .i64 5]) (by simp [results, Tryz.results4, go_sem, D0.out, D1.out, DX.out]) rfl ⟨_, _, by rw [HBADR.out], by rw [HBADR.out]; exact OwnB.nil _ _ _ _, by rw [HBADR.out]; exact OwnJ.nil _ _ _ _, HB9.out.alloc (by simpa using HB9.out.size) _⟩
  | some zs =>
    have ncp : ¬ cp = 1 := HCP1.out (by rw [hst]; simp)
    obtain ⟨hok, htx, _, _⟩ := stkR_text hst
    obtain ⟨z1, z8, zz⟩ := okL_mem hok
    have HNZ := hid (HNO.out zs hst); have HYZ := hid (HYES.out zs hst)
    rw [rsR_yes2 hst] at HRS
    have HZ1 := hid z1; have HZZ := hid zz; have HZ8 := hid z8
    clear hst hok htx z1 zz z8
    go_enter Tryz.func5, Tryz.ntmps5
    go_wp2_with fail
    rw [← HV0.out]
    refine HSP.out.mono ?_
    rintro e w1 ⟨rfl, hw⟩
    subst hw
    clear HSP
    go_wp2_with fail
    refine (HRS.out _ B1.out).mono ?_
    rintro e w2 ⟨vS, rfl, hOS, hB⟩
    have hOS' : OwnB w2 w1.heap.size vS zs := hOS
    obtain ⟨gS, cS, rfl, hgS, hStk⟩ := hOS'.stk HZ1.out (fun z hz => by have := HZZ.out z hz; omega) (by have := HZ8.out; omega)
    have OS2 := hid hOS'; have ST2 := hid hStk; have C2 := hid hB
    have B2 := hid (B1.out.trans (hB.mono B1.out.size))
    have R2 := hid (R1.out.below hB R1.out.lt)
    clear hB cell0 hOS hOS' hStk
    obtain ⟨zn, hzn⟩ : ∃ zn, zs.length = zn := ⟨_, rfl⟩
    rw [hzn]
    have HZN := hid hzn
    clear hzn
    obtain ⟨V2, hV2⟩ : ∃ V, V = w2.alloc (.cells #[.slice (some ⟨gS, 0, none⟩) zn cS, .slice none 0 0] 26) := ⟨_, rfl⟩
    have r7 : Row V2 w2.heap.size 26 [.slice (some ⟨gS, 0, none⟩) zn cS, .slice none 0 0] := by rw [hV2]; exact Row.new w2 _ _
    have b7 : Below w2.heap.size w2 V2 := by rw [hV2]; exact boxMo_bel w2 _ _
    have s7 : V2.heap.size = w2.heap.size + 1 := by rw [hV2]; simp
    have R7 := hid r7; have B7 := hid b7; have S7 := hid s7; have HV2 := hid hV2
    clear r7 b7 s7 hV2
    go_upto_region 6 with fail
    rw [← HV2.out]
    go_wp2_with fail
    go_loopw [29] (fun i wr => ∃ (c : Nat) (v : Value), c ≤ m ∧ i = .int .i64 c ∧ Row wr w2.heap.size 26 [.slice (some ⟨gS, 0, none⟩) zn cS, v] ∧ wr.ownsRow (w2.heap.size + 1) 39 2 v c (jvals (rjJs (qs.take c))) ∧ Below w2.heap.size w2 wr) (fun i _ => m - (intOf i).toNat)
    case atStart => exact ⟨0, _, Nat.zero_le _, rfl, R7.out, ⟨rfl, .inl ⟨rfl, rfl⟩⟩, B7.out⟩
    case round =>
      obtain ⟨c, v, cb, rfl, hRw, hO, hB⟩ := hrel
      have HO := hid hO; have HB := hid hB; have RW := hid hRw
      have R3 := hid (R2.out.below hB R2.out.lt)
      have B3 := hid (B2.out.trans (hB.mono B2.out.size))
      by_cases hcm : c < m
      · have c1 : (c : Int) < (m : Int) := by omega
        have c0 : (0 : Int) ≤ (c : Int) := by omega
        have wc : IntKind.i64.wrap ((c : Int) + 1) = (c : Int) + 1 := IntWalk.i64_in _ (by omega)
        have hk : c < qs.length := by have := HM.out; omega
        have hqk : qs[c]? = some qs[c] := List.getElem?_eq_getElem hk
        obtain ⟨q, hq⟩ : ∃ q, qs[c] = q := ⟨_, rfl⟩
        rw [hq] at hqk
        have hqm : q ∈ qs := List.mem_of_getElem? hqk
        have hcell : wr.cell? ⟨g, 1 + c, none⟩ = some (.string q) := by
          have e1 := HCL.out (1 + c) q (by rw [Nat.add_comm, List.getElem?_cons_succ]; exact hqk)
          have e2 := (hB.cell (p := ⟨V0.heap.size, 1 + c, none⟩) (Nat.lt_of_lt_of_le HGZ.out C2.out.size)).trans ((C2.out.cell (p := ⟨V0.heap.size, 1 + c, none⟩) HGZ.out).trans e1)
          rw [HG.out] at e2
          exact e2
        have hcell' : wr.cell? ⟨g, c + 1, none⟩ = some (.string q) := by rw [Nat.add_comm]; exact hcell
        have HJ := hid (implJoint_any q (HSZ.out q (by simp [hqm])) wr (HLW.out wr B3.out).1)
        have HQM := hid (HWRD.out q hqm)
        have HQK := hid hqk
        clear hO hB hRw hqk hq hqm hk
        cases hmw : rjF q.data.toList with
        | none =>
          have HBADR := hid (HQM.out hmw)
          rw [hmw] at HJ
          clear hmw
          go_wp2_with fail
          refine HJ.out.mono ?_
          rintro e w3 ⟨kk, ff, rfl, -, hB⟩
          have B4 := hid (B3.out.trans (hB.mono B3.out.size))
          have R4 := hid (R3.out.below hB R3.out.lt)
          clear hB hcell hcell'
          have r9 := (R4.out.alloc (.cells #[.int .i8 kk, .int .i16 ff] 39))
          have c90 := r9.cell 0; have c91 := r9.cell 1; have f90 := r9.frozen 0; have f91 := r9.frozen 1
          simp only [List.getElem?_cons_zero, List.getElem?_cons_succ] at c90 c91
          have s9 := (r9.set 0 (.slice none 0 0)).set 1 (.slice none 0 0)
          have d0 := s9.cell 0; have d1 := s9.cell 1
          simp only [List.set_cons_zero, List.set_cons_succ, List.getElem?_cons_zero, List.getElem?_cons_succ] at d0 d1
          have D0 := hid d0; have D1 := hid d1
          have HB9 := hid (((B4.out.alloc B4.out.size (.cells #[.int .i8 kk, .int .i16 ff] 39)).setCell (p := ⟨w.heap.size, 0, none⟩) (Nat.le_refl _) (.slice none 0 0)).setCell (p := ⟨w.heap.size, 1, none⟩) (Nat.le_refl _) (.slice none 0 0))
          have DX := D0
          clear d0 d1 r9 s9
          go_wp2_with fail
          first | exact bodyPost_ret (v := .tuple #[.agg #[.slice none 0 0, .slice none 0 0], .int .i64 5]) (by simp [results, Tryz.results4, go_sem, D0.out, D1.out]) rfl ⟨_, _, by rw [HBADR.out], by rw [HBADR.out]; exact OwnB.nil _ _ _ _, by rw [HBADR.out]; exact OwnJ.nil _ _ _ _, HB9.out⟩ | exact bodyPost_ret (v := .tuple #[.agg #[.slice none 0 0, .slice none 0 0], .int .i64 5]) (by simp [results, Tryz.results4, go_sem, D0.out, D1.out, DX.out]) rfl ⟨_, _, by rw [HBADR.out], by rw [HBADR.out]; exact OwnB.nil _ _ _ _, by rw [HBADR.out]; exact OwnJ.nil _ _ _ _, HB9.out.alloc (by simpa using HB9.out.size) _⟩
        | some ab =>
          obtain ⟨a, b⟩ := ab
          have HSN := hid (rjJs_snoc HQK.out hmw)
          rw [hmw] at HJ
          clear hmw
          go_wp2_with fail
          refine HJ.out.mono ?_
          rintro e w3 ⟨kk, ff, rfl, hab, hB⟩
          obtain ⟨rfl, rfl⟩ := hab a b rfl
          obtain ⟨W, hW⟩ : ∃ X, X = w3.alloc (.cells #[.int .i8 kk, .int .i16 ff] 39) := ⟨_, rfl⟩
          have rwW : Row W w2.heap.size 26 [.slice (some ⟨gS, 0, none⟩) zn cS, v] := by rw [hW]; exact (RW.out.below hB RW.out.lt).alloc _
          have hbW : Below w2.heap.size w2 W := by rw [hW]; exact (HB.out.trans (hB.mono HB.out.size)).alloc (HB.out.trans (hB.mono HB.out.size)).size _
          have hoW := (owns_belowP HO.out hB).alloc (.cells #[.int .i8 kk, .int .i16 ff] 39)
          rw [← hW] at hoW
          have newW : Row W w3.heap.size 39 [.int .i8 kk, .int .i16 ff] := by rw [hW]; exact Row.new w3 _ _
          have HW := hid hW
          have RW4 := hid (rwW.alloc (.cells #[.int .i8 kk, .int .i16 ff] 39))
          have HB4 := hid (hbW.alloc hbW.size (.cells #[.int .i8 kk, .int .i16 ff] 39))
          have HO4 := hid (hoW.alloc (.cells #[.int .i8 kk, .int .i16 ff] 39))
          have q0 := rwW.cell 0; have q1 := rwW.cell 1
          simp only [List.getElem?_cons_zero, List.getElem?_cons_succ] at q0 q1
          have n0 := newW.cell 0; have n1 := newW.cell 1
          simp only [List.getElem?_cons_zero, List.getElem?_cons_succ] at n0 n1
          have news := Row.new W 39 [.int .i8 kk, .int .i16 ff]
          have nc := hid (show ∀ j u, ([.int .i8 kk, .int .i16 ff] : List Value)[j]? = some u → (W.alloc (.cells #[.int .i8 kk, .int .i16 ff] 39)).cell? ((⟨W.heap.size, 0, none⟩ : Addr).add j) = some u from fun j u hj => by
            rw [show (⟨W.heap.size, 0, none⟩ : Addr).add j = ⟨W.heap.size, j, none⟩ from by unfold Addr.add; split <;> simp_all]
            exact (news.cell j).trans hj)
          have HONE := hid (show ∀ u ∈ ([.int .i8 kk, .int .i16 ff] : List Value), u.oneCell' = true from by intro u hu; simp at hu; rcases hu with rfl | rfl <;> rfl)
          have HBW := hid (show w2.heap.size + 1 ≤ (W.alloc (.cells #[.int .i8 kk, .int .i16 ff] 39)).heap.size by have := RW4.out.lt; omega)
          clear hW rwW hbW hoW newW
          clear hB hcell hcell' news hab
          go_upto_region 10 with fail
          rw [← HW.out]
          go_wp2_with (at_builtin; refine wpList_append_own _ rfl _ _ 24 rfl (w2.heap.size + 1) 39 i0 (.agg #[.int .i8 0, .int .i16 0]) 2 4 Tryz.underlying24 hi0 iz0 iz1 iz2 rfl (by decide) _ _ _ rfl HO4.out ⟨W.heap.size, 0, none⟩ 1 1 ([.int .i8 kk, .int .i16 ff] : List Value) rfl rfl nc.out HONE.out (by unfold maxLen; omega) (by omega) HBW.out ?_; rintro v' w7 hown' hgrow -; obtain ⟨gN, cN, rfl⟩ : ∃ g cp, v' = .slice (some ⟨g, 0, none⟩) (c + 1) cp := own_addr hown' (by omega); have bel := (Below.refl (w2.heap.size + 1) (W.alloc (.cells #[.int .i8 kk, .int .i16 ff] 39))).grown hgrow HBW.out (fun kk e => by have := (HO4.out.lt kk e).1; omega); have r7 := RW4.out.below bel (by omega); have c70 := r7.cell 0; have c71 := r7.cell 1; have f71 := r7.frozen 1; simp only [List.getElem?_cons_zero, List.getElem?_cons_succ] at c70 c71; have R77 := hid r7; have BEL := hid bel; have OWN := hid hown'; clear hown' hgrow bel r7 q0 q1 n0 n1)
          have OW := owns_set OWN.out (a := ⟨w2.heap.size, 1, none⟩) (Nat.lt_succ_self _) (.slice (some ⟨gN, 0, none⟩) (c + 1) cN)
          rw [show jvals (rjJs (qs.take c)) ++ [.int .i8 kk, .int .i16 ff] = jvals (rjJs (qs.take (c + 1))) from by rw [HSN.out, jvals_snoc]] at OW
          have HOW := hid OW
          have RR := hid (R77.out.set 1 (.slice (some ⟨gN, 0, none⟩) (c + 1) cN))
          have HBE := hid ((HB4.out.trans (BEL.out.mono (by omega))).setCell (p := ⟨w2.heap.size, 1, none⟩) (Nat.le_refl _) (.slice (some ⟨gN, 0, none⟩) (c + 1) cN))
          clear OW c70 c71 f71
          go_wp2_with fail
          go_roundw
          case rel => exact ⟨c + 1, _, by omega, by go_num, RR.out, HOW.out, HBE.out⟩
          case measure => simp [intOf]; omega
      · obtain rfl : c = m := by omega
        have c1 : ¬ (c : Int) < (c : Int) := by omega
        rw [List.take_of_length_le (by rw [HM.out]; exact Nat.le_refl _)] at hO
        have hjl : (rjJs qs).length ≤ 1048576 := by rw [rjJs_len, HM.out]; omega
        obtain ⟨aJ, gJ, cJ, rfl, hJ0, hJst⟩ := own_jstN (gS := gS) hO hjl (by have := ST2.out.1; have := hB.size; omega)
        have hlw := HLW.out wr B3.out
        have HTT := hid (implMTTN_any aJ gS zn cS gJ c cJ zs (rjJs qs) wr (ST2.out.below hB ST2.out.1) hJst HZN.out.symm ((rjJs_len qs).trans HM.out).symm hJ0 hlw.2.1 hlw.2.2)
        have HOJ := hid ((OwnJ.of hO hjl).lowb (show w.heap.size ≤ w2.heap.size + 1 by have := B2.out.size; omega))
        have HOS := hid ((OS2.out.keep hB).lowb B1.out.size)
        rw [HZN.out] at HOS
        have q0 := hRw.cell 0; have q1 := hRw.cell 1
        simp only [List.getElem?_cons_zero, List.getElem?_cons_succ] at q0 q1
        by_cases htx : mtR zs (rjJs qs) = l
        · have HGOOD := hid (HYZ.out htx)
          have heq : ((⟨(mtR zs (rjJs qs)).toArray⟩ : ByteArray).toList == t.toList) = true := by rw [Lib.toList_data, HDT.out, htx]; simp
          have heq2 : ((⟨(mtR zs (rjJs qs)).toArray⟩ : ByteArray).toList != t.toList) = false := by rw [bne, heq]; rfl
          obtain ⟨T, hT⟩ : ∃ T, (⟨(mtR zs (rjJs qs)).toArray⟩ : ByteArray) = T := ⟨_, rfl⟩
          rw [hT] at heq heq2 HTT
          clear hO hB hRw hjl hJst hJ0 hlw htx hT
          go_wp2_with fail
          refine HTT.out.mono ?_
          rintro e w8 ⟨rfl, hB8⟩
          clear q0 q1
          have B8 := hid (B3.out.trans (hB8.mono B3.out.size))
          have R8 := hid (R3.out.below hB8 R3.out.lt)
          have x8 := RW.out.below hB8 RW.out.lt
          have q0 := x8.cell 0; have q1 := x8.cell 1
          simp only [List.getElem?_cons_zero, List.getElem?_cons_succ] at q0 q1
          have OS8 := hid (HOS.out.keep hB8)
          have OJ8 := hid (HOJ.out.keep hB8)
          clear hB8 x8
          have r9 := R8.out
          have c90 := r9.cell 0; have c91 := r9.cell 1; have f90 := r9.frozen 0; have f91 := r9.frozen 1
          simp only [List.getElem?_cons_zero, List.getElem?_cons_succ] at c90 c91
          have s9 := (r9.set 0 (.slice (some ⟨gS, 0, none⟩) zn cS)).set 1 (.slice aJ c cJ)
          have d0 := s9.cell 0; have d1 := s9.cell 1
          simp only [List.set_cons_zero, List.set_cons_succ, List.getElem?_cons_zero, List.getElem?_cons_succ] at d0 d1
          have D0 := hid d0; have D1 := hid d1
          have HB9 := hid ((B8.out.setCell (p := ⟨w.heap.size, 0, none⟩) (Nat.le_refl _) (.slice (some ⟨gS, 0, none⟩) zn cS)).setCell (p := ⟨w.heap.size, 1, none⟩) (Nat.le_refl _) (.slice aJ c cJ))
          have OS9 := hid (OS8.out.rows (fun q xs hr => row_other (r9.set 0 (.slice (some ⟨gS, 0, none⟩) zn cS)) (row_other r9 hr (by decide) 0 (.slice (some ⟨gS, 0, none⟩) zn cS)) (by decide) 1 (.slice aJ c cJ)))
          have OJ9 := hid (OJ8.out.rows (fun q xs hr => row_other (r9.set 0 (.slice (some ⟨gS, 0, none⟩) zn cS)) (row_other r9 hr (by decide) 0 (.slice (some ⟨gS, 0, none⟩) zn cS)) (by decide) 1 (.slice aJ c cJ)))
          clear d0 d1 r9 s9
          go_wp2_with fail
          exact bodyPost_ret (v := .tuple #[.agg #[.slice (some ⟨gS, 0, none⟩) zn cS, .slice aJ c cJ], .int .i64 0]) (by simp [results, Tryz.results4, go_sem, D0.out, D1.out]) rfl ⟨_, _, by rw [HGOOD.out], by rw [HGOOD.out]; exact OS9.out, by rw [HGOOD.out]; exact OJ9.out, HB9.out⟩
        · have HBADR := hid (HNZ.out htx)
          have heq : ((⟨(mtR zs (rjJs qs)).toArray⟩ : ByteArray).toList == t.toList) = false := by rw [Lib.toList_data, HDT.out]; simpa using htx
          have heq2 : ((⟨(mtR zs (rjJs qs)).toArray⟩ : ByteArray).toList != t.toList) = true := by rw [bne, heq]; rfl
          have heq3 : ¬ (⟨(mtR zs (rjJs qs)).toArray⟩ : ByteArray).toList = t.toList := by simpa using heq
          obtain ⟨T, hT⟩ : ∃ T, (⟨(mtR zs (rjJs qs)).toArray⟩ : ByteArray) = T := ⟨_, rfl⟩
          rw [hT] at heq heq2 heq3 HTT
          clear hO hB hRw hjl hJst hJ0 hlw htx hT
          go_wp2_with fail
          refine HTT.out.mono ?_
          rintro e w8 ⟨rfl, hB8⟩
          clear q0 q1
          have B8 := hid (B3.out.trans (hB8.mono B3.out.size))
          have R8 := hid (R3.out.below hB8 R3.out.lt)
          clear hB8
          have r9 := R8.out
          have c90 := r9.cell 0; have c91 := r9.cell 1; have f90 := r9.frozen 0; have f91 := r9.frozen 1
          simp only [List.getElem?_cons_zero, List.getElem?_cons_succ] at c90 c91
          have s9 := (r9.set 0 (.slice none 0 0)).set 1 (.slice none 0 0)
          have d0 := s9.cell 0; have d1 := s9.cell 1
          simp only [List.set_cons_zero, List.set_cons_succ, List.getElem?_cons_zero, List.getElem?_cons_succ] at d0 d1
          have D0 := hid d0; have D1 := hid d1
          have HB9 := hid ((B8.out.setCell (p := ⟨w.heap.size, 0, none⟩) (Nat.le_refl _) (.slice none 0 0)).setCell (p := ⟨w.heap.size, 1, none⟩) (Nat.le_refl _) (.slice none 0 0))
          have DX := D0
          clear d0 d1 r9 s9
          go_wp2_with fail
          first | exact bodyPost_ret (v := .tuple #[.agg #[.slice none 0 0, .slice none 0 0], .int .i64 5]) (by simp [results, Tryz.results4, go_sem, D0.out, D1.out]) rfl ⟨_, _, by rw [HBADR.out], by rw [HBADR.out]; exact OwnB.nil _ _ _ _, by rw [HBADR.out]; exact OwnJ.nil _ _ _ _, HB9.out⟩ | exact bodyPost_ret (v := .tuple #[.agg #[.slice none 0 0, .slice none 0 0], .int .i64 5]) (by simp [results, Tryz.results4, go_sem, D0.out, D1.out, DX.out]) rfl ⟨_, _, by rw [HBADR.out], by rw [HBADR.out]; exact OwnB.nil _ _ _ _, by rw [HBADR.out]; exact OwnJ.nil _ _ _ _, HB9.out.alloc (by simpa using HB9.out.size) _⟩
end Go.Proofs.YtklkdbfdejabiaaGreatDoor
