/- spec.ReadMotion. -/
import Derived.Test.YtklkdbfdejabiaaGreatDoorRmW
import Derived.Test.YtklkdbfdejabiaaGreatDoorRmN
import Derived.Test.YtklkdbfdejabiaaGreatDoorRmX
namespace Go.Proofs.YtklkdbfdejabiaaGreatDoor
open Go.RowKit Go.Shelf
set_option linter.unusedVariables false
set_option linter.unusedSimpArgs false
def MmR (r : (List Int × List (Int × Int)) × Int) (w : World) (e : Ending) (w' : World) : Prop := ∃ v1 v2, e = .returned (.tuple #[.agg #[v1, v2], .int .i64 r.2]) ∧ OwnB w' w.heap.size v1 r.1.1 ∧ OwnJ w' w.heap.size v2 r.1.2 ∧ Below w.heap.size w w'
def mmR (l : List UInt8) : (List Int × List (Int × Int)) × Int := match moR l with | some r => (r, 0) | none => (([], []), 5)
theorem mmR_no {l : List UInt8} (h : moR l = none) : mmR l = (([], []), 5) := by simp [mmR, h]
theorem mmR_yes {l : List UInt8} {r : List Int × List (Int × Int)} (h : moR l = some r) : mmR l = (r, 0) := by simp [mmR, h]
theorem rsR_no2 {l : List UInt8} (h : stkR l = none) : rsR l = ([], 5) := by simp [rsR, h]
theorem rsR_yes2 {l : List UInt8} {zs : List Int} (h : stkR l = some zs) : rsR l = (zs, 0) := by simp [rsR, h]
theorem row_other {W : World} {B q : Nat} {T U : TypeId} {xs ys : List Value} (r : Row W B T xs) (h : Row W q U ys) (hne : U ≠ T) (j : Nat) (a : Value) : Row (W.setCell ⟨B, j, none⟩ a) q U ys :=
  (Below.heap_setCell W ⟨B, j, none⟩ a q (fun e => hne (row_type h (show Row W q T xs from by rw [show q = B from e]; exact r)))).trans h
theorem OwnB.stk {w : World} {base : Nat} {v : Value} {zs : List Int} (h : OwnB w base v zs) (hn : 1 ≤ zs.length) (hz : ∀ z ∈ zs, 0 ≤ z ∧ z ≤ 255) (hl : zs.length ≤ 1048576) : ∃ g cp, v = .slice (some ⟨g, 0, none⟩) zs.length cp ∧ base ≤ g ∧ Stk w g zs := by
  obtain ⟨a, cap, h1, h2, h3⟩ := h
  rcases h3 with h0 | ⟨g, rest, e, hg, hr⟩
  · subst h0; simp at hn
  · subst e
    exact ⟨g, cap, h1, hg, hr.lt, fun j hj => OwnB.cell hr j hj, hz, hl⟩
theorem own_jstN {w : World} {base n gS : Nat} {v : Value} {js : List (Int × Int)} (h : w.ownsRow base 39 2 v n (jvals js)) (hl : js.length ≤ 1048576) (hS : gS < w.heap.size) : ∃ aJ gJ cp, v = .slice aJ n cp ∧ (n = 0 ∨ aJ = some ⟨gJ, 0, none⟩) ∧ Jst w gJ js := by
  by_cases hn : 1 ≤ n
  · obtain ⟨g, cp, e, _, hJ⟩ := owns_jst h hn hl
    exact ⟨_, g, cp, e, .inr rfl, hJ⟩
  · have hlen : js.length = 0 := by have := h.1; rw [jvals_len] at this; omega
    have hn0 : n = 0 := by omega
    subst hn0
    rcases h.2 with ⟨rfl, h0⟩ | ⟨g, cap, cur, rfl, h2, h3, h4, h5, h6, h7⟩
    · exact ⟨none, gS, 0, rfl, .inl rfl, hS, fun j hj => by omega, hl⟩
    · exact ⟨_, gS, cap, rfl, .inl rfl, hS, fun j hj => by omega, hl⟩
theorem moJs_bd {ps : List (List UInt8)} (h : ps.all isM = true) : ∀ j, j < (moJs ps).length → (-128 ≤ jk (moJs ps) j ∧ jk (moJs ps) j ≤ 127) ∧ (-32768 ≤ jf (moJs ps) j ∧ jf (moJs ps) j ≤ 32767) := fun j hj => by
  rw [moJs_len] at hj
  have hs : (moW ps[j]).isSome = true := List.all_eq_true.1 h _ (List.getElem_mem hj)
  obtain ⟨⟨a, b⟩, hab⟩ := Option.isSome_iff_exists.1 hs
  have e : (moJs ps)[j]? = some (a, b) := by rw [moJs, List.getElem?_map, List.getElem?_eq_getElem hj]; simp only [Option.map_some]; rw [hab]; rfl
  have := okJ_out (moW_out hab).1
  unfold jk jf
  rw [e]
  simp only [Option.getD_some]
  omega
theorem moJs_snoc {ps : List (List UInt8)} {k : Nat} {q : List UInt8} {a b : Int} (h : ps[k]? = some q) (hq : moW q = some (a, b)) : moJs (ps.take (k + 1)) = moJs (ps.take k) ++ [(a, b)] := by
  rw [List.take_add_one, h]
  simp [moJs, hq]
theorem isM_snoc {ps : List (List UInt8)} {k : Nat} {q : List UInt8} {a b : Int} (h : ps[k]? = some q) (hq : moW q = some (a, b)) (ha : (ps.take k).all isM = true) : (ps.take (k + 1)).all isM = true := by
  rw [List.take_add_one, h, List.all_append, ha]
  simp [isM, hq]
theorem OwnJ.of {w : World} {base n : Nat} {v : Value} {js : List (Int × Int)} (h : w.ownsRow base 39 2 v n (jvals js)) (hl : js.length ≤ 1048576) : OwnJ w base v js := OwnJ.of_owns h hl
theorem own_addr {w : World} {base size n : Nat} {e : TypeId} {v : Value} {xs : List Value} (h : w.ownsRow base e size v n xs) (hn : 1 ≤ n) : ∃ g cp, v = .slice (some ⟨g, 0, none⟩) n cp := by
  rcases h.2 with ⟨_, h0⟩ | ⟨g, cap, cur, h2, _⟩
  · omega
  · exact ⟨g, cap, h2⟩
theorem resMo_bel (w : World) : Below w.heap.size w (w.alloc (.cells #[.slice none 0 0, .slice none 0 0] 26)) := (Below.refl _ w).alloc (Nat.le_refl _) _
set_option maxRecDepth 100000 in
set_option maxHeartbeats 4000000 in
theorem specReadMotion_any (t : ByteArray) (ht : t.size ≤ 1048576) (w : World) : Calls Tryz.prog 4 #[.string t] w (MmR (mmR t.data.toList) w) := by
  obtain ⟨i0, hi0, iz0, iz1, iz2⟩ := info_parts Tryz.infoJoint
  obtain ⟨V0, hV0⟩ : ∃ V, V = w.alloc (.cells #[.slice none 0 0, .slice none 0 0] 26) := ⟨_, rfl⟩
  have R0 := hid (show Row V0 w.heap.size 26 [.slice none 0 0, .slice none 0 0] by rw [hV0]; exact Row.new w _ _)
  have B0 := hid (show Below w.heap.size w V0 by rw [hV0]; exact resMo_bel w)
  have HV0 := hid hV0
  have HSP := hid (l01Split_any t ht 32 32 (by decide) V0)
  have hsz : t.size = t.data.toList.length := by rw [Array.length_toList]; rfl
  obtain ⟨l, hl⟩ : ∃ l, t.data.toList = l := ⟨_, rfl⟩
  rw [hl] at HSP hsz ⊢
  have hsum := spl_sum 32 l
  have hml := fun p hp => spl_mem_len (c := 32) (l := l) (p := p) hp
  obtain ⟨p, qs, hps⟩ : ∃ p qs, spl 32 l = p :: qs := by
    cases hh : spl 32 l with
    | nil => exact absurd hh (spl_ne 32 l)
    | cons p qs => exact ⟨p, qs, rfl⟩
  have hfst := fun h => mmR_no (moR_bad hps h)
  have hwrd := fun q hq h => mmR_no (moR_word (q := q) hps hq h)
  have hyes := fun zs h ha => moR_yes (zs := zs) hps h ha
  have hmm : ∀ zs, stkR p = some zs → qs.all isM = true → mmR l = if okM zs (moJs qs) then ((zs, moJs qs), 0) else (([], []), 5) := fun zs h ha => by
    have e := hyes zs h ha
    by_cases c : okM zs (moJs qs) = true
    · rw [if_pos c] at e ⊢; exact mmR_yes e
    · rw [if_neg c] at e ⊢; exact mmR_no e
  obtain ⟨R, hR⟩ : ∃ R, mmR l = R := ⟨_, rfl⟩
  rw [hps] at HSP hsum hml
  rw [hR] at hfst hwrd hmm ⊢
  have hql : qs.length ≤ 1048576 := by simp only [List.length_cons] at hsum; omega
  have hpl : ∀ x ∈ p :: qs, (⟨x.toArray⟩ : ByteArray).size ≤ 1048576 := fun x hx => by
    show x.toArray.size ≤ _
    have := hml x hx
    simp
    omega
  have HFST := hid hfst; have HWRD := hid hwrd; have HMM := hid hmm; have HPL := hid hpl; have HQL := hid hql
  have HRS := hid (fun W => specReadStack_any ⟨p.toArray⟩ (hpl p (by simp)) W)
  rw [show ((⟨p.toArray⟩ : ByteArray).data.toList) = p from rfl] at HRS
  obtain ⟨m, hm⟩ : ∃ m, qs.length + 1 = m := ⟨_, rfl⟩
  have HM := hid hm
  have hm1 : 1 ≤ m := by omega
  have hm2 : m ≤ 1048577 := by omega
  have hm3 : (0 : Int) < (m : Int) := by omega
  obtain ⟨P, hP⟩ : ∃ P, (⟨p.toArray⟩ : ByteArray) = P := ⟨_, rfl⟩
  rw [hP] at HRS
  have HP := hid hP
  clear hfst hwrd hyes hmm hpl hql hR hps hml hsum hsz hl ht hV0 hm hP
  unfold MmR
  cases hst : stkR p with
  | none =>
    have HBADR := hid (HFST.out hst)
    rw [rsR_no2 hst] at HRS
    clear hst
    go_enter Tryz.func4, Tryz.ntmps4
    go_wp2_with fail
    rw [← HV0.out]
    refine HSP.out.mono ?_
    rintro e w1 ⟨v, rfl, hO, hB⟩
    obtain ⟨g, cp, rfl, hg, hcp, hgz, hcl⟩ := ownsS_addr hO (by rw [bas_len, List.length_cons, HM.out]; exact hm1)
    rw [bas_len, List.length_cons, HM.out]
    have cell0 := hcl 0 _ (show (bas (p :: qs))[0]? = some ⟨p.toArray⟩ from rfl)
    rw [HP.out] at cell0
    have R1 := hid (R0.out.below hB R0.out.lt)
    have B1 := hid (B0.out.trans (hB.mono B0.out.size))
    clear hO hB hcl hcp hgz hg HSP
    go_wp2_with fail
    refine (HRS.out _).mono ?_
    rintro e w2 ⟨vS, rfl, -, hB⟩
    have B2 := hid (B1.out.trans (hB.mono B1.out.size))
    have R2 := hid (R1.out.below hB R1.out.lt)
    clear hB cell0
    have r9 := R2.out
    have c90 := r9.cell 0; have c91 := r9.cell 1; have f90 := r9.frozen 0; have f91 := r9.frozen 1
    simp only [List.getElem?_cons_zero, List.getElem?_cons_succ] at c90 c91
    have s9 := (r9.set 0 (.slice none 0 0)).set 1 (.slice none 0 0)
    have d0 := s9.cell 0; have d1 := s9.cell 1
    simp only [List.set_cons_zero, List.set_cons_succ, List.getElem?_cons_zero, List.getElem?_cons_succ] at d0 d1
    have D0 := hid d0; have D1 := hid d1
    have HB9 := hid ((B2.out.setCell (p := ⟨w.heap.size, 0, none⟩) (Nat.le_refl _) (.slice none 0 0)).setCell (p := ⟨w.heap.size, 1, none⟩) (Nat.le_refl _) (.slice none 0 0))
    have DX := D0
    clear d0 d1 r9 s9
    go_wp2_with fail
    first | exact bodyPost_ret (v := .tuple #[.agg #[.slice none 0 0, .slice none 0 0], .int .i64 5]) (by simp [results, Tryz.results4, go_sem, D0.out, D1.out]) rfl ⟨_, _, by rw [HBADR.out], by rw [HBADR.out]; exact OwnB.nil _ _ _ _, by rw [HBADR.out]; exact OwnJ.nil _ _ _ _, HB9.out⟩ | exact bodyPost_ret (v := .tuple #[.agg #[.slice none 0 0, .slice none 0 0], .int .i64 5]) (by simp [results, Tryz.results4, go_sem, D0.out, D1.out, DX.out]) rfl ⟨_, _, by rw [HBADR.out], by rw [HBADR.out]; exact OwnB.nil _ _ _ _, by rw [HBADR.out]; exact OwnJ.nil _ _ _ _, HB9.out.alloc (by simpa using HB9.out.size) _⟩
  | some zs =>
    obtain ⟨hok, htx, _, _⟩ := stkR_text hst
    obtain ⟨z1, z8, zz⟩ := okL_mem hok
    have HMZ := hid (HMM.out zs hst)
    rw [rsR_yes2 hst] at HRS
    have HZ1 := hid z1; have HZZ := hid zz; have HZ8 := hid z8
    clear hst hok htx z1 zz z8
    go_enter Tryz.func4, Tryz.ntmps4
    go_wp2_with fail
    rw [← HV0.out]
    refine HSP.out.mono ?_
    rintro e w1 ⟨v, rfl, hO, hB⟩
    obtain ⟨g, cp, rfl, hg, hcp, hgz, hcl⟩ := ownsS_addr hO (by rw [bas_len, List.length_cons, HM.out]; exact hm1)
    rw [bas_len, List.length_cons, HM.out]
    have cell0 := hcl 0 _ (show (bas (p :: qs))[0]? = some ⟨p.toArray⟩ from rfl)
    rw [HP.out] at cell0
    have HCL := hid hcl; have HGZ := hid hgz
    have R1 := hid (R0.out.below hB R0.out.lt)
    have B1 := hid (B0.out.trans (hB.mono B0.out.size))
    clear hO hB hcl hcp hgz hg HSP
    go_wp2_with fail
    refine (HRS.out _).mono ?_
    rintro e w2 ⟨vS, rfl, hOS, hB⟩
    have hOS' : OwnB w2 w1.heap.size vS zs := hOS
    obtain ⟨gS, cS, rfl, hgS, hStk⟩ := hOS'.stk HZ1.out (fun z hz => by have := HZZ.out z hz; omega) (by have := HZ8.out; omega)
    have OS2 := hid hOS'; have ST2 := hid hStk; have C2 := hid hB
    have B2 := hid (B1.out.trans (hB.mono B1.out.size))
    have R2 := hid (R1.out.below hB R1.out.lt)
    clear hB cell0 hOS hOS' hStk
    obtain ⟨zn, hzn⟩ : ∃ zn, zs.length = zn := ⟨_, rfl⟩
    rw [hzn]
    have HZN := hid hzn
    clear hzn
    obtain ⟨V2, hV2⟩ : ∃ V, V = w2.alloc (.cells #[.slice (some ⟨gS, 0, none⟩) zn cS, .slice none 0 0] 26) := ⟨_, rfl⟩
    have r7 : Row V2 w2.heap.size 26 [.slice (some ⟨gS, 0, none⟩) zn cS, .slice none 0 0] := by rw [hV2]; exact Row.new w2 _ _
    have b7 : Below w2.heap.size w2 V2 := by rw [hV2]; exact boxMo_bel w2 _ _
    have s7 : V2.heap.size = w2.heap.size + 1 := by rw [hV2]; simp
    have R7 := hid r7; have B7 := hid b7; have S7 := hid s7; have HV2 := hid hV2
    clear r7 b7 s7 hV2
    go_upto_region 6 with fail
    rw [← HV2.out]
    go_wp2_with fail
    go_loopw [8] (fun i wr => ∃ (c : Nat) (v : Value), (1 ≤ c ∧ c ≤ m) ∧ i = .int .i64 c ∧ (qs.take (c - 1)).all isM = true ∧ Row wr w2.heap.size 26 [.slice (some ⟨gS, 0, none⟩) zn cS, v] ∧ wr.ownsRow (w2.heap.size + 1) 39 2 v (c - 1) (jvals (moJs (qs.take (c - 1)))) ∧ Below w2.heap.size w2 wr) (fun i _ => m - (intOf i).toNat)
    case atStart => exact ⟨1, _, ⟨Nat.le_refl _, hm1⟩, rfl, by simp, R7.out, ⟨rfl, .inl ⟨rfl, rfl⟩⟩, B7.out⟩
    case round =>
      obtain ⟨c, v, hc, rfl, hA, hRw, hO, hB⟩ := hrel
      have HA := hid hA; have HO := hid hO; have HB := hid hB; have RW := hid hRw
      have R3 := hid (R2.out.below hB R2.out.lt)
      have B3 := hid (B2.out.trans (hB.mono B2.out.size))
      obtain ⟨ca, cb⟩ := hc
      by_cases hcm : c < m
      · have c1 : (c : Int) < (m : Int) := by omega
        have c0 : (0 : Int) ≤ (c : Int) := by omega
        have wc : IntKind.i64.wrap ((c : Int) + 1) = (c : Int) + 1 := IntWalk.i64_in _ (by omega)
        have hk : c - 1 < qs.length := by have := HM.out; omega
        have hqk : qs[c - 1]? = some qs[c - 1] := List.getElem?_eq_getElem hk
        obtain ⟨q, hq⟩ : ∃ q, qs[c - 1] = q := ⟨_, rfl⟩
        rw [hq] at hqk
        have hqm : q ∈ qs := List.mem_of_getElem? hqk
        have hpc : (bas (p :: qs))[c]? = some ⟨q.toArray⟩ := by
          obtain ⟨k, rfl⟩ : ∃ k, c = k + 1 := ⟨c - 1, by omega⟩
          rw [Nat.add_sub_cancel] at hqk
          simp [bas, hqk]
        have hcell : wr.cell? ⟨g, c, none⟩ = some (.string ⟨q.toArray⟩) := (hB.cell (p := ⟨g, c, none⟩) (Nat.lt_of_lt_of_le HGZ.out C2.out.size)).trans ((C2.out.cell (p := ⟨g, c, none⟩) HGZ.out).trans (HCL.out c _ hpc))
        have HJ := hid (fun W => specJoint_any ⟨q.toArray⟩ (HPL.out q (by simp [hqm])) W)
        rw [show ((⟨q.toArray⟩ : ByteArray).data.toList) = q from rfl] at HJ
        have HQM := hid (HWRD.out q hqm)
        have HQK := hid hqk
        obtain ⟨Q, hQ⟩ : ∃ Q, (⟨q.toArray⟩ : ByteArray) = Q := ⟨_, rfl⟩
        rw [hQ] at hcell HJ
        clear hA hO hB hRw hqk hq hqm hpc hk hQ
        cases hmw : moW q with
        | none =>
          have HBADR := hid (HQM.out hmw)
          rw [hmw] at HJ
          clear hmw
          go_wp2_with fail
          refine (HJ.out _).mono ?_
          rintro e w3 ⟨kk, ff, rfl, -, hB⟩
          have B4 := hid (B3.out.trans (hB.mono B3.out.size))
          have R4 := hid (R3.out.below hB R3.out.lt)
          clear hB hcell
          have r9 := (R4.out.alloc (.cells #[.int .i8 kk, .int .i16 ff] 39))
          have c90 := r9.cell 0; have c91 := r9.cell 1; have f90 := r9.frozen 0; have f91 := r9.frozen 1
          simp only [List.getElem?_cons_zero, List.getElem?_cons_succ] at c90 c91
          have s9 := (r9.set 0 (.slice none 0 0)).set 1 (.slice none 0 0)
          have d0 := s9.cell 0; have d1 := s9.cell 1
          simp only [List.set_cons_zero, List.set_cons_succ, List.getElem?_cons_zero, List.getElem?_cons_succ] at d0 d1
          have D0 := hid d0; have D1 := hid d1
          have HB9 := hid (((B4.out.alloc B4.out.size (.cells #[.int .i8 kk, .int .i16 ff] 39)).setCell (p := ⟨w.heap.size, 0, none⟩) (Nat.le_refl _) (.slice none 0 0)).setCell (p := ⟨w.heap.size, 1, none⟩) (Nat.le_refl _) (.slice none 0 0))
          have DX := D0
          clear d0 d1 r9 s9
          go_wp2_with fail
          first | exact bodyPost_ret (v := .tuple #[.agg #[.slice none 0 0, .slice none 0 0], .int .i64 5]) (by simp [results, Tryz.results4, go_sem, D0.out, D1.out]) rfl ⟨_, _, by rw [HBADR.out], by rw [HBADR.out]; exact OwnB.nil _ _ _ _, by rw [HBADR.out]; exact OwnJ.nil _ _ _ _, HB9.out⟩ | exact bodyPost_ret (v := .tuple #[.agg #[.slice none 0 0, .slice none 0 0], .int .i64 5]) (by simp [results, Tryz.results4, go_sem, D0.out, D1.out, DX.out]) rfl ⟨_, _, by rw [HBADR.out], by rw [HBADR.out]; exact OwnB.nil _ _ _ _, by rw [HBADR.out]; exact OwnJ.nil _ _ _ _, HB9.out.alloc (by simpa using HB9.out.size) _⟩
        | some ab =>
          obtain ⟨a, b⟩ := ab
          have HSN := hid (moJs_snoc HQK.out hmw)
          have HAL := hid (isM_snoc HQK.out hmw HA.out)
          rw [hmw] at HJ
          clear hmw
          go_wp2_with fail
          refine (HJ.out _).mono ?_
          rintro e w3 ⟨kk, ff, rfl, hab, hB⟩
          obtain ⟨rfl, rfl⟩ := hab a b rfl
          obtain ⟨W, hW⟩ : ∃ X, X = w3.alloc (.cells #[.int .i8 kk, .int .i16 ff] 39) := ⟨_, rfl⟩
          have rwW : Row W w2.heap.size 26 [.slice (some ⟨gS, 0, none⟩) zn cS, v] := by rw [hW]; exact (RW.out.below hB RW.out.lt).alloc _
          have hbW : Below w2.heap.size w2 W := by rw [hW]; exact (HB.out.trans (hB.mono HB.out.size)).alloc (HB.out.trans (hB.mono HB.out.size)).size _
          have hoW := (owns_belowP HO.out hB).alloc (.cells #[.int .i8 kk, .int .i16 ff] 39)
          rw [← hW] at hoW
          have newW : Row W w3.heap.size 39 [.int .i8 kk, .int .i16 ff] := by rw [hW]; exact Row.new w3 _ _
          have HW := hid hW
          have RW4 := hid (rwW.alloc (.cells #[.int .i8 kk, .int .i16 ff] 39))
          have HB4 := hid (hbW.alloc hbW.size (.cells #[.int .i8 kk, .int .i16 ff] 39))
          have HO4 := hid (hoW.alloc (.cells #[.int .i8 kk, .int .i16 ff] 39))
          have q0 := rwW.cell 0; have q1 := rwW.cell 1
          simp only [List.getElem?_cons_zero, List.getElem?_cons_succ] at q0 q1
          have n0 := newW.cell 0; have n1 := newW.cell 1
          simp only [List.getElem?_cons_zero, List.getElem?_cons_succ] at n0 n1
          have news := Row.new W 39 [.int .i8 kk, .int .i16 ff]
          have nc := hid (show ∀ j u, ([.int .i8 kk, .int .i16 ff] : List Value)[j]? = some u → (W.alloc (.cells #[.int .i8 kk, .int .i16 ff] 39)).cell? ((⟨W.heap.size, 0, none⟩ : Addr).add j) = some u from fun j u hj => by
            rw [show (⟨W.heap.size, 0, none⟩ : Addr).add j = ⟨W.heap.size, j, none⟩ from by unfold Addr.add; split <;> simp_all]
            exact (news.cell j).trans hj)
          have HONE := hid (show ∀ u ∈ ([.int .i8 kk, .int .i16 ff] : List Value), u.oneCell' = true from by intro u hu; simp at hu; rcases hu with rfl | rfl <;> rfl)
          have HBW := hid (show w2.heap.size + 1 ≤ (W.alloc (.cells #[.int .i8 kk, .int .i16 ff] 39)).heap.size by have := RW4.out.lt; omega)
          clear hW rwW hbW hoW newW
          clear hB hcell news hab
          go_upto_region 10 with fail
          rw [← HW.out]
          go_wp2_with (at_builtin; refine wpList_append_own _ rfl _ _ 24 rfl (w2.heap.size + 1) 39 i0 (.agg #[.int .i8 0, .int .i16 0]) 2 4 Tryz.underlying24 hi0 iz0 iz1 iz2 rfl (by decide) _ _ _ rfl HO4.out ⟨W.heap.size, 0, none⟩ 1 1 ([.int .i8 kk, .int .i16 ff] : List Value) rfl rfl nc.out HONE.out (by unfold maxLen; omega) (by omega) HBW.out ?_; rintro v' w7 hown' hgrow -; obtain ⟨gN, cN, rfl⟩ : ∃ g cp, v' = .slice (some ⟨g, 0, none⟩) c cp := by { have h0 := own_addr hown' (by omega); rw [show c - 1 + 1 = c by omega] at h0; exact h0 }; have bel := (Below.refl (w2.heap.size + 1) (W.alloc (.cells #[.int .i8 kk, .int .i16 ff] 39))).grown hgrow HBW.out (fun kk e => by have := (HO4.out.lt kk e).1; omega); have r7 := RW4.out.below bel (by omega); have c70 := r7.cell 0; have c71 := r7.cell 1; have f71 := r7.frozen 1; simp only [List.getElem?_cons_zero, List.getElem?_cons_succ] at c70 c71; have R77 := hid r7; have BEL := hid bel; have OWN := hid hown'; clear hown' hgrow bel r7 q0 q1 n0 n1)
          have OW := owns_set OWN.out (a := ⟨w2.heap.size, 1, none⟩) (Nat.lt_succ_self _) (.slice (some ⟨gN, 0, none⟩) c cN)
          rw [show jvals (moJs (qs.take (c - 1))) ++ [.int .i8 kk, .int .i16 ff] = jvals (moJs (qs.take (c + 1 - 1))) from by rw [show c + 1 - 1 = c - 1 + 1 by omega, HSN.out, jvals_snoc]] at OW
          have HOW := hid (show (w7.setCell ⟨w2.heap.size, 1, none⟩ (.slice (some ⟨gN, 0, none⟩) c cN)).ownsRow (w2.heap.size + 1) 39 2 (.slice (some ⟨gN, 0, none⟩) c cN) (c + 1 - 1) (jvals (moJs (qs.take (c + 1 - 1)))) by rw [show c + 1 - 1 = c - 1 + 1 by omega] at OW ⊢; exact OW)
          have RR := hid (R77.out.set 1 (.slice (some ⟨gN, 0, none⟩) c cN))
          have HBE := hid ((HB4.out.trans (BEL.out.mono (by omega))).setCell (p := ⟨w2.heap.size, 1, none⟩) (Nat.le_refl _) (.slice (some ⟨gN, 0, none⟩) c cN))
          clear OW c70 c71 f71
          go_wp2_with fail
          go_roundw
          case rel => exact ⟨c + 1, _, by omega, by go_num, by rw [show c + 1 - 1 = c - 1 + 1 by omega]; exact HAL.out, RR.out, HOW.out, HBE.out⟩
          case measure => simp [intOf]; omega
      · obtain rfl : c = m := by omega
        have c1 : ¬ (c : Int) < (c : Int) := by omega
        have hcq : c - 1 = qs.length := by have := HM.out; omega
        rw [hcq, List.take_of_length_le (Nat.le_refl _)] at hA
        rw [hcq, List.take_of_length_le (Nat.le_refl _)] at hO
        have hjl : (moJs qs).length ≤ 1048576 := by rw [moJs_len]; exact HQL.out
        obtain ⟨aJ, gJ, cJ, rfl, hJ0, hJst⟩ := own_jstN (gS := gS) hO hjl (by have := ST2.out.1; have := hB.size; omega)
        have HL2 := hid (l02OkN_any aJ w2.heap.size gS zn cS gJ qs.length cJ zs (moJs qs) wr hRw (ST2.out.below hB ST2.out.1) hJst HZN.out.symm (moJs_len qs).symm hJ0 (moJs_bd hA))
        have HOJ := hid ((OwnJ.of hO hjl).lowb (show w.heap.size ≤ w2.heap.size + 1 by have := B2.out.size; omega))
        have HOS := hid ((OS2.out.keep hB).lowb B1.out.size)
        have HRES := hid (HMZ.out hA)
        rw [HZN.out] at HOS
        cases hok2 : okM zs (moJs qs) with
        | false =>
          rw [hok2] at HL2
          have HBADR := hid (show R = (([], []), 5) by have := HRES.out; rw [hok2] at this; simpa using this)
          clear hok2 hA hO hB hRw hjl hJst hJ0
          go_wp2_with fail
          refine HL2.out.mono ?_
          rintro e w8 ⟨rfl, hB8⟩
          have B8 := hid (B3.out.trans (hB8.mono B3.out.size))
          have R8 := hid (R3.out.below hB8 R3.out.lt)
          clear hB8
          have r9 := R8.out
          have c90 := r9.cell 0; have c91 := r9.cell 1; have f90 := r9.frozen 0; have f91 := r9.frozen 1
          simp only [List.getElem?_cons_zero, List.getElem?_cons_succ] at c90 c91
          have s9 := (r9.set 0 (.slice none 0 0)).set 1 (.slice none 0 0)
          have d0 := s9.cell 0; have d1 := s9.cell 1
          simp only [List.set_cons_zero, List.set_cons_succ, List.getElem?_cons_zero, List.getElem?_cons_succ] at d0 d1
          have D0 := hid d0; have D1 := hid d1
          have HB9 := hid ((B8.out.setCell (p := ⟨w.heap.size, 0, none⟩) (Nat.le_refl _) (.slice none 0 0)).setCell (p := ⟨w.heap.size, 1, none⟩) (Nat.le_refl _) (.slice none 0 0))
          have DX := D0
          clear d0 d1 r9 s9
          go_wp2_with fail
          first | exact bodyPost_ret (v := .tuple #[.agg #[.slice none 0 0, .slice none 0 0], .int .i64 5]) (by simp [results, Tryz.results4, go_sem, D0.out, D1.out]) rfl ⟨_, _, by rw [HBADR.out], by rw [HBADR.out]; exact OwnB.nil _ _ _ _, by rw [HBADR.out]; exact OwnJ.nil _ _ _ _, HB9.out⟩ | exact bodyPost_ret (v := .tuple #[.agg #[.slice none 0 0, .slice none 0 0], .int .i64 5]) (by simp [results, Tryz.results4, go_sem, D0.out, D1.out, DX.out]) rfl ⟨_, _, by rw [HBADR.out], by rw [HBADR.out]; exact OwnB.nil _ _ _ _, by rw [HBADR.out]; exact OwnJ.nil _ _ _ _, HB9.out.alloc (by simpa using HB9.out.size) _⟩
        | true =>
          rw [hok2] at HL2
          have HGOOD := hid (show R = ((zs, moJs qs), 0) by have := HRES.out; rw [hok2] at this; simpa using this)
          clear hok2 hA hO hB hRw hjl hJst hJ0
          go_wp2_with fail
          refine HL2.out.mono ?_
          rintro e w8 ⟨rfl, hB8⟩
          have B8 := hid (B3.out.trans (hB8.mono B3.out.size))
          have R8 := hid (R3.out.below hB8 R3.out.lt)
          have x8 := RW.out.below hB8 RW.out.lt
          have q0 := x8.cell 0; have q1 := x8.cell 1
          simp only [List.getElem?_cons_zero, List.getElem?_cons_succ] at q0 q1
          have OS8 := hid (HOS.out.keep hB8)
          have OJ8 := hid (HOJ.out.keep hB8)
          clear hB8 x8
          have r9 := R8.out
          have c90 := r9.cell 0; have c91 := r9.cell 1; have f90 := r9.frozen 0; have f91 := r9.frozen 1
          simp only [List.getElem?_cons_zero, List.getElem?_cons_succ] at c90 c91
          have s9 := (r9.set 0 (.slice (some ⟨gS, 0, none⟩) zn cS)).set 1 (.slice aJ qs.length cJ)
          have d0 := s9.cell 0; have d1 := s9.cell 1
          simp only [List.set_cons_zero, List.set_cons_succ, List.getElem?_cons_zero, List.getElem?_cons_succ] at d0 d1
          have D0 := hid d0; have D1 := hid d1
          have HB9 := hid ((B8.out.setCell (p := ⟨w.heap.size, 0, none⟩) (Nat.le_refl _) (.slice (some ⟨gS, 0, none⟩) zn cS)).setCell (p := ⟨w.heap.size, 1, none⟩) (Nat.le_refl _) (.slice aJ qs.length cJ))
          have OS9 := hid (OS8.out.rows (fun q xs hr => row_other (r9.set 0 (.slice (some ⟨gS, 0, none⟩) zn cS)) (row_other r9 hr (by decide) 0 (.slice (some ⟨gS, 0, none⟩) zn cS)) (by decide) 1 (.slice aJ qs.length cJ)))
          have OJ9 := hid (OJ8.out.rows (fun q xs hr => row_other (r9.set 0 (.slice (some ⟨gS, 0, none⟩) zn cS)) (row_other r9 hr (by decide) 0 (.slice (some ⟨gS, 0, none⟩) zn cS)) (by decide) 1 (.slice aJ qs.length cJ)))
          clear d0 d1 r9 s9
          go_wp2_with fail
          exact bodyPost_ret (v := .tuple #[.agg #[.slice (some ⟨gS, 0, none⟩) zn cS, .slice aJ qs.length cJ], .int .i64 0]) (by simp [results, Tryz.results4, go_sem, D0.out, D1.out]) rfl ⟨_, _, by rw [HGOOD.out], by rw [HGOOD.out]; exact OS9.out, by rw [HGOOD.out]; exact OJ9.out, HB9.out⟩
end Go.Proofs.YtklkdbfdejabiaaGreatDoor
