/- impl.ReadTrain. -/
import Derived.Test.YtcbhlljgcndhdaaDoorTrI
namespace Go.Proofs.YtcbhlljgcndhdaaDoor
open Go.RowKit Go.Shelf
set_option linter.unusedSimpArgs false
set_option linter.unusedVariables false
theorem split_sizeT (sep : ByteArray) (save : Nat) : ∀ (k : Nat) (s p : ByteArray), p ∈ Lib.splitB sep save k s → p.size ≤ s.size
  | 0, s, p, h => by simp [Lib.splitB] at h; subst h; exact Nat.le_refl _
  | k + 1, s, p, h => by
    unfold Lib.splitB at h
    split at h
    · simp at h; subst h; exact Nat.le_refl _
    · simp only [List.mem_cons] at h
      rcases h with rfl | h
      · simp [ByteArray.size_extract]; omega
      · have := split_sizeT sep save k _ p h
        simp [ByteArray.size_extract] at this; omega
def isR (p : ByteArray) : Bool := (rpF p).isSome
def rpJs (ps : List ByteArray) : List (Int × Int) := ps.map fun p => (rpF p).getD (0, 0)
theorem rpJs_len (ps : List ByteArray) : (rpJs ps).length = ps.length := by simp [rpJs]
theorem take_next {ps : List ByteArray} {k : Nat} {p : ByteArray} (h : ps[k]? = some p) : ps.take (k + 1) = ps.take k ++ [p] := by
  have hk : k < ps.length := by
    by_cases c : k < ps.length
    · exact c
    · rw [List.getElem?_eq_none (by omega)] at h; cases h
  rw [List.getElem?_eq_getElem hk] at h
  injection h with h
  rw [List.take_succ_eq_append_getElem hk, h]
theorem rpJs_snoc {ps : List ByteArray} {k : Nat} {p : ByteArray} {a b : Int} (h : ps[k]? = some p) (hp : rpF p = some (a, b)) : rpJs (ps.take (k + 1)) = rpJs (ps.take k) ++ [(a, b)] := by
  rw [take_next h]
  simp [rpJs, hp]
theorem isR_snoc {ps : List ByteArray} {k : Nat} {p : ByteArray} {a b : Int} (h : ps[k]? = some p) (hp : rpF p = some (a, b)) (ha : (ps.take k).all isR = true) : (ps.take (k + 1)).all isR = true := by
  rw [take_next h, List.all_append, ha]
  simp [isR, hp]
theorem rpF_bd {p : ByteArray} {a b : Int} (h : rpF p = some (a, b)) : (-32768 ≤ a ∧ a ≤ 32767) ∧ (-32768 ≤ b ∧ b ≤ 32767) := by
  unfold rpF at h
  split at h
  · cases e1 : pi16 (Lib.cut p.data.toList [47]).1 with
    | none => rw [e1] at h; cases h
    | some x =>
      cases e2 : pi16 (Lib.cut p.data.toList [47]).2.1 with
      | none => rw [e1, e2] at h; cases h
      | some y =>
        rw [e1, e2] at h
        injection h with h
        injection h with ha hb
        subst ha; subst hb
        exact ⟨pi16_bd e1, pi16_bd e2⟩
  · cases h
theorem rpJs_bd {ps : List ByteArray} (h : ps.all isR = true) : Bd16 (rpJs ps) := fun k hk => by
  rw [rpJs_len] at hk
  have hs : (rpF ps[k]).isSome = true := List.all_eq_true.1 h _ (List.getElem_mem hk)
  obtain ⟨⟨a, b⟩, hab⟩ := Option.isSome_iff_exists.1 hs
  have := rpF_bd hab
  unfold pd pn rpJs
  rw [List.getElem?_map, List.getElem?_eq_getElem hk]
  simp only [Option.map_some, Option.getD_some]
  rw [hab]
  exact this
theorem rpF_nil {p : ByteArray} (h : p.data.toList = []) : rpF p = none := by
  unfold rpF
  rw [h]
  rfl
theorem rt_bad {t p : ByteArray} (hp : p ∈ w5 t) (h : rpF p = none) : rtR t.data.toList = ([], 5) := by
  cases hj : trJ t.data.toList with
  | none => exact rtR_no hj
  | some js =>
    have := (w5_of hj).1
    rw [List.all_eq_true] at this
    have := this p hp
    rw [h] at this
    cases this
theorem rt_no {t : ByteArray} (he : trR (rpJs (w5 t)) ≠ t.data.toList) : rtR t.data.toList = ([], 5) := by
  cases hj : trJ t.data.toList with
  | none => exact rtR_no hj
  | some js =>
    have e := (w5_of hj).2
    have f := (trJ_out hj).2.1
    exact absurd (show trR (rpJs (w5 t)) = t.data.toList from by unfold rpJs; rw [e, f]) he
theorem rt_yes {t : ByteArray} (ha : (w5 t).all isR = true) (he : trR (rpJs (w5 t)) = t.data.toList) : rtR t.data.toList = (rpJs (w5 t), 0) := by
  cases ho : okT (rpJs (w5 t)) with
  | true =>
    have := trJ_of ho
    rw [he] at this
    exact rtR_yes this
  | false =>
    rw [trR_no ho] at he
    have hz : t.size = 0 := by
      have : t.data.toList.length = t.size := by rw [Array.length_toList]; rfl
      rw [← he] at this
      simpa using this.symm
    have hw : w5 t = [t] := by
      unfold w5
      rw [hz]
      simp [Lib.splitB]
    rw [hw] at ha
    simp only [List.all_cons, List.all_nil, Bool.and_true] at ha
    unfold isR at ha
    rw [rpF_nil he.symm] at ha
    cases ha
set_option maxRecDepth 100000 in
set_option maxHeartbeats 4000000 in
theorem implReadTrain_any (t : ByteArray) (ht : t.size ≤ 1048576) (w : World) {tS tR : TypeId} {pS pR : Value} {m : Int} (hL : LW w tS pS tR pR m) : Calls Tryd.prog 5 #[.string t] w (RtR (rtR t.data.toList) w) := by
  obtain ⟨i0, hi0, iz0, iz1, iz2⟩ := info_parts Tryd.infoPair
  have HSP := hid (show Calls Tryd.prog 13 #[.string t, .string ⟨#[32]⟩, .int .i64 5] w fun e w' => e = .returned (.slice (some ⟨w.heap.size, 0, none⟩) (w5 t).length (min 5 (t.size + 1))) ∧ w' = w.alloc (.cells (Lib.cellsOf (w5 t) (min 5 (t.size + 1))) 9) from Tryd.strings_SplitN t ⟨#[32]⟩ 5 m w (by omega) hL.1.2.2.1 (by decide) (by omega) (by omega))
  have HSZ := hid (fun p (h : p ∈ w5 t) => Nat.le_trans (split_sizeT _ _ _ _ p h) ht)
  have h5 : (w5 t).length ≤ 5 := by have := Lib.splitB_length_le ⟨#[32]⟩ 0 (min 5 (t.size + 1) - 1) t; unfold w5; omega
  have h1 : 1 ≤ (w5 t).length := by
    unfold w5
    cases hk : min 5 (t.size + 1) - 1 with
    | zero => simp [Lib.splitB]
    | succ k => unfold Lib.splitB; split <;> simp
  have hbad := fun p (h : p ∈ w5 t) h2 => rt_bad h h2
  have hyes := fun ha he => rt_yes (t := t) ha he
  have hno := fun he => rt_no (t := t) he
  have hdt : t.toList = t.data.toList := Lib.toList_data t
  have HLW := hid (fun W (h : Below w.heap.size w W) => hL.below h (Nat.le_refl _))
  obtain ⟨R, hR⟩ : ∃ R, rtR t.data.toList = R := ⟨_, rfl⟩
  rw [hR] at hbad hyes hno ⊢
  obtain ⟨l, hl⟩ : ∃ l, t.data.toList = l := ⟨_, rfl⟩
  rw [hl] at hyes hno hdt
  obtain ⟨ps, hps⟩ : ∃ ps, w5 t = ps := ⟨_, rfl⟩
  obtain ⟨cp, hcp⟩ : ∃ cp, min 5 (t.size + 1) = cp := ⟨_, rfl⟩
  rw [hps] at HSP HSZ h5 h1 hbad hyes hno
  rw [hcp] at HSP
  obtain ⟨n, hn⟩ : ∃ n, ps.length = n := ⟨_, rfl⟩
  have hrow := Row.new w 9 (ps.map Value.string ++ List.replicate (cp - ps.length) (Value.string ByteArray.empty))
  have hW : (w.alloc (.cells (ps.map Value.string ++ List.replicate (cp - ps.length) (Value.string ByteArray.empty)).toArray 9)) = w.alloc (.cells (Lib.cellsOf ps cp) 9) := rfl
  rw [hW] at hrow
  have hcl : ∀ k p, ps[k]? = some p → (w.alloc (.cells (Lib.cellsOf ps cp) 9)).cell? ⟨w.heap.size, k, none⟩ = some (.string p) := fun k p h => by
    have hk : k < ps.length := by
      by_cases c : k < ps.length
      · exact c
      · rw [List.getElem?_eq_none (by omega)] at h; cases h
    rw [hrow.cell k, List.getElem?_append_left (by simpa using hk), List.getElem?_map, h]
    rfl
  have hlt := hrow.lt
  have hB : Below w.heap.size w (w.alloc (.cells (Lib.cellsOf ps cp) 9)) := (Below.refl _ _).alloc (Nat.le_refl _) _
  rw [hn] at HSP h5 h1
  have HM := hid hn; have HBAD := hid hbad; have HYES := hid hyes; have HNO := hid hno; have HDT := hid hdt
  clear hn hbad hyes hno hdt hps hcp hl hR hW hrow hL ht
  go_enter Tryd.func5, Tryd.ntmps5
  go_wp2_with fail
  refine HSP.out.mono ?_
  rintro e w1 ⟨rfl, rfl⟩
  obtain ⟨W1, hW1⟩ : ∃ X, X = w.alloc (.cells (Lib.cellsOf ps cp) 9) := ⟨_, rfl⟩
  rw [← hW1] at hcl hlt hB ⊢
  have HCL := hid hcl; have HLT := hid hlt; have HB := hid hB; have HZ := hid hB.size
  clear hW1 hcl hlt hB HSP
  go_wp2_with fail
  go_loopw [4, 12] (fun v i wr => ∃ (k : Nat), k ≤ n ∧ i = .int .i64 k ∧ (ps.take k).all isR = true ∧ wr.ownsRow W1.heap.size 36 2 v k (pvals (rpJs (ps.take k))) ∧ Below W1.heap.size W1 wr) (fun _ i _ => n - (intOf i).toNat)
  case atStart => exact ⟨0, Nat.zero_le _, rfl, rfl, ⟨rfl, .inl ⟨rfl, rfl⟩⟩, Below.refl _ _⟩
  case round =>
    obtain ⟨k, hk, rfl, hA, hO, hB⟩ := hrel
    by_cases hkn : k < n
    · have k1 : (k : Int) < (n : Int) := by omega
      have k0 : (0 : Int) ≤ (k : Int) := by omega
      have w1' : IntKind.i64.wrap ((k : Int) + 1) = (k : Int) + 1 := IntWalk.i64_in _ (by omega)
      have hkl : k < ps.length := by rw [HM.out]; exact hkn
      have hpk : ps[k]? = some ps[k] := List.getElem?_eq_getElem hkl
      obtain ⟨p, hp⟩ : ∃ p, ps[k] = p := ⟨_, rfl⟩
      rw [hp] at hpk
      have hmem : p ∈ ps := List.mem_of_getElem? hpk
      have hcell : wr.cell? ⟨w.heap.size, k, none⟩ = some (.string p) := (hB.cell (p := ⟨w.heap.size, k, none⟩) HLT.out).trans (HCL.out k _ hpk)
      have HBR := hid (HB.out.trans (hB.mono HZ.out))
      have HRP := hid (implReadPair_any p (HSZ.out p hmem) wr (HLW.out wr HBR.out).1)
      have HPK := hid hpk; have HO := hid hO; have HB3 := hid hB; have HA := hid hA
      have hz1 := hB.size
      clear hA hO hB hpk hp hkl
      cases hr : rpF p with
      | none =>
        have HBADR := hid (HBAD.out p hmem hr)
        unfold RpG at HRP
        rw [hr] at HRP
        clear hmem hr
        go_wp2_with fail
        refine HRP.out.mono ?_
        rintro e w2 ⟨x, y, rfl, hxy, hB2⟩
        have HB4 := hid (HBR.out.trans (hB2.mono HBR.out.size))
        clear hxy hB2
        simp only [Option.isSome_none]
        go_wp2_with fail
        exact bodyPost_ret (v := .tuple #[.slice none 0 0, .int .i64 5]) (by simp [results, Tryd.results5, go_sem]) rfl ⟨_, by rw [HBADR.out], by rw [HBADR.out]; exact OwnP.nil _ _ _ _, HB4.out.alloc HB4.out.size _⟩
      | some ab =>
        obtain ⟨a, b⟩ := ab
        have HSN := hid (rpJs_snoc HPK.out hr)
        have HAL := hid (isR_snoc HPK.out hr HA.out)
        unfold RpG at HRP
        rw [hr] at HRP
        clear hmem hr
        go_wp2_with fail
        refine HRP.out.mono ?_
        rintro e w2 ⟨x, y, rfl, hxy, hB2⟩
        obtain ⟨rfl, rfl, hx, hy⟩ := hxy a b rfl
        have HB5 := hid (HB3.out.trans (hB2.mono hz1))
        have HO4 := hid (((owns_belowP HO.out hB2).alloc (.cells #[.int .i16 x, .int .i16 y] 36)).alloc (.cells #[.int .i16 x, .int .i16 y] 36))
        have news := Row.new (w2.alloc (.cells #[.int .i16 x, .int .i16 y] 36)) 36 [.int .i16 x, .int .i16 y]
        have nc := hid (show ∀ j u, ([.int .i16 x, .int .i16 y] : List Value)[j]? = some u → ((w2.alloc (.cells #[.int .i16 x, .int .i16 y] 36)).alloc (.cells #[.int .i16 x, .int .i16 y] 36)).cell? ((⟨w2.heap.size + 1, 0, none⟩ : Addr).add j) = some u from fun j u hj => by
          rw [show (⟨w2.heap.size + 1, 0, none⟩ : Addr).add j = ⟨w2.heap.size + 1, j, none⟩ from by unfold Addr.add; split <;> simp_all]
          have := (news.cell j).trans hj
          simpa only [World.size_alloc] using this)
        have HONE := hid (show ∀ u ∈ ([.int .i16 x, .int .i16 y] : List Value), u.oneCell' = true from by intro u hu; simp at hu; rcases hu with rfl | rfl <;> rfl)
        have HB7 := hid (show Below W1.heap.size W1 ((w2.alloc (.cells #[.int .i16 x, .int .i16 y] 36)).alloc (.cells #[.int .i16 x, .int .i16 y] 36)) from (HB5.out.alloc HB5.out.size _).alloc (by have := HB5.out.size; simp; omega) _)
        have HBW := hid (show W1.heap.size ≤ ((w2.alloc (.cells #[.int .i16 x, .int .i16 y] 36)).alloc (.cells #[.int .i16 x, .int .i16 y] 36)).heap.size by simp; have := HB5.out.size; omega)
        simp only [Option.isSome_some]
        clear news hxy hB2 hx hy
        go_wp2_with (at_builtin; refine wpList_append_own _ rfl _ _ 23 rfl W1.heap.size 36 i0 (.agg #[.int .i16 0, .int .i16 0]) 2 4 Tryd.underlying23 hi0 iz0 iz1 iz2 rfl (by decide) _ _ _ rfl HO4.out ⟨w2.heap.size + 1, 0, none⟩ 1 1 ([.int .i16 x, .int .i16 y] : List Value) rfl rfl nc.out HONE.out (by unfold maxLen; omega) (by omega) HBW.out ?_; rintro v' w7 hown' hgrow -; have OWN := hid hown'; have GRW := hid hgrow; clear hown' hgrow)
        have bel := HB7.out.grown GRW.out HBW.out (fun kk e => by have := (HO4.out.lt kk e).1; omega)
        have OW := OWN.out
        rw [show pvals (rpJs (ps.take k)) ++ [.int .i16 x, .int .i16 y] = pvals (rpJs (ps.take (k + 1))) from by rw [HSN.out, pvals_snocT]] at OW
        have HOW := hid OW
        have HBE := hid bel
        clear bel OW
        go_wp2_with fail
        go_roundw
        case rel => exact ⟨k + 1, by omega, by go_num, HAL.out, HOW.out, HBE.out⟩
        case measure => simp [intOf]; omega
    · obtain rfl : k = n := by omega
      have kf : ¬ (k : Int) < (k : Int) := by omega
      rw [List.take_of_length_le (by rw [HM.out]; exact Nat.le_refl _)] at hA hO
      have hlen := rpJs_len ps
      obtain ⟨g2, cp2, rfl, hg2, hS2⟩ := owns_pst hO h1 (by rw [hlen, HM.out]; omega)
      have HB2 := hid (HB.out.trans (hB.mono HZ.out))
      have hlw := HLW.out wr HB2.out
      have HTT := hid (implTR_any g2 k cp2 (rpJs ps) wr hS2 (by rw [hlen]; exact HM.out.symm) (rpJs_bd hA) hlw.2.1 hlw.2.2)
      have HOB := hid (OwnP.of_owns hO (by rw [hlen, HM.out]; omega))
      by_cases htx : trR (rpJs ps) = l
      · have HGOOD := hid (HYES.out hA htx)
        have heq : ((⟨(trR (rpJs ps)).toArray⟩ : ByteArray).toList == t.toList) = true := by rw [Lib.toList_data, HDT.out, htx]; simp
        have heq2 : ((⟨(trR (rpJs ps)).toArray⟩ : ByteArray).toList != t.toList) = false := by rw [bne, heq]; rfl
        obtain ⟨T, hT⟩ : ∃ T, (⟨(trR (rpJs ps)).toArray⟩ : ByteArray) = T := ⟨_, rfl⟩
        rw [hT] at heq heq2 HTT
        clear hA hO hB hS2 hg2 hlen hlw htx hT
        go_wp2_with fail
        refine HTT.out.mono ?_
        rintro e w3 ⟨rfl, hB3⟩
        have HB3 := hid hB3
        clear hB3
        go_wp2_with fail
        refine bodyPost_ret (v := .tuple #[.slice (some ⟨g2, 0, none⟩) k cp2, .int .i64 0]) (by simp [results, Tryd.results5, go_sem]) rfl ⟨_, by rw [HGOOD.out], ?_, HB2.out.trans (HB3.out.mono HB2.out.size)⟩
        rw [HGOOD.out]
        obtain ⟨a, cap, e1, e2, e3⟩ := HOB.out.keep HB3.out
        refine ⟨a, cap, e1, e2, ?_⟩
        rcases e3 with h0 | ⟨gg, rest, e4, e5, e6⟩
        · exact .inl h0
        · exact .inr ⟨gg, rest, e4, Nat.le_trans HZ.out e5, e6⟩
      · have HBADR := hid (HNO.out htx)
        have heq : ((⟨(trR (rpJs ps)).toArray⟩ : ByteArray).toList == t.toList) = false := by rw [Lib.toList_data, HDT.out]; simpa using htx
        have heq2 : ((⟨(trR (rpJs ps)).toArray⟩ : ByteArray).toList != t.toList) = true := by rw [bne, heq]; rfl
        have heq3 : ¬ (⟨(trR (rpJs ps)).toArray⟩ : ByteArray).toList = t.toList := by simpa using heq
        obtain ⟨T, hT⟩ : ∃ T, (⟨(trR (rpJs ps)).toArray⟩ : ByteArray) = T := ⟨_, rfl⟩
        rw [hT] at heq heq2 heq3 HTT
        clear hA hO hB hS2 hg2 hlen hlw htx hT
        go_wp2_with fail
        refine HTT.out.mono ?_
        rintro e w3 ⟨rfl, hB3⟩
        have HB3 := hid hB3
        clear hB3
        go_wp2_with fail
        exact bodyPost_ret (v := .tuple #[.slice none 0 0, .int .i64 5]) (by simp [results, Tryd.results5, go_sem]) rfl ⟨_, by rw [HBADR.out], by rw [HBADR.out]; exact OwnP.nil _ _ _ _, HB2.out.trans (HB3.out.mono HB2.out.size)⟩
end Go.Proofs.YtcbhlljgcndhdaaDoor
