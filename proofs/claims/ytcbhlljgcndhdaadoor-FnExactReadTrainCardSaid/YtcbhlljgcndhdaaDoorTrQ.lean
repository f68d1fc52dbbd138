/- spec.ReadTrain. -/
import Derived.Test.YtcbhlljgcndhdaaDoorTrM
import Derived.Test.YtcbhlljgcndhdaaDoorSpC
import Derived.Test.YtcbhlljgcndhdaaDoorOwnP
namespace Go.Proofs.YtcbhlljgcndhdaaDoor
open Go.RowKit
set_option linter.unusedVariables false
set_option linter.unusedSimpArgs false
theorem pvals_snocT (l : List (Int × Int)) (a b : Int) : pvals (l ++ [(a, b)]) = pvals l ++ [.int .i16 a, .int .i16 b] := by
  have e : nums (l ++ [(a, b)]) (l.length * 2) = nums l (l.length * 2) := by
    unfold nums
    apply List.map_congr_left
    intro i hi
    have hi' : i / 2 < l.length := by have := List.mem_range.1 hi; omega
    simp only [num, pd, pn, List.getElem?_append_left hi']
  have p1 : pd (l ++ [(a, b)]) l.length = a := by simp [pd]
  have p2 : pn (l ++ [(a, b)]) l.length = b := by simp [pn]
  unfold pvals
  rw [show (l ++ [(a, b)]).length * 2 = l.length * 2 + 1 + 1 by simp; omega, nums_succ, nums_succ, e, num_even, num_odd, p1, p2]
  simp
/-- the first pairs of a train that is told from its end -/
def trJs (ps : List (List UInt8)) : List (Int × Int) := ps.map fun w => (trW w).getD (0, 0)
theorem trJs_len (ps : List (List UInt8)) : (trJs ps).length = ps.length := by simp [trJs]
theorem trJs_snoc {ps : List (List UInt8)} {k : Nat} {p : List UInt8} {a b : Int} (h : ps[k]? = some p) (hp : trW p = some (a, b)) : trJs (ps.take (k + 1)) = trJs (ps.take k) ++ [(a, b)] := by
  have hk : k < ps.length := by
    by_cases c : k < ps.length
    · exact c
    · rw [List.getElem?_eq_none (by omega)] at h; cases h
  rw [List.getElem?_eq_getElem hk] at h
  injection h with h
  rw [List.take_succ_eq_append_getElem hk, h]
  simp [trJs, hp]
theorem all_snoc {ps : List (List UInt8)} {k : Nat} {p : List UInt8} {f : List UInt8 → Bool} (h : ps[k]? = some p) (hp : f p = true) (ha : (ps.take k).all f = true) : (ps.take (k + 1)).all f = true := by
  have hk : k < ps.length := by
    by_cases c : k < ps.length
    · exact c
    · rw [List.getElem?_eq_none (by omega)] at h; cases h
  rw [List.getElem?_eq_getElem hk] at h
  injection h with h
  rw [List.take_succ_eq_append_getElem hk, h, List.all_append, ha]
  simp [hp]
def isT (w : List UInt8) : Bool := (trW w).isSome
theorem trJ_bad {l p : List UInt8} {k : Nat} (h : (spl 32 l)[k]? = some p) (hp : trW p = none) : trJ l = none := by
  have : ((spl 32 l).all fun w => (trW w).isSome) = false := by
    rw [List.all_eq_false]
    exact ⟨p, List.mem_of_getElem? h, by simp [hp]⟩
  simp [trJ, this]
theorem trJs_bd {ps : List (List UInt8)} (h : ps.all isT = true) : ∀ k, k < ps.length → wheelOk (pd (trJs ps) k) ∧ wheelOk (pn (trJs ps) k) := fun k hk => by
  have hs : (trW ps[k]).isSome = true := List.all_eq_true.1 h _ (List.getElem_mem hk)
  obtain ⟨⟨a, b⟩, hab⟩ := Option.isSome_iff_exists.1 hs
  obtain ⟨ha, hb, _⟩ := trW_out hab
  unfold pd pn trJs wheelOk
  rw [List.getElem?_map, List.getElem?_eq_getElem hk]
  simp only [Option.map_some, Option.getD_some]
  rw [hab]
  exact ⟨ha, hb⟩
theorem trJ_ok {l : List UInt8} (h : (spl 32 l).all isT = true) (ho : okT (trJs (spl 32 l)) = true) : trJ l = some (trJs (spl 32 l)) := by
  have h4 := (okT_out ho).2.1
  rw [trJs_len] at h4
  unfold trJ
  rw [if_pos]
  · rfl
  · simp only [Bool.and_eq_true, decide_eq_true_eq]
    exact ⟨h, h4⟩
theorem trJ_not {l : List UInt8} (h : (spl 32 l).all isT = true) (ho : okT (trJs (spl 32 l)) = false) : trJ l = none := by
  unfold trJ
  rw [if_neg]
  simp only [Bool.and_eq_true, decide_eq_true_eq]
  rintro ⟨_, h4⟩
  have h1 : 1 ≤ (spl 32 l).length := by
    cases hh : spl 32 l with
    | nil => exact absurd hh (spl_ne 32 l)
    | cons => simp
  have := okT_all (js := trJs (spl 32 l)) (by rw [trJs_len]; exact h1) (by rw [trJs_len]; exact h4) (fun k hk => trJs_bd h k (by rw [trJs_len] at hk; exact hk))
  rw [ho] at this; cases this
theorem isT_len {ps : List (List UInt8)} (h : ps.all isT = true) : ∀ p ∈ ps, 1 ≤ p.length := fun p hp => by
  have hs : (trW p).isSome = true := List.all_eq_true.1 h p hp
  obtain ⟨⟨a, b⟩, hab⟩ := Option.isSome_iff_exists.1 hs
  obtain ⟨_, _, he⟩ := trW_out hab
  rw [he]; unfold prT; simp; omega
def RtR (r : List (Int × Int) × Int) (w : World) (e : Ending) (w' : World) : Prop := ∃ v, e = .returned (.tuple #[v, .int .i64 r.2]) ∧ OwnP w' w.heap.size v r.1 ∧ Below w.heap.size w w'
def rtR (l : List UInt8) : List (Int × Int) × Int := match trJ l with | some js => (js, 0) | none => ([], 5)
theorem rtR_no {l : List UInt8} (h : trJ l = none) : rtR l = ([], 5) := by simp [rtR, h]
theorem rtR_yes {l : List UInt8} {js : List (Int × Int)} (h : trJ l = some js) : rtR l = (js, 0) := by simp [rtR, h]
theorem owns_pst {w : World} {base n : Nat} {v : Value} {js : List (Int × Int)} (h : w.ownsRow base 36 2 v n (pvals js)) (hn : 1 ≤ n) (hl : js.length ≤ 1048576) : ∃ g cp, v = .slice (some ⟨g, 0, none⟩) n cp ∧ base ≤ g ∧ Pst w g js := by
  rcases h.2 with ⟨_, h2⟩ | ⟨g, cap, cur, h2, h3, h4, h5, h6, h7, h8⟩
  · omega
  · have hr : Row w g 36 (pvals js ++ cur.toList.drop (n * 2)) := by
      unfold Row
      rw [h4, ← h8, List.take_append_drop]
    exact ⟨g, cap, h2, h3, OwnP.pst hr hl⟩
theorem spl_two {p x y : List UInt8} (h : spl 47 p = [x, y]) : trW p = if canB x && canB y && tooth (numV x) && tooth (numV y) then some ((numV x : Int), (numV y : Int)) else none := by
  unfold trW; rw [h]
theorem spl_not {p : List UInt8} (h : (spl 47 p).length ≠ 2) : trW p = none := by
  unfold trW
  split
  · rename_i x y hs; rw [hs] at h; simp at h
  · rfl
theorem tooth_yes {n : Nat} (h : wheelOk (n : Int)) : tooth n = true := by
  unfold wheelOk at h
  unfold tooth
  simp; omega
theorem tooth_no {n : Nat} (h : ¬ wheelOk (n : Int)) : tooth n = false := by
  unfold wheelOk at h
  unfold tooth
  by_cases h1 : 8 ≤ n
  · have : ¬ n ≤ 120 := fun h2 => h ⟨by omega, by omega⟩
    simp [this]
  · simp [h1]
set_option maxRecDepth 100000 in
set_option maxHeartbeats 4000000 in
theorem specReadTrain_any (t : ByteArray) (ht : t.size ≤ 1048576) (w : World) : Calls Tryd.prog 4 #[.string t] w (RtR (rtR t.data.toList) w) := by
  obtain ⟨i0, hi0, iz0, iz1, iz2⟩ := info_parts Tryd.infoPair
  have HSP := hid (l01Split_any t ht 32 32 (by decide) w)
  have hsz : t.size = t.data.toList.length := by rw [Array.length_toList]; rfl
  obtain ⟨l, hl⟩ : ∃ l, t.data.toList = l := ⟨_, rfl⟩
  rw [hl] at HSP hsz ⊢
  have hsum := spl_sum 32 l
  have hml := fun p hp => spl_mem_len (c := 32) (l := l) (p := p) hp
  have hbad := fun d p (h1 : (spl 32 l)[d]? = some p) h2 => rtR_no (trJ_bad h1 h2)
  have hyes := fun h1 h2 => rtR_yes (trJ_ok (l := l) h1 h2)
  have hnot := fun h1 h2 => rtR_no (trJ_not (l := l) h1 h2)
  have hne := spl_ne 32 l
  obtain ⟨ps, hps⟩ : ∃ ps, spl 32 l = ps := ⟨_, rfl⟩
  obtain ⟨R, hR⟩ : ∃ R, rtR l = R := ⟨_, rfl⟩
  rw [hps] at HSP hsum hml hbad hyes hnot hne
  rw [hR] at hbad hyes hnot ⊢
  have hm1 : 1 ≤ ps.length := by cases ps with | nil => exact absurd rfl hne | cons => simp
  have hmb : ps.length ≤ 1048577 := by omega
  have HSUM := hid hsum; have HML := hid hml; have HBAD := hid hbad; have HYES := hid hyes; have HNOT := hid hnot
  have HLT := hid (show l.length ≤ 1048576 by omega)
  obtain ⟨m, hm⟩ : ∃ m, ps.length = m := ⟨_, rfl⟩
  rw [hm] at hm1 hmb
  have HM := hid hm
  clear hsum hml hbad hyes hnot hsz hps hR hl hm ht hne
  go_enter Tryd.func4, Tryd.ntmps4
  go_wp2_with fail
  refine HSP.out.mono ?_
  rintro e w1 ⟨v, rfl, hO, hB⟩
  obtain ⟨g, cp, rfl, hg, hcp, hgz, hcl⟩ := ownsS_addr hO (by rw [bas_len, HM.out]; exact hm1)
  rw [bas_len, HM.out]
  have HCL := hid hcl; have HB := hid hB; have HGZ := hid hgz
  have HZ := hid hB.size
  clear hO hB hcl hcp hgz hg HSP
  go_wp2_with fail
  go_loopw [5, 6] (fun s5 i wr => ∃ (k : Nat) (v : Value), k ≤ m ∧ i = .int .i64 k ∧ v = s5 ∧ (ps.take k).all isT = true ∧ wr.ownsRow w1.heap.size 36 2 v k (pvals (trJs (ps.take k))) ∧ Below w1.heap.size w1 wr) (fun _ i _ => m - (intOf i).toNat)
  case atStart => exact ⟨0, _, Nat.zero_le _, rfl, rfl, rfl, World.ownsRow_made _ _ 0 (Nat.le_refl _) (by decide) rfl, (Below.refl _ _).alloc (Nat.le_refl _) _⟩
  case round =>
    obtain ⟨k, v, hk, rfl, rfl, hA, hO, hB⟩ := hrel
    by_cases hkm : k < m
    · have k1 : (k : Int) < (m : Int) := by omega
      have k0 : (0 : Int) ≤ (k : Int) := by omega
      have w1' : IntKind.i64.wrap ((k : Int) + 1) = (k : Int) + 1 := IntWalk.i64_in _ (by omega)
      have hkl : k < ps.length := by rw [HM.out]; exact hkm
      have hpk : ps[k]? = some ps[k] := List.getElem?_eq_getElem hkl
      obtain ⟨p, hp⟩ : ∃ p, ps[k] = p := ⟨_, rfl⟩
      rw [hp] at hpk
      have hpl := HML.out p (List.mem_of_getElem? hpk)
      have hcell : wr.cell? ⟨g, k, none⟩ = some (.string ⟨p.toArray⟩) := (hB.cell (p := ⟨g, k, none⟩) HGZ.out).trans (HCL.out k _ (by simp [bas, hpk]))
      have HSPK := hid (fun W => l01Split_any ⟨p.toArray⟩ (by show p.toArray.size ≤ _; have := HLT.out; simp; omega) 47 47 (by decide) W)
      rw [show ((⟨p.toArray⟩ : ByteArray).data.toList) = p from rfl] at HSPK
      have HPK := hid hpk; have HO := hid hO; have HB3 := hid hB; have HA := hid hA
      have HPL := hid (show p.length ≤ 1048576 by have := HLT.out; omega)
      have hz1 := hB.size
      obtain ⟨P, hP⟩ : ∃ P, (⟨p.toArray⟩ : ByteArray) = P := ⟨_, rfl⟩
      rw [hP] at hcell HSPK
      clear hA hO hB hpk hp hP hpl hkl
      go_wp2_with fail
      refine (HSPK.out _).mono ?_
      rintro e w2 ⟨v2, rfl, hO2, hB2⟩
      have hne2 : 1 ≤ (spl 47 p).length := by
        cases hh : spl 47 p with
        | nil => exact absurd hh (spl_ne 47 p)
        | cons => simp
      obtain ⟨g2, cp2, rfl, _, _, hgz2, hcl2⟩ := ownsS_addr hO2 (by rw [bas_len]; exact hne2)
      rw [bas_len] at *
      have HB4 := hid (HB.out.trans ((HB3.out.trans (hB2.mono hz1)).mono HZ.out))
      have hz2 : w.heap.size ≤ w2.heap.size := HB4.out.size
      have HB5 := hid (HB3.out.trans (hB2.mono hz1))
      have HO5 := hid (owns_belowP HO.out hB2)
      by_cases h2 : (spl 47 p).length = 2
      · obtain ⟨x, y, hxy⟩ : ∃ x y, spl 47 p = [x, y] := by
          match hh : spl 47 p, h2 with
          | [x, y], _ => exact ⟨x, y, rfl⟩
        have HTW := hid (spl_two hxy)
        have hx : x.length ≤ p.length := spl_mem_len (c := 47) (by rw [hxy]; simp)
        have hy : y.length ≤ p.length := spl_mem_len (c := 47) (by rw [hxy]; simp)
        rw [hxy] at hcl2 ⊢
        have cx := hcl2 0 ⟨x.toArray⟩ (by simp [bas])
        have cy := hcl2 1 ⟨y.toArray⟩ (by simp [bas])
        have HNX := hid (fun W => l01Number_any ⟨x.toArray⟩ (by show x.toArray.size ≤ _; have := HPL.out; simp; omega) W)
        have HNY := hid (fun W => l01Number_any ⟨y.toArray⟩ (by show y.toArray.size ≤ _; have := HPL.out; simp; omega) W)
        rw [show ((⟨x.toArray⟩ : ByteArray).data.toList) = x from rfl] at HNX
        rw [show ((⟨y.toArray⟩ : ByteArray).data.toList) = y from rfl] at HNY
        obtain ⟨X, hX⟩ : ∃ X, (⟨x.toArray⟩ : ByteArray) = X := ⟨_, rfl⟩
        obtain ⟨Y, hY⟩ : ∃ Y, (⟨y.toArray⟩ : ByteArray) = Y := ⟨_, rfl⟩
        rw [hX] at cx HNX
        rw [hY] at cy HNY
        simp only [List.length_cons, List.length_nil, Nat.zero_add, Nat.reduceAdd]
        clear hX hY hx hy hxy h2 hcl2 hgz2 hO2 hB2 hne2
        by_cases ca : canB x = true
        · rw [numR_yes ca] at HNX
          by_cases cb : canB y = true
          · rw [numR_yes cb] at HNY
            have HTX := hid (fun h => tooth_yes (n := numV x) h); have HTY := hid (fun h => tooth_yes (n := numV y) h); have HUX := hid (fun h => tooth_no (n := numV x) h); have HUY := hid (fun h => tooth_no (n := numV y) h)
            have bx : (numV x : Int) < 1000000000 := by
              have h := ca; unfold canB at h; simp only [Bool.and_eq_true, decide_eq_true_eq] at h
              have h2 := numV_lt x h.2
              have h3 : 10 ^ x.length ≤ 10 ^ 9 := Nat.pow_le_pow_right (by omega) h.1.1.2
              omega
            have bY : (numV y : Int) < 1000000000 := by
              have h := cb; unfold canB at h; simp only [Bool.and_eq_true, decide_eq_true_eq] at h
              have h2 := numV_lt y h.2
              have h3 : 10 ^ y.length ≤ 10 ^ 9 := Nat.pow_le_pow_right (by omega) h.1.1.2
              omega
            rw [ca, cb] at HTW
            obtain ⟨tx, htx⟩ : ∃ z, tooth (numV x) = z := ⟨_, rfl⟩
            obtain ⟨ty, hty⟩ : ∃ z, tooth (numV y) = z := ⟨_, rfl⟩
            rw [htx] at HTW HTX HUX
            rw [hty] at HTW HTY HUY
            obtain ⟨a, ha⟩ : ∃ a : Int, (numV x : Int) = a := ⟨_, rfl⟩
            obtain ⟨b, hb⟩ : ∃ b : Int, (numV y : Int) = b := ⟨_, rfl⟩
            have a0 : 0 ≤ a := by omega
            have b0 : 0 ≤ b := by omega
            rw [ha] at HNX HTW bx HTX HUX
            rw [hb] at HNY HTW bY HTY HUY
            clear ha hb ca cb htx hty
            by_cases ta : wheelOk a
            · have HTA := hid (fun W => teeth_yes a W ta)
              by_cases tb : wheelOk b
              · have HTB := hid (fun W => teeth_yes b W tb)
                have HTS := hid (show trW p = some (a, b) by rw [HTW.out, HTX.out ta, HTY.out tb]; rfl)
                have HSN := hid (trJs_snoc HPK.out HTS.out)
                have HAL := hid (all_snoc (f := isT) HPK.out (by unfold isT; rw [HTS.out]; rfl) HA.out)
                have wa : IntKind.i16.wrap a = a := by unfold wheelOk at ta; simp only [IntKind.wrap, IntKind.signed, IntKind.bits]; simp; omega
                have wb : IntKind.i16.wrap b = b := by unfold wheelOk at tb; simp only [IntKind.wrap, IntKind.signed, IntKind.bits]; simp; omega
                have HO4 := hid (HO5.out.alloc (.cells #[.int .i16 a, .int .i16 b] 36))
                have news := Row.new w2 36 [.int .i16 a, .int .i16 b]
                have n0 := news.cell 0
                have n1 := news.cell 1
                simp only [List.getElem?_cons_zero, List.getElem?_cons_succ] at n0 n1
                have nc := hid (show ∀ j u, ([.int .i16 a, .int .i16 b] : List Value)[j]? = some u → (w2.alloc (.cells #[.int .i16 a, .int .i16 b] 36)).cell? ((⟨w2.heap.size, 0, none⟩ : Addr).add j) = some u from fun j u hj => by
                  rw [show (⟨w2.heap.size, 0, none⟩ : Addr).add j = ⟨w2.heap.size, j, none⟩ from by unfold Addr.add; split <;> simp_all]
                  exact (news.cell j).trans hj)
                have HONE := hid (show ∀ u ∈ ([.int .i16 a, .int .i16 b] : List Value), u.oneCell' = true from by intro u hu; simp at hu; rcases hu with rfl | rfl <;> rfl)
                have HB7 := hid (show Below w1.heap.size w1 (w2.alloc (.cells #[.int .i16 a, .int .i16 b] 36)) from HB5.out.alloc HB5.out.size _)
                have HBW := hid (show w1.heap.size ≤ (w2.alloc (.cells #[.int .i16 a, .int .i16 b] 36)).heap.size by simp; have := HB5.out.size; omega)
                have HKB := hid (show k ≤ 1048577 by omega)
                clear ta tb news n0 n1
                go_wp2_with fail
                refine (HNX.out _).mono ?_
                rintro e v4 ⟨rfl, hw⟩
                subst hw
                go_wp2_with fail
                refine (HNY.out _).mono ?_
                rintro e v5 ⟨rfl, hw⟩
                subst hw
                go_wp2_with fail
                refine (HTA.out _).mono ?_
                rintro e v6 ⟨rfl, hw⟩
                subst hw
                go_wp2_with fail
                refine (HTB.out _).mono ?_
                rintro e v7 ⟨rfl, hw⟩
                subst hw
                go_wp2_with (at_builtin; refine wpList_append_own _ rfl _ _ 23 rfl w1.heap.size 36 i0 (.agg #[.int .i16 0, .int .i16 0]) 2 4 Tryd.underlying23 hi0 iz0 iz1 iz2 rfl (by decide) _ _ _ rfl HO4.out ⟨v5.heap.size, 0, none⟩ 1 1 ([.int .i16 a, .int .i16 b] : List Value) rfl rfl nc.out HONE.out (by have := HKB.out; unfold maxLen; omega) (by have := HKB.out; omega) HBW.out ?_; rintro v' w7 hown' hgrow -; have OWN := hid hown'; have GRW := hid hgrow; clear hown' hgrow)
                have bel := HB7.out.grown GRW.out HBW.out (fun kk e => by have := (HO4.out.lt kk e).1; omega)
                have OW := OWN.out
                rw [show pvals (trJs (ps.take k)) ++ [.int .i16 a, .int .i16 b] = pvals (trJs (ps.take (k + 1))) from by rw [HSN.out, pvals_snocT]] at OW
                have HOW := hid OW
                have HBE := hid bel
                clear bel OW
                go_wp2_with fail
                go_roundw
                case rel => exact ⟨k + 1, v', by omega, by go_num, rfl, HAL.out, HOW.out, HBE.out⟩
                case measure => simp [intOf]; omega
              · have HTB := hid (fun W => teeth_no b W tb)
                have HBADR := hid (HBAD.out k p HPK.out (by rw [HTW.out, HTX.out ta, HUY.out tb]; rfl))
                clear ta tb
                go_wp2_with fail
                refine (HNX.out _).mono ?_
                rintro e v4 ⟨rfl, hw⟩
                subst hw
                go_wp2_with fail
                refine (HNY.out _).mono ?_
                rintro e v5 ⟨rfl, hw⟩
                subst hw
                go_wp2_with fail
                refine (HTA.out _).mono ?_
                rintro e v6 ⟨rfl, hw⟩
                subst hw
                go_wp2_with fail
                refine (HTB.out _).mono ?_
                rintro e v7 ⟨rfl, hw⟩
                subst hw
                go_wp2_with fail
                exact bodyPost_ret (v := .tuple #[.slice (some ⟨v5.heap.size, 0, none⟩) 0 0, .int .i64 5]) (by simp [results, Tryd.results4, go_sem]) rfl ⟨_, by rw [HBADR.out], by rw [HBADR.out]; exact OwnP.nil _ _ _ _, HB4.out.alloc hz2 _⟩
            · have HTA := hid (fun W => teeth_no a W ta)
              have HBADR := hid (HBAD.out k p HPK.out (by rw [HTW.out, HUX.out ta]; rfl))
              clear ta
              go_wp2_with fail
              refine (HNX.out _).mono ?_
              rintro e v4 ⟨rfl, hw⟩
              subst hw
              go_wp2_with fail
              refine (HNY.out _).mono ?_
              rintro e v5 ⟨rfl, hw⟩
              subst hw
              go_wp2_with fail
              refine (HTA.out _).mono ?_
              rintro e v6 ⟨rfl, hw⟩
              subst hw
              go_wp2_with fail
              exact bodyPost_ret (v := .tuple #[.slice (some ⟨v5.heap.size, 0, none⟩) 0 0, .int .i64 5]) (by simp [results, Tryd.results4, go_sem]) rfl ⟨_, by rw [HBADR.out], by rw [HBADR.out]; exact OwnP.nil _ _ _ _, HB4.out.alloc hz2 _⟩
          · rw [numR_no (by simpa using cb)] at HNY
            have HBADR := hid (HBAD.out k p HPK.out (by rw [HTW.out, show canB y = false by simpa using cb]; simp))
            obtain ⟨a, ha⟩ : ∃ a : Int, (numV x : Int) = a := ⟨_, rfl⟩
            rw [ha] at HNX
            clear ha ca cb
            go_wp2_with fail
            refine (HNX.out _).mono ?_
            rintro e v4 ⟨rfl, hw⟩
            subst hw
            go_wp2_with fail
            refine (HNY.out _).mono ?_
            rintro e v5 ⟨rfl, hw⟩
            subst hw
            go_wp2_with fail
            exact bodyPost_ret (v := .tuple #[.slice (some ⟨v5.heap.size, 0, none⟩) 0 0, .int .i64 5]) (by simp [results, Tryd.results4, go_sem]) rfl ⟨_, by rw [HBADR.out], by rw [HBADR.out]; exact OwnP.nil _ _ _ _, HB4.out.alloc hz2 _⟩
        · rw [numR_no (by simpa using ca)] at HNX
          have HBADR := hid (HBAD.out k p HPK.out (by rw [HTW.out, show canB x = false by simpa using ca]; simp))
          clear ca
          obtain ⟨b, okb, hbb⟩ : ∃ (b : Int) (okb : Bool), numR y = (b, okb) := ⟨_, _, rfl⟩
          rw [hbb] at HNY
          clear hbb
          go_wp2_with fail
          refine (HNX.out _).mono ?_
          rintro e v4 ⟨rfl, hw⟩
          subst hw
          go_wp2_with fail
          refine (HNY.out _).mono ?_
          rintro e v5 ⟨rfl, hw⟩
          subst hw
          go_wp2_with fail
          exact bodyPost_ret (v := .tuple #[.slice (some ⟨v5.heap.size, 0, none⟩) 0 0, .int .i64 5]) (by simp [results, Tryd.results4, go_sem]) rfl ⟨_, by rw [HBADR.out], by rw [HBADR.out]; exact OwnP.nil _ _ _ _, HB4.out.alloc hz2 _⟩
      · have HBADR := hid (HBAD.out k p HPK.out (spl_not h2))
        obtain ⟨q, hq⟩ : ∃ q, (spl 47 p).length = q := ⟨_, rfl⟩
        rw [hq] at h2 ⊢
        have hq2 : ((q : Int) != 2) = true := by simp; omega
        have hq3 : ¬ (q : Int) = 2 := by omega
        clear hq h2 hcl2 hgz2 hO2 hB2 hne2
        go_wp2_with fail
        exact bodyPost_ret (v := .tuple #[.slice (some ⟨w2.heap.size, 0, none⟩) 0 0, .int .i64 5]) (by simp [results, Tryd.results4, go_sem]) rfl ⟨_, by rw [HBADR.out], by rw [HBADR.out]; exact OwnP.nil _ _ _ _, HB4.out.alloc hz2 _⟩
    · obtain rfl : k = m := by omega
      have k1 : ¬ (k : Int) < (k : Int) := by omega
      rw [List.take_of_length_le (by rw [HM.out]; exact Nat.le_refl _)] at hA hO
      have hle : ps.length ≤ 1048576 := by
        have a := sum_ge ps (isT_len hA)
        have b := HSUM.out; have d := HLT.out
        omega
      have hlen := trJs_len ps
      obtain ⟨g2, cp2, rfl, hg2, hS2⟩ := owns_pst hO hm1 (by rw [hlen]; exact hle)
      have hbd16 : Bd16 (trJs ps) := fun j hj => by
        have := trJs_bd hA j (by rw [← hlen]; exact hj)
        unfold wheelOk at this
        omega
      have HLTR := hid (l03Train_any g2 k cp2 (trJs ps) wr hS2 (by rw [hlen]; exact HM.out.symm) hbd16)
      have HOB := hid (OwnP.of_owns hO (by rw [hlen]; exact hle))
      have HB2 := hid (HB.out.trans (hB.mono HZ.out))
      have HBR := hid hB
      cases hr : okT (trJs ps) with
      | false =>
        rw [hr] at HLTR
        have HBADR := hid (HNOT.out hA hr)
        clear hr hA hO hB hS2 hbd16 hg2 hlen
        go_wp2_with fail
        refine HLTR.out.mono ?_
        rintro e v3 ⟨rfl, d, rfl⟩
        go_wp2_with fail
        exact bodyPost_ret (v := .tuple #[.slice (some ⟨wr.heap.size, 0, none⟩) 0 0, .int .i64 5]) (by simp [results, Tryd.results4, go_sem]) rfl ⟨_, by rw [HBADR.out], by rw [HBADR.out]; exact OwnP.nil _ _ _ _, (below_drewN HB2.out d).alloc HB2.out.size _⟩
      | true =>
        rw [hr] at HLTR
        have HGOOD := hid (HYES.out hA hr)
        clear hr hA hO hB hS2 hbd16 hg2 hlen
        go_wp2_with fail
        refine HLTR.out.mono ?_
        rintro e v3 ⟨rfl, d, rfl⟩
        go_wp2_with fail
        refine bodyPost_ret (v := .tuple #[.slice (some ⟨g2, 0, none⟩) k cp2, .int .i64 0]) (by simp [results, Tryd.results4, go_sem]) rfl ⟨_, by rw [HGOOD.out], ?_, below_drewN HB2.out d⟩
        rw [HGOOD.out]
        obtain ⟨a, cap, e1, e2, e3⟩ := HOB.out.keep (below_drewN (Below.refl _ _) d)
        refine ⟨a, cap, e1, e2, ?_⟩
        rcases e3 with h0 | ⟨gg, rest, e4, e5, e6⟩
        · exact .inl h0
        · exact .inr ⟨gg, rest, e4, Nat.le_trans HZ.out e5, e6⟩
end Go.Proofs.YtcbhlljgcndhdaaDoor
