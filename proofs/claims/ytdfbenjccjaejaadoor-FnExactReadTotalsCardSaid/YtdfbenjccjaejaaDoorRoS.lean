/- spec.ReadTotals. -/
import Derived.Test.YtdfbenjccjaejaaDoorRoN
import Derived.Test.YtdfbenjccjaejaaDoorRoL
import Derived.Test.YtdfbenjccjaejaaDoorNmE
import Derived.Test.YtdfbenjccjaejaaDoorSpC
namespace Go.Proofs.YtdfbenjccjaejaaDoor
open Go.RowKit
set_option linter.unusedVariables false
set_option linter.unusedSimpArgs false
theorem linesJ_all {α : Type} {W : List UInt8 → Option α} {l : List UInt8} {xs : List α} (h : (spl 10 l).getLast? = some []) (hx : (spl 10 l).dropLast.map W = xs.map some) : linesJ W l = some xs := by
  have ha : ((spl 10 l).dropLast.all fun p => (W p).isSome) = true := by
    rw [List.all_eq_true]
    intro p hp
    have hm : W p ∈ (spl 10 l).dropLast.map W := List.mem_map_of_mem hp
    rw [hx, List.mem_map] at hm
    obtain ⟨a, _, e⟩ := hm
    rw [← e]; rfl
  unfold linesJ
  rw [if_pos ⟨h, ha⟩]
  have := filterMap_all _ ha
  rw [hx] at this
  rw [← map_some_inj this]
theorem linesJ_last {α : Type} {W : List UInt8 → Option α} {l : List UInt8} (h : (spl 10 l).getLast? ≠ some []) : linesJ W l = none := by
  unfold linesJ
  rw [if_neg (fun c => h c.1)]
theorem linesJ_bad {α : Type} {W : List UInt8 → Option α} {l p : List UInt8} (h : p ∈ (spl 10 l).dropLast) (hp : W p = none) : linesJ W l = none := by
  unfold linesJ
  rw [if_neg]
  rintro ⟨_, c⟩
  have := List.all_eq_true.1 c p h
  rw [hp] at this
  cases this
theorem take_last {α : Type} (l : List α) : l.dropLast = l.take (l.length - 1) := List.dropLast_eq_take
theorem twoW_two {p x y : List UInt8} (h : spl 32 p = [x, y]) : twoW p = if canD x && canD y then some ((numV x : Int), (numV y : Int)) else none := by
  unfold twoW; rw [h]
theorem twoW_not {p : List UInt8} (h : (spl 32 p).length ≠ 2) : twoW p = none := by
  unfold twoW
  split
  · rename_i x y hs; rw [hs] at h; simp at h
  · rfl
set_option maxRecDepth 100000 in
set_option maxHeartbeats 4000000 in
theorem specReadTotals_any (t : ByteArray) (ht : t.size ≤ 1048576) (w : World) : Calls Tryd.prog 4 #[.string t] w (RtR (rdR twoW okTs t.data.toList) w) := by
  obtain ⟨i0, hi0, iz0, iz1, iz2⟩ := info_parts Tryd.infoTotal
  have HSP := hid (l01Split_any t ht 10 10 (by decide) w)
  have hsz : t.size = t.data.toList.length := by rw [Array.length_toList]; rfl
  obtain ⟨l, hl⟩ : ∃ l, t.data.toList = l := ⟨_, rfl⟩
  rw [hl] at HSP hsz ⊢
  have hsum := spl_sum 10 l
  have hml := fun p hp => spl_mem_len (c := 10) (l := l) (p := p) hp
  have hlast := fun h => rdR_none (ok := okTs) (linesJ_last (W := twoW) (l := l) h)
  have hbad := fun p (h1 : p ∈ (spl 10 l).take ((spl 10 l).length - 1)) h2 => rdR_none (ok := okTs) (linesJ_bad (W := twoW) (l := l) (by rw [take_last]; exact h1) h2)
  have hall := fun (xs : List (Int × Int)) (h : (spl 10 l).getLast? = some []) (hx : ((spl 10 l).take ((spl 10 l).length - 1)).map twoW = xs.map some) => linesJ_all (W := twoW) h (by rw [take_last]; exact hx)
  have hyes := fun xs h hx hk => rdR_some (ok := okTs) (hall xs h hx) hk
  have hno := fun xs h hx hk => rdR_bad (ok := okTs) (hall xs h hx) hk
  have hne := spl_ne 10 l
  obtain ⟨ls, hls⟩ : ∃ ps, spl 10 l = ps := ⟨_, rfl⟩
  obtain ⟨R, hR⟩ : ∃ R, rdR twoW okTs l = R := ⟨_, rfl⟩
  rw [hls] at HSP hsum hml hlast hbad hall hyes hno hne
  rw [hR] at hlast hbad hyes hno ⊢
  obtain ⟨m, hm⟩ : ∃ m, ls.length = m + 1 := by
    cases ls with
    | nil => exact absurd rfl hne
    | cons a b => exact ⟨b.length, rfl⟩
  have hmb : m ≤ 1048576 := by omega
  rw [hm, Nat.add_sub_cancel] at hbad hall hyes hno
  obtain ⟨la, hla⟩ : ∃ la, ls[m]? = some la := ⟨_, List.getElem?_eq_getElem (by omega)⟩
  have hgl : ls.getLast? = some la := by rw [List.getLast?_eq_getElem?, hm, Nat.add_sub_cancel]; exact hla
  rw [hgl] at hlast hyes hno
  have HML := hid hml; have HBAD := hid hbad; have HYES := hid hyes; have HNO := hid hno; have HLAST := hid hlast; have HLA := hid hla
  have HLT := hid (show l.length ≤ 1048576 by omega)
  obtain ⟨q, hq⟩ : ∃ q, ls.length = q := ⟨_, rfl⟩
  have HM := hid (show q = m + 1 by omega)
  have HLN := hid hq
  have q1 : IntKind.i64.wrap ((q : Int) - 1) = (m : Int) := by rw [IntWalk.i64_in _ (by omega)]; omega
  have q2 : (0 : Int) ≤ (m : Int) := by omega
  have q3 : (m : Int) < (q : Int) := by omega
  have q4 : (q : Int) - 1 = (m : Int) := by omega
  clear hsum hml hlast hbad hall hyes hno hsz hls hR hl hm ht hne hgl hla hq
  go_enter Tryd.func4, Tryd.ntmps4
  go_wp2_with fail
  with_reducible refine HSP.out.mono ?_
  rintro e w1 ⟨v, rfl, hO, hB⟩
  obtain ⟨g, cp, rfl, hg, hcp, hgz, hcl⟩ := ownsS_addr hO (by rw [bas_len, HLN.out]; omega)
  rw [bas_len, HLN.out]
  have HCL := hid hcl; have HB := hid hB; have HGZ := hid hgz
  have HZ := hid hB.size
  have HNB := hid ((Below.refl w1.heap.size w1).alloc (Nat.le_refl _) (.cells #[] 33))
  have hlc := HNB.out.cell (p := ⟨g, m, none⟩) hgz |>.trans (hcl m ⟨la.toArray⟩ (by simp [bas, HLA.out]))
  obtain ⟨P, hP⟩ : ∃ P, (⟨la.toArray⟩ : ByteArray) = P := ⟨_, rfl⟩
  have hPL : P.toList = la := by rw [← hP, Lib.toList_data]
  rw [hP] at hlc
  obtain ⟨b0, hb0, hb1, hb2⟩ : ∃ b0 : Bool, P.toList.isEmpty = b0 ∧ (b0 = true → la = []) ∧ (b0 = false → R = ([], 5)) := by
    refine ⟨_, rfl, fun h => ?_, fun h => HLAST.out ?_⟩
    · rw [hPL] at h; simpa using h
    · rw [hPL] at h
      intro e
      injection e with e
      rw [e] at h; cases h
  have hb3 : (P.toList == []) = b0 := by rw [← hb0]; cases P.toList <;> rfl
  have HB1 := hid hb1; have HB2 := hid hb2
  clear hO hB hcl hcp hgz hg HSP hP hPL hb1 hb2
  go_wp2_with fail
  go_loopw [5, 6, 7] (fun s5 s6 i wr => ∃ (k : Nat) (v : Value) (xs : List (Int × Int)) (b : Bool), k ≤ m ∧ i = .int .i64 k ∧ v = s5 ∧ .bool b = s6 ∧ xs.length = k ∧ (b = true → la = [] ∧ (ls.take k).map twoW = xs.map some) ∧ (b = false → R = ([], 5)) ∧ wr.ownsRow w1.heap.size 33 2 v k (tvals xs) ∧ Below w1.heap.size w1 wr) (fun _ s6 i _ => m - (intOf i).toNat)
  case atStart => exact ⟨0, _, [], b0, Nat.zero_le _, rfl, rfl, rfl, rfl, (fun h => ⟨HB1.out h, rfl⟩), HB2.out, World.ownsRow_made _ _ 0 (Nat.le_refl _) (by decide) rfl, (Below.refl _ _).alloc (Nat.le_refl _) _⟩
  case round =>
    obtain ⟨k, v, xs, b, hk, rfl, rfl, rfl, hxl, hT, hF, hO, hB⟩ := hrel
    have k0 : (0 : Int) ≤ (k : Int) := by omega
    have w1' : IntKind.i64.wrap ((k : Int) + 1) = (k : Int) + 1 := IntWalk.i64_in _ (by omega)
    cases b with
    | false =>
      have HR := hid (hF rfl)
      have HBR := hid (HB.out.trans (hB.mono HZ.out))
      have hz := hB.size
      clear hT hF hO hB
      by_cases hkm : k < m
      · have k1 : (k : Int) + 1 < (q : Int) := by have := HM.out; omega
        go_wp2_with fail
        exact bodyPost_ret (v := .tuple #[.slice (some ⟨wr.heap.size, 0, none⟩) 0 0, .int .i64 5]) (by simp [results, Tryd.results4, go_sem]) rfl ⟨_, by rw [HR.out], by rw [HR.out]; exact OwnT.nil _ _ _ _, HBR.out.alloc HBR.out.size _⟩
      · have k1 : ¬ (k : Int) + 1 < (q : Int) := by have := HM.out; omega
        go_wp2_with fail
        exact bodyPost_ret (v := .tuple #[.slice (some ⟨wr.heap.size, 0, none⟩) 0 0, .int .i64 5]) (by simp [results, Tryd.results4, go_sem]) rfl ⟨_, by rw [HR.out], by rw [HR.out]; exact OwnT.nil _ _ _ _, HBR.out.alloc HBR.out.size _⟩
    | true =>
      obtain ⟨hla0, hA⟩ := hT rfl
      by_cases hkm : k < m
      · have k1 : (k : Int) + 1 < (q : Int) := by have := HM.out; omega
        have k2 : (k : Int) < (q : Int) := by omega
        have hkl : k < ls.length := by rw [HLN.out, HM.out]; omega
        have hpk : ls[k]? = some ls[k] := List.getElem?_eq_getElem hkl
        obtain ⟨p, hp⟩ : ∃ p, ls[k] = p := ⟨_, rfl⟩
        rw [hp] at hpk
        have hpl := HML.out p (List.mem_of_getElem? hpk)
        have hpt : p ∈ ls.take m := List.mem_of_getElem? (i := k) (by rw [List.getElem?_take_of_lt hkm]; exact hpk)
        have hcell : wr.cell? ⟨g, k, none⟩ = some (.string ⟨p.toArray⟩) := (hB.cell (p := ⟨g, k, none⟩) HGZ.out).trans (HCL.out k _ (by simp [bas, hpk]))
        have HSPK := hid (fun W => l01Split_any ⟨p.toArray⟩ (by show p.toArray.size ≤ _; have := HLT.out; simp; omega) 32 32 (by decide) W)
        rw [show ((⟨p.toArray⟩ : ByteArray).data.toList) = p from rfl] at HSPK
        have HPK := hid hpk; have HO := hid hO; have HB3 := hid hB; have HA := hid hA; have HPT := hid hpt; have HXL := hid hxl; have HLA0 := hid hla0
        have HPL := hid (show p.length ≤ 1048576 by have := HLT.out; omega)
        have hz1 := hB.size
        obtain ⟨P, hP⟩ : ∃ P, (⟨p.toArray⟩ : ByteArray) = P := ⟨_, rfl⟩
        rw [hP] at hcell HSPK
        clear hA hO hB hpk hp hP hpl hkl hpt hT hF hxl hla0
        go_wp2_with fail
        with_reducible refine (HSPK.out _).mono ?_
        rintro e w2 ⟨v2, rfl, hO2, hB2⟩
        have hne2 : 1 ≤ (spl 32 p).length := by
          cases hh : spl 32 p with
          | nil => exact absurd hh (spl_ne 32 p)
          | cons => simp
        obtain ⟨g2, cp2, rfl, _, _, hgz2, hcl2⟩ := ownsS_addr hO2 (by rw [bas_len]; exact hne2)
        rw [bas_len] at *
        have HB4 := hid (HB.out.trans ((HB3.out.trans (hB2.mono hz1)).mono HZ.out))
        have hz2 : w.heap.size ≤ w2.heap.size := HB4.out.size
        have HB5 := hid (HB3.out.trans (hB2.mono hz1))
        have HO5 := hid (owns_belowL HO.out hB2)
        by_cases h2 : (spl 32 p).length = 2
        · obtain ⟨x, y, hxy⟩ : ∃ x y, spl 32 p = [x, y] := by
            match hh : spl 32 p, h2 with
            | [x, y], _ => exact ⟨x, y, rfl⟩
          have HTW := hid (twoW_two hxy)
          have hx : x.length ≤ p.length := spl_mem_len (c := 32) (by rw [hxy]; simp)
          have hy : y.length ≤ p.length := spl_mem_len (c := 32) (by rw [hxy]; simp)
          rw [hxy] at hcl2 ⊢
          have cx := hcl2 0 ⟨x.toArray⟩ (by simp [bas])
          have cy := hcl2 1 ⟨y.toArray⟩ (by simp [bas])
          have HNX := hid (fun W => l06Number_any ⟨x.toArray⟩ (by show x.toArray.size ≤ _; have := HPL.out; simp; omega) W)
          have HNY := hid (fun W => l06Number_any ⟨y.toArray⟩ (by show y.toArray.size ≤ _; have := HPL.out; simp; omega) W)
          rw [show ((⟨x.toArray⟩ : ByteArray).data.toList) = x from rfl] at HNX
          rw [show ((⟨y.toArray⟩ : ByteArray).data.toList) = y from rfl] at HNY
          obtain ⟨X, hX⟩ : ∃ X, (⟨x.toArray⟩ : ByteArray) = X := ⟨_, rfl⟩
          obtain ⟨Y, hY⟩ : ∃ Y, (⟨y.toArray⟩ : ByteArray) = Y := ⟨_, rfl⟩
          rw [hX] at cx HNX
          rw [hY] at cy HNY
          simp only [List.length_cons, List.length_nil, Nat.zero_add, Nat.reduceAdd]
          obtain ⟨a, one, hna⟩ : ∃ (a : Int) (one : Bool), numRD x = (a, one) := ⟨_, _, rfl⟩
          obtain ⟨b, two, hnb⟩ : ∃ (b : Int) (two : Bool), numRD y = (b, two) := ⟨_, _, rfl⟩
          have HT1 := hid (show one = true → two = true → twoW p = some (a, b) from fun h1 h2 => by
            rw [HTW.out]
            have ca : canD x = true ∧ (numV x : Int) = a := by
              cases h : canD x with
              | false => rw [numRD_no h] at hna; injection hna with _ e; rw [h1] at e; cases e
              | true => rw [numRD_yes h] at hna; injection hna with e _; exact ⟨rfl, e⟩
            have cb : canD y = true ∧ (numV y : Int) = b := by
              cases h : canD y with
              | false => rw [numRD_no h] at hnb; injection hnb with _ e; rw [h2] at e; cases e
              | true => rw [numRD_yes h] at hnb; injection hnb with e _; exact ⟨rfl, e⟩
            rw [ca.1, cb.1, ca.2, cb.2]; rfl)
          have HT2 := hid (show one = false ∨ two = false → twoW p = none from fun h => by
            rw [HTW.out, if_neg]
            intro c
            simp only [Bool.and_eq_true] at c
            rw [numRD_yes c.1] at hna
            rw [numRD_yes c.2] at hnb
            injection hna with _ e1
            injection hnb with _ e2
            rcases h with h | h
            · rw [h] at e1; cases e1
            · rw [h] at e2; cases e2)
          rw [hna] at HNX
          rw [hnb] at HNY
          clear hX hY hx hy hxy h2 hcl2 hgz2 hO2 hB2 hne2 hna hnb
          have HO4 := hid (HO5.out.alloc (.cells #[.int .i64 a, .int .i64 b] 33))
          have news := Row.new w2 33 [.int .i64 a, .int .i64 b]
          have nc := hid (show ∀ j u, ([.int .i64 a, .int .i64 b] : List Value)[j]? = some u → (w2.alloc (.cells #[.int .i64 a, .int .i64 b] 33)).cell? ((⟨w2.heap.size, 0, none⟩ : Addr).add j) = some u from fun j u hj => by
            rw [show (⟨w2.heap.size, 0, none⟩ : Addr).add j = ⟨w2.heap.size, j, none⟩ from by unfold Addr.add; split <;> simp_all]
            exact (news.cell j).trans hj)
          have HONE := hid (show ∀ u ∈ ([.int .i64 a, .int .i64 b] : List Value), u.oneCell' = true from by intro u hu; simp at hu; rcases hu with rfl | rfl <;> rfl)
          have HB7 := hid (show Below w1.heap.size w1 (w2.alloc (.cells #[.int .i64 a, .int .i64 b] 33)) from HB5.out.alloc HB5.out.size _)
          have HBW := hid (show w1.heap.size ≤ (w2.alloc (.cells #[.int .i64 a, .int .i64 b] 33)).heap.size by simp; have := HB5.out.size; omega)
          have HKB := hid (show k ≤ 1048577 by omega)
          clear news
          cases one with
          | false =>
            have HBADR := hid (HBAD.out p HPT.out (HT2.out (.inl rfl)))
            go_wp2_with fail
            with_reducible refine (HNX.out _).mono ?_
            rintro e v4 ⟨rfl, hw⟩
            subst hw
            go_wp2_with fail
            with_reducible refine (HNY.out _).mono ?_
            rintro e v5 ⟨rfl, hw⟩
            subst hw
            go_wp2_with (at_builtin; refine wpList_append_own _ rfl _ _ 22 rfl w1.heap.size 33 i0 (.agg #[.int .i64 0, .int .i64 0]) 2 16 Tryd.underlying22 hi0 iz0 iz1 iz2 rfl (by decide) _ _ _ rfl HO4.out ⟨v5.heap.size, 0, none⟩ 1 1 ([.int .i64 a, .int .i64 b] : List Value) rfl rfl nc.out HONE.out (by have := HKB.out; unfold maxLen; omega) (by have := HKB.out; omega) HBW.out ?_; rintro v' w7 hown' hgrow -; have OWN := hid hown'; have GRW := hid hgrow; clear hown' hgrow)
            have bel := HB7.out.grown GRW.out HBW.out (fun kk e => by have := (HO4.out.lt kk e).1; omega)
            have OW := OWN.out
            rw [show tvals xs ++ [.int .i64 a, .int .i64 b] = tvals (xs ++ [(a, b)]) from (tvals_snocR xs a b).symm] at OW
            have HOW := hid OW
            have HBE := hid bel
            clear bel OW
            go_wp2_with fail
            go_roundw
            case rel => exact ⟨k + 1, v', xs ++ [(a, b)], false, by omega, by go_num, rfl, rfl, by simp [HXL.out], (fun h => by cases h), (fun _ => HBADR.out), HOW.out, HBE.out⟩
            case measure => simp [intOf]; omega
          | true =>
            have HT3 := hid (fun h2 => HT1.out rfl h2)
            have HT4 := hid (fun h2 => HT2.out (.inr h2))
            clear HT1 HT2
            go_wp2_with fail
            with_reducible refine (HNX.out _).mono ?_
            rintro e v4 ⟨rfl, hw⟩
            subst hw
            go_wp2_with fail
            with_reducible refine (HNY.out _).mono ?_
            rintro e v5 ⟨rfl, hw⟩
            subst hw
            go_wp2_with (at_builtin; refine wpList_append_own _ rfl _ _ 22 rfl w1.heap.size 33 i0 (.agg #[.int .i64 0, .int .i64 0]) 2 16 Tryd.underlying22 hi0 iz0 iz1 iz2 rfl (by decide) _ _ _ rfl HO4.out ⟨v5.heap.size, 0, none⟩ 1 1 ([.int .i64 a, .int .i64 b] : List Value) rfl rfl nc.out HONE.out (by have := HKB.out; unfold maxLen; omega) (by have := HKB.out; omega) HBW.out ?_; rintro v' w7 hown' hgrow -; have OWN := hid hown'; have GRW := hid hgrow; clear hown' hgrow)
            have bel := HB7.out.grown GRW.out HBW.out (fun kk e => by have := (HO4.out.lt kk e).1; omega)
            have OW := OWN.out
            rw [show tvals xs ++ [.int .i64 a, .int .i64 b] = tvals (xs ++ [(a, b)]) from (tvals_snocR xs a b).symm] at OW
            have HOW := hid OW
            have HBE := hid bel
            clear bel OW
            go_wp2_with fail
            go_roundw
            case rel =>
              refine ⟨k + 1, v', xs ++ [(a, b)], two, by omega, by go_num, rfl, rfl, by simp [HXL.out], (fun h => ⟨HLA0.out, ?_⟩), (fun h => HBAD.out p HPT.out (HT4.out h)), HOW.out, HBE.out⟩
              have hk2 : k < ls.length := by rw [HLN.out, HM.out]; omega
              rw [List.take_add_one, HPK.out, List.map_append, HA.out, List.map_append]
              simp [HT3.out h]
            case measure => simp [intOf]; omega
        · have HBADR := hid (HBAD.out p HPT.out (twoW_not h2))
          obtain ⟨q0, hq⟩ : ∃ q, (spl 32 p).length = q := ⟨_, rfl⟩
          rw [hq] at h2 ⊢
          have hq2 : ((q0 : Int) != 2) = true := by simp; omega
          have hq3 : ¬ (q0 : Int) = 2 := by omega
          clear hq h2 hcl2 hgz2 hO2 hB2 hne2
          go_wp2_with fail
          exact bodyPost_ret (v := .tuple #[.slice (some ⟨w2.heap.size, 0, none⟩) 0 0, .int .i64 5]) (by simp [results, Tryd.results4, go_sem]) rfl ⟨_, by rw [HBADR.out], by rw [HBADR.out]; exact OwnT.nil _ _ _ _, HB4.out.alloc hz2 _⟩
      · obtain rfl : k = m := by omega
        have k1 : ¬ (k : Int) + 1 < (q : Int) := by have := HM.out; omega
        have HOB := hid (OwnT.of_owns hO (by omega))
        have HVT := hid (l06Totals_own _ v xs wr HOB.out)
        have HB2 := hid (HB.out.trans (hB.mono HZ.out))
        have HY := hid (fun h => HYES.out xs (by rw [hla0]) hA h)
        have HN := hid (fun h => HNO.out xs (by rw [hla0]) hA h)
        clear hA hO hB hT hF hla0
        cases hr : okTs xs with
        | false =>
          rw [hr] at HVT
          have HBADR := hid (HN.out hr)
          clear hr
          go_wp2_with fail
          with_reducible refine HVT.out.mono ?_
          rintro e w3 ⟨rfl, hB3⟩
          have HB4 := hid (HB2.out.trans (hB3.mono HB2.out.size))
          clear hB3
          go_wp2_with fail
          exact bodyPost_ret (v := .tuple #[.slice (some ⟨w3.heap.size, 0, none⟩) 0 0, .int .i64 5]) (by simp [results, Tryd.results4, go_sem]) rfl ⟨_, by rw [HBADR.out], by rw [HBADR.out]; exact OwnT.nil _ _ _ _, HB4.out.alloc HB4.out.size _⟩
        | true =>
          rw [hr] at HVT
          have HG := hid (HY.out hr)
          clear hr
          go_wp2_with fail
          with_reducible refine HVT.out.mono ?_
          rintro e w3 ⟨rfl, hB3⟩
          have HB3 := hid hB3
          clear hB3
          go_wp2_with fail
          refine bodyPost_ret (v := .tuple #[v, .int .i64 0]) (by simp [results, Tryd.results4, go_sem]) rfl ⟨_, by rw [HG.out], ?_, HB2.out.trans (HB3.out.mono HB2.out.size)⟩
          rw [HG.out]
          exact (HOB.out.keep HB3.out).down HZ.out
end Go.Proofs.YtdfbenjccjaejaaDoor
