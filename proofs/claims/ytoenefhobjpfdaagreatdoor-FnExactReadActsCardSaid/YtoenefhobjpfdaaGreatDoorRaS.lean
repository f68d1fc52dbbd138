/- spec.ReadActs. -/
import Derived.Test.YtoenefhobjpfdaaGreatDoorRaN
import Derived.Test.YtoenefhobjpfdaaGreatDoorRaX
namespace Go.Proofs.YtoenefhobjpfdaaGreatDoor
open Go.RowKit
set_option linter.unusedVariables false
set_option linter.unusedSimpArgs false
theorem owns_belowS {w w' : World} {base size n : Nat} {e : TypeId} {v : Value} {xs : List Value} (h : w.ownsRow base e size v n xs) (hb : Below w.heap.size w w') : w'.ownsRow base e size v n xs := by
  refine ⟨h.1, ?_⟩
  rcases h.2 with h0 | ⟨g, cap, cur, h1, h2, h3, h4⟩
  · exact .inl h0
  · exact .inr ⟨g, cap, cur, h1, h2, (hb.block g (lt_of_block h3)).trans h3, h4⟩
theorem linesJ_all {α : Type} {W : List UInt8 → Option α} {l : List UInt8} {xs : List α} (h : (spl 10 l).getLast? = some []) (hx : (spl 10 l).dropLast.map W = xs.map some) : linesJ W l = some xs := by
  have ha : ((spl 10 l).dropLast.all fun p => (W p).isSome) = true := by
    rw [List.all_eq_true]
    intro p hp
    have hm : W p ∈ (spl 10 l).dropLast.map W := List.mem_map_of_mem hp
    rw [hx, List.mem_map] at hm
    obtain ⟨a, _, e⟩ := hm
    rw [← e]; rfl
  unfold linesJ
  rw [if_pos ⟨h, ha⟩]
  have := filterMap_all _ ha
  rw [hx] at this
  rw [← map_some_inj this]
theorem linesJ_last {α : Type} {W : List UInt8 → Option α} {l : List UInt8} (h : (spl 10 l).getLast? ≠ some []) : linesJ W l = none := by
  unfold linesJ
  rw [if_neg (fun c => h c.1)]
theorem linesJ_bad {α : Type} {W : List UInt8 → Option α} {l p : List UInt8} (h : p ∈ (spl 10 l).dropLast) (hp : W p = none) : linesJ W l = none := by
  unfold linesJ
  rw [if_neg]
  rintro ⟨_, c⟩
  have := List.all_eq_true.1 c p h
  rw [hp] at this
  cases this
theorem take_last {α : Type} (l : List α) : l.dropLast = l.take (l.length - 1) := List.dropLast_eq_take
theorem acWd_ok {p : List UInt8} {k n : Int} (h : acWd p = some (k, n)) : okAct k n = true := by
  unfold acWd at h
  split at h
  · rename_i x r hs
    split at h
    · cases h
    · split at h
      · rename_i h3
        split at h
        · injection h with h
          injection h with hk hn
          subst hk; subst hn
          rcases kindW_cases x with hk | ⟨h0, _⟩
          · unfold isK at hk
            rw [okAct_plain (by omega)]
            rfl
          · omega
        · cases h
      · split at h
        · rename_i y
          cases hy : numSg y with
          | none => rw [hy] at h; cases h
          | some q =>
            rw [hy] at h
            simp only at h
            split at h
            · rename_i ho
              injection h with h
              injection h with hk hn
              subst hk; subst hn
              exact ho
            · cases h
        · cases h
  · cases h
theorem acs_ok {ls : List (List UInt8)} {xs : List (Int × Int)} (h : ls.map acWd = xs.map some) : okAs xs = true := by
  refine okAs_of (fun j hj => ?_)
  have hl : ls.length = xs.length := by have := congrArg List.length h; simpa using this
  have := congrArg (fun l => l[j]?) h
  simp only [List.getElem?_map] at this
  rw [List.getElem?_eq_getElem hj, List.getElem?_eq_getElem (by omega : j < ls.length)] at this
  simp only [Option.map_some] at this
  have e := acWd_ok (k := xs[j].1) (n := xs[j].2) (Option.some.inj this)
  unfold ak an
  rw [List.getElem?_eq_getElem hj]
  exact e
set_option maxRecDepth 100000 in
set_option maxHeartbeats 4000000 in
theorem specReadActs_any (t : ByteArray) (ht : t.size ≤ 1048576) (w : World) : Calls Tryz.prog 4 #[.string t] w (RaR (rdR acWd acOk t.data.toList) w) := by
  obtain ⟨i0, hi0, iz0, iz1, iz2⟩ := info_parts Tryz.infoActL
  have HSP := hid (l01Split_any t ht 10 10 (by decide) w)
  have hsz : t.size = t.data.toList.length := by rw [Array.length_toList]; rfl
  obtain ⟨l, hl⟩ : ∃ l, t.data.toList = l := ⟨_, rfl⟩
  rw [hl] at HSP hsz ⊢
  have hsum := spl_sum 10 l
  have hml := fun p hp => spl_mem_len (c := 10) (l := l) (p := p) hp
  have hlast := fun h => rdR_none (ok := acOk) (linesJ_last (W := acWd) (l := l) h)
  have hbad := fun p (h1 : p ∈ (spl 10 l).take ((spl 10 l).length - 1)) h2 => rdR_none (ok := acOk) (linesJ_bad (W := acWd) (l := l) (by rw [take_last]; exact h1) h2)
  have hall := fun (xs : List (Int × Int)) (h : (spl 10 l).getLast? = some []) (hx : ((spl 10 l).take ((spl 10 l).length - 1)).map acWd = xs.map some) => linesJ_all (W := acWd) h (by rw [take_last]; exact hx)
  have hyes := fun xs h hx hk => rdR_some (ok := acOk) (hall xs h hx) hk
  have hlong : 61 < (spl 10 l).length → rdR acWd acOk l = ([], 5) := fun h => by
    cases hj : linesJ acWd l with
    | none => exact rdR_none hj
    | some xs =>
      refine rdR_bad hj ?_
      have hlen : xs.length = (spl 10 l).length - 1 := by
        unfold linesJ at hj
        split at hj
        · rename_i hc
          injection hj with hj
          have := congrArg List.length (filterMap_all _ hc.2)
          rw [hj] at this
          simp at this
          omega
        · cases hj
      unfold acOk
      rw [decide_eq_false (by omega : ¬ xs.length ≤ 60), Bool.and_false]
  have hne := spl_ne 10 l
  obtain ⟨ls, hls⟩ : ∃ ps, spl 10 l = ps := ⟨_, rfl⟩
  obtain ⟨R, hR⟩ : ∃ R, rdR acWd acOk l = R := ⟨_, rfl⟩
  rw [hls] at HSP hsum hml hlast hbad hall hyes hne hlong
  rw [hR] at hlast hbad hyes hlong ⊢
  obtain ⟨m, hm⟩ : ∃ m, ls.length = m + 1 := by
    cases ls with
    | nil => exact absurd rfl hne
    | cons a b => exact ⟨b.length, rfl⟩
  have hmb : m ≤ 1048576 := by omega
  rw [hm, Nat.add_sub_cancel] at hbad hall hyes
  obtain ⟨la, hla⟩ : ∃ la, ls[m]? = some la := ⟨_, List.getElem?_eq_getElem (by omega)⟩
  have hgl : ls.getLast? = some la := by rw [List.getLast?_eq_getElem?, hm, Nat.add_sub_cancel]; exact hla
  rw [hgl] at hlast hyes
  have HML := hid hml; have HBAD := hid hbad; have HYES := hid hyes; have HLAST := hid hlast; have HLA := hid hla; have HLONG := hid hlong
  have HLT := hid (show l.length ≤ 1048576 by omega)
  obtain ⟨q, hq⟩ : ∃ q, ls.length = q := ⟨_, rfl⟩
  have HM := hid (show q = m + 1 by omega)
  have HLN := hid hq
  have q1 : IntKind.i64.wrap ((q : Int) - 1) = (m : Int) := by rw [IntWalk.i64_in _ (by omega)]; omega
  have q2 : (0 : Int) ≤ (m : Int) := by omega
  have q3 : (m : Int) < (q : Int) := by omega
  have q4 : (q : Int) - 1 = (m : Int) := by omega
  clear hsum hml hlast hbad hall hyes hsz hls hR hl hm ht hne hgl hla hq hlong
  go_enter Tryz.func4, Tryz.ntmps4
  go_wp2_with fail
  with_reducible refine HSP.out.mono ?_
  rintro e w1 ⟨v, rfl, hO, hB⟩
  obtain ⟨g, cp, rfl, hg, hcp, hgz, hcl⟩ := ownsS_addr hO (by rw [bas_len, HLN.out]; omega)
  rw [bas_len, HLN.out]
  have HCL := hid hcl; have HB := hid hB; have HGZ := hid hgz
  have HZ := hid hB.size
  have hlc := hcl m ⟨la.toArray⟩ (by simp [bas, HLA.out])
  obtain ⟨P, hP⟩ : ∃ P, (⟨la.toArray⟩ : ByteArray) = P := ⟨_, rfl⟩
  have hPL : P.toList = la := by rw [← hP, Lib.toList_data]
  rw [hP] at hlc
  clear hO hB hcl hcp hgz hg HSP hP
  by_cases hla0 : la = []
  · have f1 : P.toList.isEmpty = true := by rw [hPL, hla0]; rfl
    have f2 : P.toList = [] := by rw [hPL, hla0]
    have f3 : (P.toList != []) = false := by rw [f2]; rfl
    have HLA0 := hid hla0
    clear hPL hla0
    by_cases h60 : 60 < m
    · have g1 : (60 : Int) < (m : Int) := by omega
      have HR := hid (HLONG.out (by have := HM.out; have := HLN.out; omega))
      clear h60
      go_wp2_with fail
      exact bodyPost_ret (v := .tuple #[.slice (some ⟨w1.heap.size, 0, none⟩) 0 0, .int .i64 5]) (by simp [results, Tryz.results4, go_sem]) rfl ⟨_, by rw [HR.out], by rw [HR.out]; exact OwnA.nil _ _ _ _, HB.out.alloc HZ.out _⟩
    · have g1 : ¬ (60 : Int) < (m : Int) := by omega
      have g2 : (m : Int) ≤ 60 := by omega
      have H60 := hid h60
      clear h60
      go_wp2_with fail
      go_loopw [6, 7] (fun s5 i wr => ∃ (k : Nat) (v : Value) (xs : List (Int × Int)), k ≤ m ∧ i = .int .i64 k ∧ v = s5 ∧ xs.length = k ∧ (ls.take k).map acWd = xs.map some ∧ wr.ownsRow w1.heap.size 32 2 v k (avals xs) ∧ Below w1.heap.size w1 wr) (fun _ i _ => m - (intOf i).toNat)
      case atStart => exact ⟨0, _, [], Nat.zero_le _, rfl, rfl, rfl, rfl, World.ownsRow_made _ _ 0 (Nat.le_refl _) (by decide) rfl, (Below.refl _ _).alloc (Nat.le_refl _) _⟩
      case round =>
        obtain ⟨k, v, xs, hk, rfl, rfl, hxl, hA, hO, hB⟩ := hrel
        have k0 : (0 : Int) ≤ (k : Int) := by omega
        have w1' : IntKind.i64.wrap ((k : Int) + 1) = (k : Int) + 1 := IntWalk.i64_in _ (by omega)
        by_cases hkm : k < m
        · have k1 : (k : Int) < (m : Int) := by omega
          have k2 : (k : Int) < (q : Int) := by omega
          have hkl : k < ls.length := by rw [HLN.out, HM.out]; omega
          have hpk : ls[k]? = some ls[k] := List.getElem?_eq_getElem hkl
          obtain ⟨p, hp⟩ : ∃ p, ls[k] = p := ⟨_, rfl⟩
          rw [hp] at hpk
          have hpl := HML.out p (List.mem_of_getElem? hpk)
          have hpt : p ∈ ls.take m := List.mem_of_getElem? (i := k) (by rw [List.getElem?_take_of_lt hkm]; exact hpk)
          have hcell : wr.cell? ⟨g, k, none⟩ = some (.string ⟨p.toArray⟩) := (hB.cell (p := ⟨g, k, none⟩) HGZ.out).trans (HCL.out k _ (by simp [bas, hpk]))
          have HRD := hid (fun W => l07Read_any ⟨p.toArray⟩ (by show p.toArray.size ≤ _; have := HLT.out; simp; omega) W)
          rw [show ((⟨p.toArray⟩ : ByteArray).data.toList) = p from rfl] at HRD
          have HPK := hid hpk; have HO := hid hO; have HB3 := hid hB; have HA := hid hA; have HPT := hid hpt; have HXL := hid hxl
          have hz1 := hB.size
          obtain ⟨P, hP⟩ : ∃ P, (⟨p.toArray⟩ : ByteArray) = P := ⟨_, rfl⟩
          rw [hP] at hcell HRD
          clear hA hO hB hpk hp hP hpl hkl hpt hxl
          go_wp2_with fail
          with_reducible refine (HRD.out _).mono ?_
          rintro e w2 ⟨x, y, okr, rfl, hs1, hs2, hB2⟩
          have HS1 := hid hs1; have HS2 := hid hs2
          have HB4 := hid (HB.out.trans ((HB3.out.trans (hB2.mono hz1)).mono HZ.out))
          have HB5 := hid (HB3.out.trans (hB2.mono hz1))
          have HO5 := hid (owns_belowS HO.out hB2)
          clear hs1 hs2 hB2
          cases okr with
          | false =>
            have HR := hid (HBAD.out p HPT.out (HS2.out rfl))
            have HB6 := hid (HB4.out.alloc HB4.out.size (.cells #[.int .i8 x, .int .i64 y] 32))
            go_wp2_with fail
            exact bodyPost_ret (v := .tuple #[.slice (some ⟨w2.heap.size + 1, 0, none⟩) 0 0, .int .i64 5]) (by simp [results, Tryz.results4, go_sem]) rfl ⟨_, by rw [HR.out], by rw [HR.out]; exact OwnA.nil _ _ _ _, HB6.out.alloc HB6.out.size _⟩
          | true =>
            have HSN := hid (show (ls.take (k + 1)).map acWd = (xs ++ [(x, y)]).map some from by
              rw [List.take_add_one, HPK.out, List.map_append, HA.out, List.map_append]
              simp [HS1.out rfl])
            have HO4 := hid ((HO5.out.alloc (.cells #[.int .i8 x, .int .i64 y] 32)).alloc (.cells #[.int .i8 x, .int .i64 y] 32))
            have news := Row.new (w2.alloc (.cells #[.int .i8 x, .int .i64 y] 32)) 32 [.int .i8 x, .int .i64 y]
            have nc := hid (show ∀ j u, ([.int .i8 x, .int .i64 y] : List Value)[j]? = some u → ((w2.alloc (.cells #[.int .i8 x, .int .i64 y] 32)).alloc (.cells #[.int .i8 x, .int .i64 y] 32)).cell? ((⟨w2.heap.size + 1, 0, none⟩ : Addr).add j) = some u from fun j u hj => by
              rw [show (⟨w2.heap.size + 1, 0, none⟩ : Addr).add j = ⟨w2.heap.size + 1, j, none⟩ from by unfold Addr.add; split <;> simp_all]
              have := (news.cell j).trans hj
              simpa only [World.size_alloc] using this)
            have HONE := hid (show ∀ u ∈ ([.int .i8 x, .int .i64 y] : List Value), u.oneCell' = true from by intro u hu; simp at hu; rcases hu with rfl | rfl <;> rfl)
            have HB7 := hid (show Below w1.heap.size w1 ((w2.alloc (.cells #[.int .i8 x, .int .i64 y] 32)).alloc (.cells #[.int .i8 x, .int .i64 y] 32)) from (HB5.out.alloc HB5.out.size _).alloc (by have := HB5.out.size; simp; omega) _)
            have HBW := hid (show w1.heap.size ≤ ((w2.alloc (.cells #[.int .i8 x, .int .i64 y] 32)).alloc (.cells #[.int .i8 x, .int .i64 y] 32)).heap.size by simp; have := HB5.out.size; omega)
            have HKB := hid (show k ≤ 1048577 by omega)
            clear news
            go_wp2_with (at_builtin; refine wpList_append_own _ rfl _ _ 22 rfl w1.heap.size 32 i0 (.agg #[.int .i8 0, .int .i64 0]) 2 16 Tryz.underlying22 hi0 iz0 iz1 iz2 rfl (by decide) _ _ _ rfl HO4.out ⟨w2.heap.size + 1, 0, none⟩ 1 1 ([.int .i8 x, .int .i64 y] : List Value) rfl rfl nc.out HONE.out (by have := HKB.out; unfold maxLen; omega) (by have := HKB.out; omega) HBW.out ?_; rintro v' w7 hown' hgrow -; have OWN := hid hown'; have GRW := hid hgrow; clear hown' hgrow)
            have bel := HB7.out.grown GRW.out HBW.out (fun kk e => by have := (HO4.out.lt kk e).1; omega)
            have OW := OWN.out
            rw [show avals xs ++ [.int .i8 x, .int .i64 y] = avals (xs ++ [(x, y)]) from (avals_snoc xs x y).symm] at OW
            have HOW := hid OW
            have HBE := hid bel
            clear bel OW
            go_wp2_with fail
            go_roundw
            case rel => exact ⟨k + 1, v', xs ++ [(x, y)], by omega, by go_num, rfl, by simp [HXL.out], HSN.out, HOW.out, HBE.out⟩
            case measure => simp [intOf]; omega
        · obtain rfl : k = m := by omega
          have k1 : ¬ (k : Int) < (k : Int) := by omega
          have HOB := hid (OwnA.of_owns hO (by omega))
          have HB2 := hid (HB.out.trans (hB.mono HZ.out))
          have HG := hid (HYES.out xs (by rw [HLA0.out]) hA (by unfold acOk; rw [acs_ok hA, decide_eq_true (by have := H60.out; omega)]; rfl))
          clear hA hO hB
          go_wp2_with fail
          refine bodyPost_ret (v := .tuple #[v, .int .i64 0]) (by simp [results, Tryz.results4, go_sem]) rfl ⟨_, by rw [HG.out], ?_, HB2.out⟩
          rw [HG.out]
          exact HOB.out.down HZ.out
  · have f1 : P.toList.isEmpty = false := by rw [hPL]; simpa using hla0
    have f2 : ¬ P.toList = [] := by rw [hPL]; exact hla0
    have f3 : (P.toList != []) = true := by rw [hPL]; simpa using hla0
    have HR := hid (HLAST.out (fun e => hla0 (Option.some.inj e)))
    clear hPL hla0
    go_wp2_with fail
    exact bodyPost_ret (v := .tuple #[.slice (some ⟨w1.heap.size, 0, none⟩) 0 0, .int .i64 5]) (by simp [results, Tryz.results4, go_sem]) rfl ⟨_, by rw [HR.out], by rw [HR.out]; exact OwnA.nil _ _ _ _, HB.out.alloc HZ.out _⟩
end Go.Proofs.YtoenefhobjpfdaaGreatDoor
