/- spec.ReadStack. -/
import Derived.Test.YtklkdbfdejabiaaGreatDoorSpB
import Derived.Test.YtklkdbfdejabiaaGreatDoorOwnB
import Derived.Test.YtklkdbfdejabiaaGreatDoorValid
namespace Go.Proofs.YtklkdbfdejabiaaGreatDoor
open Go.RowKit
set_option linter.unusedVariables false
set_option linter.unusedSimpArgs false
theorem spl_sum (c : UInt8) : ∀ l, ((spl c l).map List.length).sum + (spl c l).length = l.length + 1
  | [] => rfl
  | x :: r => by
    have ih := spl_sum c r
    unfold spl
    split
    · simp; omega
    · cases h : spl c r with
      | nil => exact absurd h (spl_ne c r)
      | cons p ps => rw [h] at ih; simp [hdA] at ih ⊢; omega
theorem sum_ge : ∀ (ps : List (List UInt8)), (∀ p ∈ ps, 1 ≤ p.length) → ps.length ≤ (ps.map List.length).sum
  | [], _ => by simp
  | p :: ps, h => by
    have := sum_ge ps (fun q hq => h q (by simp [hq]))
    have := h p (by simp)
    simp; omega
theorem mem_sum : ∀ (ps : List (List UInt8)) (p : List UInt8), p ∈ ps → p.length ≤ (ps.map List.length).sum
  | [], p, h => by simp at h
  | q :: ps, p, h => by
    simp only [List.mem_cons] at h
    rcases h with rfl | h
    · simp
    · have := mem_sum ps p h; simp; omega
theorem spl_mem_len {c : UInt8} {l p : List UInt8} (h : p ∈ spl c l) : p.length ≤ l.length := by
  have a := mem_sum _ p h
  have b := spl_sum c l
  have d : 1 ≤ (spl c l).length := by
    cases hh : spl c l with
    | nil => exact absurd hh (spl_ne c l)
    | cons => simp
  omega
def okW (p : List UInt8) : Bool := canB p && decide (numV p ≤ 100)
def nmL (ps : List (List UInt8)) : List Int := ps.reverse.map fun p => (numV p : Int)
/-- the stack of a text -/
def stkR (l : List UInt8) : Option (List Int) := if (spl 58 l).all okW && okL (nmL (spl 58 l)) then some (nmL (spl 58 l)) else none
theorem nmL_drop {ps : List (List UInt8)} {d : Nat} {p : List UInt8} (h : ps[d]? = some p) : nmL (ps.drop d) = nmL (ps.drop (d + 1)) ++ [(numV p : Int)] := by
  have hd : d < ps.length := by
    by_cases c : d < ps.length
    · exact c
    · rw [List.getElem?_eq_none (by omega)] at h; cases h
  rw [List.drop_eq_getElem_cons hd]
  rw [List.getElem?_eq_getElem hd] at h
  rw [Option.some.inj h]
  simp [nmL]
theorem nmL_len (ps : List (List UInt8)) : (nmL ps).length = ps.length := by simp [nmL]
theorem all_drop {ps : List (List UInt8)} {d : Nat} {p : List UInt8} (h : ps[d]? = some p) (hp : okW p = true) (ha : (ps.drop (d + 1)).all okW = true) : (ps.drop d).all okW = true := by
  have hd : d < ps.length := by
    by_cases c : d < ps.length
    · exact c
    · rw [List.getElem?_eq_none (by omega)] at h; cases h
  rw [List.drop_eq_getElem_cons hd]
  rw [List.getElem?_eq_getElem hd] at h
  rw [Option.some.inj h, List.all_cons, hp, ha]; rfl
theorem stkR_bad {l p : List UInt8} {d : Nat} (h : (spl 58 l)[d]? = some p) (hp : okW p = false) : stkR l = none := by
  have : (spl 58 l).all okW = false := by
    rw [List.all_eq_false]
    exact ⟨p, List.mem_of_getElem? h, by simp [hp]⟩
  simp [stkR, this]
theorem stkR_all {l : List UInt8} (h : (spl 58 l).all okW = true) : stkR l = if okL (nmL (spl 58 l)) then some (nmL (spl 58 l)) else none := by simp [stkR, h]
/-- what l01Stack gives -/
def StG (r : Option (List Int)) (w : World) (e : Ending) (w' : World) : Prop := ∃ v b, e = .returned (.tuple #[v, .bool b]) ∧ Below w.heap.size w w' ∧ ((b = true ∧ ∃ zs, r = some zs ∧ OwnB w' w.heap.size v zs) ∨ (b = false ∧ r = none))
theorem okW_len {ps : List (List UInt8)} (h : ps.all okW = true) : ∀ p ∈ ps, 1 ≤ p.length := fun p hp => by
  have := List.all_eq_true.1 h p hp
  unfold okW canB at this
  simp only [Bool.and_eq_true, decide_eq_true_eq] at this
  exact this.1.1.1.1
theorem owns_stk {w : World} {base n : Nat} {v : Value} {zs : List Int} (h : w.ownsRow base 5 1 v n (zs.map (Value.int .u8))) (hn : 1 ≤ n) (hz : ∀ z ∈ zs, 0 ≤ z ∧ z ≤ 255) (hl : zs.length ≤ 1048576) : ∃ g cp, v = .slice (some ⟨g, 0, none⟩) n cp ∧ base ≤ g ∧ Stk w g zs := by
  rcases h.2 with ⟨_, h2⟩ | ⟨g, cap, cur, h2, h3, h4, h5, h6, h7, h8⟩
  · omega
  · have hr : Row w g 5 (zs.map (Value.int .u8) ++ cur.toList.drop (n * 1)) := by
      unfold Row
      rw [h4, ← h8, List.take_append_drop]
    refine ⟨g, cap, h2, h3, hr.lt, fun j hj => ?_, hz, hl⟩
    rw [hr.cell j, List.getElem?_append_left (by simpa using hj), List.getElem?_map, List.getElem?_eq_getElem hj]
    rfl
theorem ownsS_addr {w : World} {base : Nat} {v : Value} {ss : List ByteArray} (h : OwnS' w base v ss) (hn : 1 ≤ ss.length) : ∃ g cp, v = .slice (some ⟨g, 0, none⟩) ss.length cp ∧ base ≤ g ∧ ss.length ≤ cp ∧ g < w.heap.size ∧ (∀ j x, ss[j]? = some x → w.cell? ⟨g, j, none⟩ = some (.string x)) := by
  unfold OwnS' at h
  have h' := h
  rcases h.2 with ⟨_, h2⟩ | ⟨g, cap, cur, h2, h3, h4, h5, h6, h7, h8⟩
  · omega
  · subst h2
    refine ⟨g, cap, rfl, h3, h5, lt_of_block h4, fun j x hj => ?_⟩
    have := own_cells h' j x hj
    simpa using this
set_option maxRecDepth 100000 in
set_option maxHeartbeats 2000000 in
theorem l01Stack_any (t : ByteArray) (ht : t.size ≤ 1048576) (w : World) : Calls Tryz.prog 23 #[.string t] w (StG (stkR t.data.toList) w) := by
  obtain ⟨i0, hi0, iz0, iz1, iz2⟩ := info_parts Tryz.infoU8
  have HSP := hid (l01Split_any t ht 58 58 (by decide) w)
  have hsz : t.size = t.data.toList.length := by rw [Array.length_toList]; rfl
  obtain ⟨l, hl⟩ : ∃ l, t.data.toList = l := ⟨_, rfl⟩
  rw [hl] at HSP hsz ⊢
  have hsum := spl_sum 58 l
  have hml := fun p hp => spl_mem_len (c := 58) (l := l) (p := p) hp
  have hbad := fun d p (h1 : (spl 58 l)[d]? = some p) h2 => stkR_bad h1 h2
  have hall := fun h => stkR_all (l := l) h
  have hne := spl_ne 58 l
  obtain ⟨ps, hps⟩ : ∃ ps, spl 58 l = ps := ⟨_, rfl⟩
  obtain ⟨R, hR⟩ : ∃ R, stkR l = R := ⟨_, rfl⟩
  rw [hps] at HSP hsum hml hbad hall hne
  rw [hR] at hbad hall ⊢
  have hm1 : 1 ≤ ps.length := by cases ps with | nil => exact absurd rfl hne | cons => simp
  have hmb : ps.length ≤ 1048577 := by omega
  have HSUM := hid hsum; have HML := hid hml; have HBAD := hid hbad; have HALL := hid hall; have HSZ := hid hsz
  have HLT := hid (show l.length ≤ 1048576 by omega)
  obtain ⟨m, hm⟩ : ∃ m, ps.length = m := ⟨_, rfl⟩
  rw [hm] at hm1 hmb
  have HM := hid hm
  clear hsum hml hbad hall hsz hps hR hl hm ht hne
  go_enter Tryz.func23, Tryz.ntmps23
  go_wp2_with fail
  refine HSP.out.mono ?_
  rintro e w1 ⟨v, rfl, hO, hB⟩
  obtain ⟨g, cp, rfl, hg, hcp, hgz, hcl⟩ := ownsS_addr hO (by rw [bas_len, HM.out]; exact hm1)
  rw [bas_len, HM.out]
  have HCL := hid hcl; have HB := hid hB; have HGZ := hid hgz
  have t0 : IntKind.i64.wrap ((m : Int) - 1) = (m : Int) - 1 := IntWalk.i64_in _ (by omega)
  have HZ := hid hB.size
  clear hO hB hcl hcp hgz hg HSP
  go_wp2_with fail
  go_loopw [5, 6] (fun s5 i wr => ∃ (k c : Nat) (z : Int) (v : Value), k + c = m ∧ i = .int .i64 z ∧ z = (c : Int) - 1 ∧ v = s5 ∧ (ps.drop c).all okW = true ∧ wr.ownsRow w1.heap.size 5 1 v k ((nmL (ps.drop c)).map (Value.int .u8)) ∧ Below w1.heap.size w1 wr) (fun _ i _ => (intOf i + 1).toNat)
  case atStart => exact ⟨0, m, _, _, by omega, rfl, rfl, rfl, by rw [← HM.out]; simp, by rw [← HM.out]; simpa [nmL] using World.ownsRow_made _ _ 0 (Nat.le_refl _) (by decide) rfl, (Below.refl _ _).alloc (Nat.le_refl _) _⟩
  case round =>
    obtain ⟨k, c, z, v, hkc, rfl, hz, rfl, hA, hO, hB⟩ := hrel
    by_cases hc0 : c = 0
    · subst hc0
      obtain rfl : k = m := by omega
      have hz1 : ¬ (0 : Int) ≤ z := by omega
      have hz2 : z < 0 := by omega
      rw [List.drop_zero] at hA hO
      have hle : ps.length ≤ 1048576 := by
        have a := sum_ge ps (okW_len hA)
        have b := HSUM.out; have d := HLT.out
        omega
      have hb255 : ∀ z ∈ nmL ps, 0 ≤ z ∧ z ≤ 255 := fun z hz => by
        simp only [nmL, List.mem_map, List.mem_reverse] at hz
        obtain ⟨p, hp, rfl⟩ := hz
        have := List.all_eq_true.1 hA p hp
        unfold okW at this
        simp only [Bool.and_eq_true, decide_eq_true_eq] at this
        omega
      obtain ⟨g2, cp2, rfl, hg2, hS2⟩ := owns_stk hO hm1 hb255 (by rw [nmL_len]; exact hle)
      have HOK := hid (l01Ok_any g2 k cp2 (nmL ps) wr hS2 (by rw [nmL_len]; exact HM.out.symm))
      have HRE := hid (HALL.out hA)
      have HOB := hid (OwnB.of_owns hO (by rw [nmL_len]; omega))
      have HB2 := hid (HB.out.trans (hB.mono HZ.out))
      obtain ⟨r, hr⟩ : ∃ r, okL (nmL ps) = r := ⟨_, rfl⟩
      rw [hr] at HOK
      have HR := hid hr
      clear hr hA hO hB hS2 hb255 hg2 hkc hz
      go_wp2_with fail
      refine HOK.out.mono ?_
      rintro e w3 ⟨rfl, hw⟩
      subst hw
      cases r
      · go_wp2_with fail
        exact bodyPost_ret (v := .tuple #[.slice (some ⟨g2, 0, none⟩) k cp2, .bool false]) (by simp [results, Tryz.results23, go_sem]) rfl ⟨_, false, rfl, HB2.out, .inr ⟨rfl, by rw [HRE.out, HR.out]; rfl⟩⟩
      · go_wp2_with fail
        refine bodyPost_ret (v := .tuple #[.slice (some ⟨g2, 0, none⟩) k cp2, .bool true]) (by simp [results, Tryz.results23, go_sem]) rfl ⟨_, true, rfl, HB2.out, .inl ⟨rfl, nmL ps, by rw [HRE.out, HR.out]; rfl, ?_⟩⟩
        obtain ⟨a, cap, e1, e2, e3⟩ := HOB.out
        refine ⟨a, cap, e1, e2, ?_⟩
        rcases e3 with h0 | ⟨gg, rest, e4, e5, e6⟩
        · exact .inl h0
        · exact .inr ⟨gg, rest, e4, Nat.le_trans HZ.out e5, e6⟩
    · obtain ⟨d, rfl⟩ : ∃ d, c = d + 1 := ⟨c - 1, by omega⟩
      obtain rfl : z = (d : Int) := by omega
      have hdm : d < ps.length := by rw [HM.out]; omega
      have hpd : ps[d]? = some ps[d] := List.getElem?_eq_getElem hdm
      obtain ⟨p, hp⟩ : ∃ p, ps[d] = p := ⟨_, rfl⟩
      rw [hp] at hpd
      have z0 : (0 : Int) ≤ (d : Int) := by omega
      have z1 : (d : Int) < (m : Int) := by omega
      have w1' : IntKind.i64.wrap ((d : Int) - 1) = (d : Int) - 1 := IntWalk.i64_in _ (by omega)
      have hpl := HML.out p (List.mem_of_getElem? hpd)
      have hcell : wr.cell? ⟨g, d, none⟩ = some (.string ⟨p.toArray⟩) := (hB.cell (p := ⟨g, d, none⟩) HGZ.out).trans (HCL.out d _ (by simp [bas, hpd]))
      have HNUM := hid (l01Number_any ⟨p.toArray⟩ (by show p.toArray.size ≤ _; have := HLT.out; simp; omega) wr)
      rw [show ((⟨p.toArray⟩ : ByteArray).data.toList) = p from rfl] at HNUM
      have HO := hid hO; have HB3 := hid hB; have HA := hid hA
      by_cases hok : okW p = true
      · have hcn : canB p = true ∧ numV p ≤ 100 := by unfold okW at hok; simpa using hok
        rw [numR_yes hcn.1] at HNUM
        have HD := hid (nmL_drop hpd); have HAD := hid (all_drop hpd hok hA)
        obtain ⟨N, hN⟩ : ∃ N : Int, (numV p : Int) = N := ⟨_, rfl⟩
        have nb : 0 ≤ N ∧ N ≤ 100 := by omega
        rw [hN] at HNUM HD
        have n1 : ¬ 100 < N := by omega
        have wN : IntKind.u8.wrap N = N := by simp only [IntKind.wrap, IntKind.signed, IntKind.bits]; simp; omega
        have HO4 := hid (hO.alloc (.cells #[.int .u8 N] 5))
        have nc := hid (show ∀ j u, ([.int .u8 N] : List Value)[j]? = some u → (wr.alloc (.cells #[.int .u8 N] 5)).cell? ((⟨wr.heap.size, 0, none⟩ : Addr).add j) = some u from fun j u hj => by
          have h := (Row.new wr 5 [.int .u8 N]).cell j
          rw [show (⟨wr.heap.size, 0, none⟩ : Addr).add j = ⟨wr.heap.size, j, none⟩ from by unfold Addr.add; split <;> simp_all]
          exact h.trans hj)
        have HONE := hid (show ∀ u ∈ ([.int .u8 N] : List Value), u.oneCell' = true from by intro u hu; simp at hu; subst hu; rfl)
        have HB7 := hid (show Below w1.heap.size w1 (wr.alloc (.cells #[.int .u8 N] 5)) from hB.alloc hB.size _)
        have HBW := hid (show w1.heap.size ≤ (wr.alloc (.cells #[.int .u8 N] 5)).heap.size by simp; have := hB.size; omega)
        have HKB := hid (show k ≤ 1048577 by omega)
        have HKC := hid hkc
        clear hA hO hB hpd hp hpl hdm hok hcn hN HO HB3 HA hkc hz
        go_wp2_with fail
        refine HNUM.out.mono ?_
        rintro e w3 ⟨rfl, hw⟩
        subst hw
        go_wp2_with (at_builtin; refine wpList_append_own _ rfl _ _ 23 rfl w1.heap.size 5 i0 (.int .u8 0) 1 1 Tryz.underlying23 hi0 iz0 iz1 iz2 rfl (by decide) _ _ _ rfl HO4.out ⟨w3.heap.size, 0, none⟩ 1 1 ([.int .u8 N] : List Value) rfl rfl nc.out HONE.out (by have := HKB.out; unfold maxLen; omega) (by have := HKB.out; omega) HBW.out ?_; rintro v' w7 hown' hgrow -; have OWN := hid hown'; have GRW := hid hgrow; clear hown' hgrow)
        have bel := HB7.out.grown GRW.out HBW.out (fun kk e => by have := (HO4.out.lt kk e).1; omega)
        have OW := OWN.out
        rw [show (nmL (ps.drop (d + 1))).map (Value.int .u8) ++ [.int .u8 N] = (nmL (ps.drop d)).map (Value.int .u8) from by rw [HD.out]; simp] at OW
        have HOW := hid OW
        have HBE := hid bel
        clear bel OW
        go_wp2_with fail
        go_roundw
        case rel => exact ⟨k + 1, d, _, v', by have := HKC.out; omega, rfl, rfl, rfl, HAD.out, HOW.out, HBE.out⟩
        case measure => simp [intOf]
      · have HRE := hid (HBAD.out d p hpd (by simpa using hok))
        have HB4 := hid (HB.out.trans (hB.mono HZ.out))
        have hzr : w.heap.size ≤ wr.heap.size := HB4.out.size
        by_cases hcn : canB p = true
        · rw [numR_yes hcn] at HNUM
          obtain ⟨N, hN⟩ : ∃ N : Int, (numV p : Int) = N := ⟨_, rfl⟩
          have n1 : 100 < N := by
            have : ¬ numV p ≤ 100 := fun h => hok (by unfold okW; rw [hcn]; simp [h])
            omega
          rw [hN] at HNUM
          clear hA hO hB hpd hp hpl hdm hok hcn hN HO HB3 HA hkc hz
          go_wp2_with fail
          refine HNUM.out.mono ?_
          rintro e w3 ⟨rfl, hw⟩
          subst hw
          go_wp2_with fail
          exact bodyPost_ret (v := .tuple #[.slice (some ⟨w3.heap.size, 0, none⟩) 0 0, .bool false]) (by simp [results, Tryz.results23, go_sem]) rfl ⟨_, false, rfl, HB4.out.alloc hzr _, .inr ⟨rfl, HRE.out⟩⟩
        · rw [numR_no (by simpa using hcn)] at HNUM
          clear hA hO hB hpd hp hpl hdm hok hcn HO HB3 HA hkc hz
          go_wp2_with fail
          refine HNUM.out.mono ?_
          rintro e w3 ⟨rfl, hw⟩
          subst hw
          go_wp2_with fail
          exact bodyPost_ret (v := .tuple #[.slice (some ⟨w3.heap.size, 0, none⟩) 0 0, .bool false]) (by simp [results, Tryz.results23, go_sem]) rfl ⟨_, false, rfl, HB4.out.alloc hzr _, .inr ⟨rfl, HRE.out⟩⟩
/-- what both give: a stack of its own and a code -/
def RsR (r : List Int × Int) (w : World) (e : Ending) (w' : World) : Prop := ∃ v, e = .returned (.tuple #[v, .int .i64 r.2]) ∧ OwnB w' w.heap.size v r.1 ∧ Below w.heap.size w w'
def rsR (l : List UInt8) : List Int × Int := match stkR l with | some zs => (zs, 0) | none => ([], 5)
set_option maxRecDepth 100000 in
set_option maxHeartbeats 1000000 in
theorem specReadStack_any (t : ByteArray) (ht : t.size ≤ 1048576) (w : World) : Calls Tryz.prog 10 #[.string t] w (RsR (rsR t.data.toList) w) := by
  have HST := hid (l01Stack_any t ht w)
  obtain ⟨l, hl⟩ : ∃ l, t.data.toList = l := ⟨_, rfl⟩
  rw [hl] at HST ⊢
  clear hl ht
  go_enter Tryz.func10, Tryz.ntmps10
  go_wp2_with fail
  refine HST.out.mono ?_
  rintro e w1 ⟨v, b, rfl, hB, ⟨rfl, zs, hr, hO⟩ | ⟨rfl, hr⟩⟩
  · have HR := hid (show rsR l = (zs, 0) by simp [rsR, hr])
    have HO := hid hO; have HB := hid hB
    clear hr hO hB
    go_wp2_with fail
    exact bodyPost_ret (v := .tuple #[v, .int .i64 0]) (by simp [results, Tryz.results10, go_sem]) rfl ⟨v, by rw [HR.out], by rw [HR.out]; exact HO.out, HB.out⟩
  · have HR := hid (show rsR l = ([], 5) by simp [rsR, hr])
    have HB := hid hB
    have hz := hB.size
    clear hr hB
    go_wp2_with fail
    exact bodyPost_ret (v := .tuple #[.slice (some ⟨w1.heap.size, 0, none⟩) 0 0, .int .i64 5]) (by simp [results, Tryz.results10, go_sem]) rfl ⟨_, by rw [HR.out], by rw [HR.out]; exact OwnB.nil _ _ _ _, HB.out.alloc hz _⟩
end Go.Proofs.YtklkdbfdejabiaaGreatDoor
