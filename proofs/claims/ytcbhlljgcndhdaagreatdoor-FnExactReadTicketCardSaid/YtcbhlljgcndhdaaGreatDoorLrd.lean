/- spec.ReadDigits. -/
import Derived.Test.YtcbhlljgcndhdaaGreatDoorRdE
namespace Go.Proofs.YtcbhlljgcndhdaaGreatDoor
open Go.RowKit
set_option linter.unusedVariables false
set_option linter.unusedSimpArgs false
def DgTo (zs : List Int) (ps : List (List UInt8)) (L : List Int) (k : Nat) : Prop := (∀ j, j < k → (0 ≤ ug L j ∧ ug L j < ug zs j) ∧ ps[zs.length - 1 - j]? = some (dgT (ug zs j) (ug L j))) ∧ (∀ j, k ≤ j → j < 8 → ug L j = 0)
theorem ug_set (L : List Int) (k j : Nat) (v : Int) (hk : k < L.length) : ug (L.set k v) j = if j = k then v else ug L j := by
  unfold ug
  rw [List.getElem?_set]
  by_cases h : k = j
  · subst h; simp [hk]
  · rw [if_neg h, if_neg (fun e => h e.symm)]
theorem DgTo_step {zs : List Int} {ps : List (List UInt8)} {L : List Int} {k : Nat} {v : Int} (h : DgTo zs ps L k) (hL : L.length = 8) (hk : k < 8) (hv : 0 ≤ v ∧ v < ug zs k) (hp : ps[zs.length - 1 - k]? = some (dgT (ug zs k) v)) : DgTo zs ps (L.set k v) (k + 1) := by
  refine ⟨fun j hj => ?_, fun j hj hj8 => ?_⟩
  · rw [ug_set _ _ _ _ (by omega)]
    by_cases e : j = k
    · subst e; rw [if_pos rfl]; exact ⟨hv, hp⟩
    · rw [if_neg e]; exact h.1 j (by omega)
  · rw [ug_set _ _ _ _ (by omega), if_neg (by omega)]
    exact h.2 j (by omega) hj8
theorem dg_word {zs : List Int} {l : List UInt8} {es : List Int} (ho : okL zs = true) (h : Dg zs l es) {k : Nat} (hk : k < zs.length) {p : List UInt8} (hp : (spl 58 l)[zs.length - 1 - k]? = some p) : p.take 3 = p ∧ p.all digB = true ∧ (numV p : Int) < ug zs k ∧ dgT (ug zs k) (numV p) = p := by
  obtain ⟨h1, h8, hz⟩ := okL_mem ho
  have hzb : 2 ≤ ug zs k ∧ ug zs k ≤ 100 := by unfold ug; rw [List.getElem?_eq_getElem hk]; exact hz _ (List.getElem_mem _)
  have a := h.2.2.1 k hk
  have e := hp.symm.trans a.2
  injection e with e
  obtain ⟨f1, f2, f3, f4⟩ := dgT_facts _ _ hzb a.1
  rw [← e] at f1 f3 f4
  refine ⟨List.take_of_length_le (by omega), f3, by rw [f4]; exact a.1.2, by rw [f4]; exact e.symm⟩
/-- what l01Read gives -/
def LrG (zs : List Int) (l : List UInt8) (w : World) (e : Ending) (w' : World) : Prop := ∃ (ds : List Int) (ok : Bool), e = .returned (.tuple #[.agg (ds.map (Value.int .u8)).toArray, .bool ok]) ∧ Below w.heap.size w w' ∧ ((ok = true ∧ Dg zs l ds) ∨ (ok = false ∧ ds = [0, 0, 0, 0, 0, 0, 0, 0] ∧ ¬ ∃ es, Dg zs l es))
theorem ownsS_row {w : World} {base : Nat} {v : Value} {ss : List ByteArray} (h : OwnS' w base v ss) (hn : 1 ≤ ss.length) : ∃ g cp rest, v = .slice (some ⟨g, 0, none⟩) ss.length cp ∧ base ≤ g ∧ Row w g 9 (ss.map Value.string ++ rest) := by
  unfold OwnS' at h
  rcases h.2 with ⟨_, h2⟩ | ⟨g, cap, cur, h2, h3, h4, h5, h6, h7, h8⟩
  · omega
  · subst h2
    refine ⟨g, cap, cur.toList.drop (ss.length * 1), rfl, h3, ?_⟩
    unfold Row
    rw [h4, ← h8, List.take_append_drop]
theorem not_ex {P : List Int → Prop} (h : ∀ es, P es → False) : ¬ ∃ es, P es := fun ⟨es, he⟩ => h es he
set_option maxRecDepth 100000 in
set_option maxHeartbeats 8000000 in
theorem l01Read_any (b n cap : Nat) (zs : List Int) (hn : n = zs.length) (hok : okL zs = true) (t : ByteArray) (ht : t.size ≤ 1048576) (w : World) (hS : Stk w b zs) :
    Calls Tryz.prog 12 #[.slice (some ⟨b, 0, none⟩) n cap, .string t] w (LrG zs t.data.toList w) := by
  obtain ⟨h1n, h8n, hzs⟩ := okL_mem hok
  rw [← hn] at h1n h8n
  obtain ⟨l, hl⟩ : ∃ l, t.data.toList = l := ⟨_, rfl⟩
  have hsz : t.size = l.length := by rw [← hl, Array.length_toList]; rfl
  have HSP := hid (fun W => l01Split_any t ht 58 58 (by decide) W)
  rw [hl] at HSP ⊢
  have hml := fun p hp => spl_mem_len (c := 58) (l := l) (p := p) hp
  have hsum := spl_sum 58 l
  have HW := hid (fun es (h : Dg zs l es) k (hk : k < zs.length) p hp => dg_word hok h hk (p := p) hp)
  have HLN := hid (fun es (h : Dg zs l es) => h.2.1)
  have HMK := hid (fun L (hL : List.length L = 8) (hl2 : (spl 58 l).length = zs.length) (h : DgTo zs (spl 58 l) L zs.length) => show Dg zs l L from ⟨hL, hl2, h.1, h.2⟩)
  have hne := spl_ne 58 l
  obtain ⟨ps, hps⟩ : ∃ ps, spl 58 l = ps := ⟨_, rfl⟩
  rw [hps] at HSP HW HLN HMK hml hsum hne
  have hm1 : 1 ≤ ps.length := by cases ps with | nil => exact absurd rfl hne | cons => simp
  have HML := hid (show ∀ p ∈ ps, p.length ≤ 1048576 from fun p hp => by have := hml p hp; omega)
  obtain ⟨m, hm⟩ : ∃ m, ps.length = m := ⟨_, rfl⟩
  have hmb : m ≤ 1048577 := by omega
  rw [hm] at HLN HMK hm1
  have HM := hid hm; have HN := hid hn
  have HZS := hid (show ∀ j, j < n → 2 ≤ ug zs j ∧ ug zs j ≤ 100 from fun j hj => by unfold ug; rw [List.getElem?_eq_getElem (by rw [← HN.out]; exact hj)]; exact hzs _ (List.getElem_mem _))
  obtain ⟨R, hR⟩ : ∃ R, w.heap.size = R := ⟨_, rfl⟩
  have bR : Below R w (w.alloc (.cells #[.int .u8 0, .int .u8 0, .int .u8 0, .int .u8 0, .int .u8 0, .int .u8 0, .int .u8 0, .int .u8 0] 24)) := by rw [← hR]; exact (Below.refl _ _).alloc (Nat.le_refl _) _
  have rR := Row.new w 24 [.int .u8 0, .int .u8 0, .int .u8 0, .int .u8 0, .int .u8 0, .int .u8 0, .int .u8 0, .int .u8 0]
  rw [hR] at rR
  have HBR := hid bR; have HRR0 := hid rR; have HRR := hid hR; have HS := hid hS
  have HRB := hid (Nat.le_refl R)
  have hbR : b < R := by rw [← hR]; exact hS.1
  clear hS hn bR rR hl hsz ht hml hsum hps hne hm hzs hok
  go_enter Tryz.func12, Tryz.ntmps12
  go_wp2_with fail
  refine (HSP.out _).mono ?_
  rintro e v1 ⟨v, rfl, hO, hB1⟩
  obtain ⟨g, cp, rst, rfl, hg, hRW⟩ := ownsS_row hO (by rw [bas_len, HM.out]; exact hm1)
  rw [bas_len, HM.out]
  simp only [World.size_alloc] at hB1
  have b1 := HBR.out.trans (show Below R _ v1 from hB1.mono (by have := HRR.out; omega))
  have rR1 := HRR0.out.below hB1 (by have := HRR.out; omega)
  have hz1 : R + 1 ≤ v1.heap.size := by have h1 := hB1.size; have h2 := HRR.out; simp only [World.size_alloc] at h1; omega
  have b2 := b1.alloc (show R ≤ v1.heap.size by omega) (.cells #[.int .u8 0, .int .u8 0, .int .u8 0, .int .u8 0, .int .u8 0, .int .u8 0, .int .u8 0, .int .u8 0] 24)
  have rD := Row.new v1 24 [.int .u8 0, .int .u8 0, .int .u8 0, .int .u8 0, .int .u8 0, .int .u8 0, .int .u8 0, .int .u8 0]
  have rR2 := rR1.alloc (.cells #[.int .u8 0, .int .u8 0, .int .u8 0, .int .u8 0, .int .u8 0, .int .u8 0, .int .u8 0, .int .u8 0] 24)
  have rW2 := hRW.alloc (.cells #[.int .u8 0, .int .u8 0, .int .u8 0, .int .u8 0, .int .u8 0, .int .u8 0, .int .u8 0, .int .u8 0] 24)
  obtain ⟨D, hD⟩ : ∃ D, v1.heap.size = D := ⟨_, rfl⟩
  have hgD : g < D := by rw [← hD]; exact hRW.lt
  rw [hD] at rD hz1
  have hgR : R < g := by have h1 := hg; have h2 := HRR.out; simp only [World.size_alloc] at h1; omega
  obtain ⟨V, hV⟩ : ∃ V, V = v1.alloc (.cells #[.int .u8 0, .int .u8 0, .int .u8 0, .int .u8 0, .int .u8 0, .int .u8 0, .int .u8 0, .int .u8 0] 24) := ⟨_, rfl⟩
  rw [← hV] at b2 rD rR2 rW2
  have hVz : D < V.heap.size := by rw [hV]; simp; omega
  have HBV := hid b2; have HDV := hid rD; have HRV := hid rR2; have HWV := hid rW2; have HVV := hid hV; have HVZ := hid hVz
  have t1 : IntKind.i64.wrap ((n : Int) - 1) = (n : Int) - 1 := IntWalk.i64_in _ (by omega)
  clear hO hB1 hRW b1 rR1 b2 rD rR2 rW2 hV hVz hg HSP
  by_cases hmn : m = n
  rotate_left
  · have hmn1 : ((m : Int) != (n : Int)) = true := by simp; omega
    have hmn2 : ¬ (m : Int) = (n : Int) := by omega
    have HNO := hid (not_ex (fun es he => hmn (by rw [HN.out]; exact HLN.out es he)))
    have r1 := HRV.out
    have b9 := HBV.out
    have rd := HDV.out
    have c0 := rd.cell 0; have c1 := rd.cell 1; have c2 := rd.cell 2; have c3 := rd.cell 3; have c4 := rd.cell 4; have c5 := rd.cell 5; have c6 := rd.cell 6; have c7 := rd.cell 7
    simp only [List.getElem?_cons_zero, List.getElem?_cons_succ] at c0 c1 c2 c3 c4 c5 c6 c7
    clear rd
    go_upto_region 3 with fail
    rw [← HVV.out]
    have g0 := r1.cell 0; have k0 := r1.frozen 0; have g1 := r1.cell 1; have k1 := r1.frozen 1; have g2 := r1.cell 2; have k2 := r1.frozen 2; have g3 := r1.cell 3; have k3 := r1.frozen 3; have g4 := r1.cell 4; have k4 := r1.frozen 4; have g5 := r1.cell 5; have k5 := r1.frozen 5; have g6 := r1.cell 6; have k6 := r1.frozen 6; have g7 := r1.cell 7; have k7 := r1.frozen 7
    simp only [List.getElem?_cons_zero, List.getElem?_cons_succ] at g0 g1 g2 g3 g4 g5 g6 g7
    have r2 := hid (r1.set8 rfl (.int .u8 0) (.int .u8 0) (.int .u8 0) (.int .u8 0) (.int .u8 0) (.int .u8 0) (.int .u8 0) (.int .u8 0))
    have b2 := hid (below_set8 (g := R) b9 HRB.out (.int .u8 0) (.int .u8 0) (.int .u8 0) (.int .u8 0) (.int .u8 0) (.int .u8 0) (.int .u8 0) (.int .u8 0))
    clear r1
    go_wp2_with fail
    clear g0 g1 g2 g3 g4 g5 g6 g7 k0 k1 k2 k3 k4 k5 k6 k7 c0 c1 c2 c3 c4 c5 c6 c7
    obtain ⟨W, hW⟩ : ∃ W, W = ((((((((V.setCell ⟨R, 0, none⟩ (.int .u8 0)).setCell ⟨R, 1, none⟩ (.int .u8 0)).setCell ⟨R, 2, none⟩ (.int .u8 0)).setCell ⟨R, 3, none⟩ (.int .u8 0)).setCell ⟨R, 4, none⟩ (.int .u8 0)).setCell ⟨R, 5, none⟩ (.int .u8 0)).setCell ⟨R, 6, none⟩ (.int .u8 0)).setCell ⟨R, 7, none⟩ (.int .u8 0)) := ⟨_, rfl⟩
    rw [← hW] at r2 b2 ⊢
    clear hW
    have r2 := r2.out
    have g0 := r2.cell 0; have g1 := r2.cell 1; have g2 := r2.cell 2; have g3 := r2.cell 3; have g4 := r2.cell 4; have g5 := r2.cell 5; have g6 := r2.cell 6; have g7 := r2.cell 7
    simp only [List.getElem?_cons_zero, List.getElem?_cons_succ] at g0 g1 g2 g3 g4 g5 g6 g7
    exact bodyPost_ret (v := .tuple #[.agg #[.int .u8 0, .int .u8 0, .int .u8 0, .int .u8 0, .int .u8 0, .int .u8 0, .int .u8 0, .int .u8 0], .bool false]) (by simp [results, Tryz.results12, go_sem, g0, g1, g2, g3, g4, g5, g6, g7]) rfl ⟨[0, 0, 0, 0, 0, 0, 0, 0], false, rfl, by rw [HRR.out]; exact b2.out, .inr ⟨rfl, rfl, HNO.out⟩⟩
  · subst hmn
    have hmn1 : ((m : Int) != (m : Int)) = false := by simp
    go_upto_region 3 with fail
    rw [← HVV.out]
    go_wp2_with fail
    have HWC := hid HWV.out
    go_loopw [8] (fun i wr => ∃ (k : Nat) (L : List Int), k ≤ m ∧ i = .int .i64 k ∧ L.length = 8 ∧ (∀ z ∈ L, 0 ≤ z ∧ z ≤ 255) ∧ DgTo zs ps L k ∧ Row wr D 24 (L.map (Value.int .u8)) ∧ Row wr R 24 [.int .u8 0, .int .u8 0, .int .u8 0, .int .u8 0, .int .u8 0, .int .u8 0, .int .u8 0, .int .u8 0] ∧ Row wr g 9 ((bas ps).map Value.string ++ rst) ∧ Below R w wr ∧ D < wr.heap.size) (fun i _ => m - (intOf i).toNat)
    case atStart => exact ⟨0, [0, 0, 0, 0, 0, 0, 0, 0], Nat.zero_le _, rfl, rfl, by decide, ⟨fun j hj => by omega, fun j _ hj => by match j, hj with | 0, _ | 1, _ | 2, _ | 3, _ | 4, _ | 5, _ | 6, _ | 7, _ => rfl⟩, HDV.out, HRV.out, HWV.out, HBV.out, HVZ.out⟩
    case round =>
      obtain ⟨k, L, hk, rfl, hL8, hLb, hTo, hD, hRr, hWr, hB, hDz⟩ := hrel
      obtain ⟨wo, rfl⟩ : ∃ z, z = wr := ⟨_, rfl⟩
      have HL8 := hid hL8; have HLB := hid hLb; have HTO := hid hTo; have HDw := hid hD; have HRw := hid hRr; have HWw := hid hWr; have HBw := hid hB; have HDz := hid hDz
      clear hL8 hLb hTo hD hRr hWr hB hDz
      by_cases hkn : k < m
      · have k1 : (k : Int) < (m : Int) := by omega
        have k0 : (0 : Int) ≤ (k : Int) := by omega
        obtain ⟨q, hq⟩ : ∃ q, m - 1 - k = q := ⟨_, rfl⟩
        have hqm : q < m := by omega
        have t2 : IntKind.i64.wrap ((m : Int) - 1 - (k : Int)) = (q : Int) := by rw [show (m : Int) - 1 - (k : Int) = (q : Int) by omega]; exact IntWalk.i64_in _ (by omega)
        have q0 : (0 : Int) ≤ (q : Int) := by omega
        have q1 : (q : Int) < (m : Int) := by omega
        have w1' : IntKind.i64.wrap ((k : Int) + 1) = (k : Int) + 1 := IntWalk.i64_in _ (by omega)
        have hpq : ps[q]? = some (ps[q]'(by rw [HM.out]; exact hqm)) := List.getElem?_eq_getElem _
        obtain ⟨p, hp⟩ : ∃ p, ps[q]'(by rw [HM.out]; exact hqm) = p := ⟨_, rfl⟩
        rw [hp] at hpq
        have hpl := HML.out p (List.mem_of_getElem? hpq)
        have hcell : wo.cell? ⟨g, q, none⟩ = some (.string ⟨p.toArray⟩) := by
          rw [HWw.out.cell q, List.getElem?_append_left (by simp [bas, HM.out]; exact hqm), List.getElem?_map]
          simp [bas, hpq]
        have hpq2 : ps[zs.length - 1 - k]? = some p := by rw [← HN.out, hq]; exact hpq
        have HPQ := hid hpq2
        have HNW := hid (fun es (h : Dg zs l es) => HW.out es h k (by rw [← HN.out]; exact hkn) p hpq2)
        have hzk := HZS.out k hkn
        have zcell : wo.cell? ⟨b, k, none⟩ = some (.int .u8 (ug zs k)) := (HS.out.below HBw.out hbR).2.1 k (by rw [← HN.out]; exact hkn)
        have HIX := hid (fun j hj => idx_str (⟨p.toArray⟩ : ByteArray) j hj 9 rfl)
        have hpd : (⟨p.toArray⟩ : ByteArray).data.toList = p := rfl
        have hpsz : (⟨p.toArray⟩ : ByteArray).size = p.length := by show p.toArray.size = _; simp
        rw [hpd, hpsz] at HIX
        obtain ⟨P, hP⟩ : ∃ P, (⟨p.toArray⟩ : ByteArray) = P := ⟨_, rfl⟩
        rw [hP] at hcell hpsz HIX
        obtain ⟨lp, hlp⟩ : ∃ x, p.length = x := ⟨_, rfl⟩
        rw [hlp] at hpsz HIX hpl
        have HLP := hid hlp; have HPP := hid hP
        obtain ⟨z, hz⟩ : ∃ z, ug zs k = z := ⟨_, rfl⟩
        rw [hz] at hzk zcell HNW
        have HZ := hid hz
        have wz : IntKind.i64.wrap z = z := IntWalk.i64_in _ (by omega)
        have k8 : k < 8 := by omega
        have k8' : (k : Int) < 8 := by omega
        clear hpq hp hpd hP hlp hpq2 hz hq
        go_wp2_with fail
        go_loopw [10, 11] (fun s10 i wr => ∃ (j : Nat) (N : Int), j ≤ lp ∧ j ≤ 3 ∧ i = .int .i64 j ∧ .int .i64 N = s10 ∧ N = (numV (p.take j) : Int) ∧ (p.take j).all digB = true ∧ wo = wr) (fun _ i _ => 3 - (intOf i).toNat)
        case atStart => exact ⟨0, 0, Nat.zero_le _, by omega, rfl, rfl, rfl, rfl, rfl⟩
        case round =>
          obtain ⟨j, N, hj, hj3, rfl, rfl, hNV, hDD, rfl⟩ := hrel
          have hnl := numV_lt (p.take j) hDD
          by_cases hjl : j < lp ∧ j < 3
          · have j1 : (j : Int) < (lp : Int) := by omega
            have j0 : (0 : Int) ≤ (j : Int) := by omega
            have j2 : (j : Int) < 3 := by omega
            have wj : IntKind.i64.wrap ((j : Int) + 1) = (j : Int) + 1 := IntWalk.i64_in _ (by omega)
            obtain ⟨u, hu, hix⟩ := HIX.out j hjl.1
            obtain ⟨x, hx⟩ : ∃ x : Int, (u.toNat : Int) = x := ⟨_, rfl⟩
            rw [hx] at hix
            by_cases hbad : x < 48 ∨ 57 < x
            · have HNO := hid (not_ex (fun es he => by
                have h1 := (HNW.out es he).2.1
                have h2 := List.all_eq_true.1 h1 u (List.mem_of_getElem? hu)
                simp [digB] at h2
                omega))
              clear hu hNV hDD hnl hx
              have r1 := HRw.out
              have b9 := HBw.out
              rcases hbad with hbad | hbad
              · have g0 := r1.cell 0; have k0 := r1.frozen 0; have g1 := r1.cell 1; have k1 := r1.frozen 1; have g2 := r1.cell 2; have k2 := r1.frozen 2; have g3 := r1.cell 3; have k3 := r1.frozen 3; have g4 := r1.cell 4; have k4 := r1.frozen 4; have g5 := r1.cell 5; have k5 := r1.frozen 5; have g6 := r1.cell 6; have k6 := r1.frozen 6; have g7 := r1.cell 7; have k7 := r1.frozen 7
                simp only [List.getElem?_cons_zero, List.getElem?_cons_succ] at g0 g1 g2 g3 g4 g5 g6 g7
                have r2 := hid (r1.set8 rfl (.int .u8 0) (.int .u8 0) (.int .u8 0) (.int .u8 0) (.int .u8 0) (.int .u8 0) (.int .u8 0) (.int .u8 0))
                have b2 := hid (below_set8 (g := R) b9 HRB.out (.int .u8 0) (.int .u8 0) (.int .u8 0) (.int .u8 0) (.int .u8 0) (.int .u8 0) (.int .u8 0) (.int .u8 0))
                clear r1
                go_wp2_with fail
                clear g0 g1 g2 g3 g4 g5 g6 g7 k0 k1 k2 k3 k4 k5 k6 k7
                obtain ⟨W, hW⟩ : ∃ W, W = ((((((((wo.setCell ⟨R, 0, none⟩ (.int .u8 0)).setCell ⟨R, 1, none⟩ (.int .u8 0)).setCell ⟨R, 2, none⟩ (.int .u8 0)).setCell ⟨R, 3, none⟩ (.int .u8 0)).setCell ⟨R, 4, none⟩ (.int .u8 0)).setCell ⟨R, 5, none⟩ (.int .u8 0)).setCell ⟨R, 6, none⟩ (.int .u8 0)).setCell ⟨R, 7, none⟩ (.int .u8 0)) := ⟨_, rfl⟩
                rw [← hW] at r2 b2 ⊢
                clear hW
                have r2 := r2.out
                have g0 := r2.cell 0; have g1 := r2.cell 1; have g2 := r2.cell 2; have g3 := r2.cell 3; have g4 := r2.cell 4; have g5 := r2.cell 5; have g6 := r2.cell 6; have g7 := r2.cell 7
                simp only [List.getElem?_cons_zero, List.getElem?_cons_succ] at g0 g1 g2 g3 g4 g5 g6 g7
                exact bodyPost_ret (v := .tuple #[.agg #[.int .u8 0, .int .u8 0, .int .u8 0, .int .u8 0, .int .u8 0, .int .u8 0, .int .u8 0, .int .u8 0], .bool false]) (by simp [results, Tryz.results12, go_sem, g0, g1, g2, g3, g4, g5, g6, g7]) rfl ⟨[0, 0, 0, 0, 0, 0, 0, 0], false, rfl, by rw [HRR.out]; exact b2.out, .inr ⟨rfl, rfl, HNO.out⟩⟩
              · have hlo : ¬ x < 48 := by omega
                have g0 := r1.cell 0; have k0 := r1.frozen 0; have g1 := r1.cell 1; have k1 := r1.frozen 1; have g2 := r1.cell 2; have k2 := r1.frozen 2; have g3 := r1.cell 3; have k3 := r1.frozen 3; have g4 := r1.cell 4; have k4 := r1.frozen 4; have g5 := r1.cell 5; have k5 := r1.frozen 5; have g6 := r1.cell 6; have k6 := r1.frozen 6; have g7 := r1.cell 7; have k7 := r1.frozen 7
                simp only [List.getElem?_cons_zero, List.getElem?_cons_succ] at g0 g1 g2 g3 g4 g5 g6 g7
                have r2 := hid (r1.set8 rfl (.int .u8 0) (.int .u8 0) (.int .u8 0) (.int .u8 0) (.int .u8 0) (.int .u8 0) (.int .u8 0) (.int .u8 0))
                have b2 := hid (below_set8 (g := R) b9 HRB.out (.int .u8 0) (.int .u8 0) (.int .u8 0) (.int .u8 0) (.int .u8 0) (.int .u8 0) (.int .u8 0) (.int .u8 0))
                clear r1
                go_wp2_with fail
                clear g0 g1 g2 g3 g4 g5 g6 g7 k0 k1 k2 k3 k4 k5 k6 k7
                obtain ⟨W, hW⟩ : ∃ W, W = ((((((((wo.setCell ⟨R, 0, none⟩ (.int .u8 0)).setCell ⟨R, 1, none⟩ (.int .u8 0)).setCell ⟨R, 2, none⟩ (.int .u8 0)).setCell ⟨R, 3, none⟩ (.int .u8 0)).setCell ⟨R, 4, none⟩ (.int .u8 0)).setCell ⟨R, 5, none⟩ (.int .u8 0)).setCell ⟨R, 6, none⟩ (.int .u8 0)).setCell ⟨R, 7, none⟩ (.int .u8 0)) := ⟨_, rfl⟩
                rw [← hW] at r2 b2 ⊢
                clear hW
                have r2 := r2.out
                have g0 := r2.cell 0; have g1 := r2.cell 1; have g2 := r2.cell 2; have g3 := r2.cell 3; have g4 := r2.cell 4; have g5 := r2.cell 5; have g6 := r2.cell 6; have g7 := r2.cell 7
                simp only [List.getElem?_cons_zero, List.getElem?_cons_succ] at g0 g1 g2 g3 g4 g5 g6 g7
                exact bodyPost_ret (v := .tuple #[.agg #[.int .u8 0, .int .u8 0, .int .u8 0, .int .u8 0, .int .u8 0, .int .u8 0, .int .u8 0, .int .u8 0], .bool false]) (by simp [results, Tryz.results12, go_sem, g0, g1, g2, g3, g4, g5, g6, g7]) rfl ⟨[0, 0, 0, 0, 0, 0, 0, 0], false, rfl, by rw [HRR.out]; exact b2.out, .inr ⟨rfl, rfl, HNO.out⟩⟩
            · have hlo : ¬ x < 48 := by omega
              have hhi : ¬ 57 < x := by omega
              have hp10 : 10 ^ (p.take j).length ≤ 10 ^ 3 := Nat.pow_le_pow_right (by omega) (by rw [List.length_take]; omega)
              have nb : 0 ≤ N ∧ N < 1000 := by omega
              have y1 : IntKind.i64.wrap (10 * N) = 10 * N := IntWalk.i64_in _ (by omega)
              have y2 : IntKind.u8.wrap (x - 48) = x - 48 := by simp only [IntKind.wrap, IntKind.signed, IntKind.bits]; simp; omega
              have y3 : IntKind.i64.wrap (x - 48) = x - 48 := IntWalk.i64_in _ (by omega)
              have y4 : IntKind.i64.wrap (10 * N + (x - 48)) = 10 * N + (x - 48) := IntWalk.i64_in _ (by omega)
              have HV2 := hid (show 10 * N + (x - 48) = (numV (p.take (j + 1)) : Int) by rw [take_snoc hu, numV_snoc, hNV]; omega)
              have HD2 := hid (show (p.take (j + 1)).all digB = true by
                rw [take_snoc hu, List.all_append, hDD]
                simp [digB]; omega)
              clear hu hNV hDD hnl hx hp10 nb hbad
              go_wp2_with fail
              go_roundw
              case rel => exact ⟨j + 1, 10 * N + (x - 48), by omega, by omega, by go_num, rfl, HV2.out, HD2.out, by first | rfl | trivial⟩
              case measure => simp [intOf]; omega
          · have hT3 : p.take j = p.take 3 := by
              by_cases h3 : j = 3
              · rw [h3]
              · rw [List.take_of_length_le (by have := HLP.out; omega), List.take_of_length_le (by have := HLP.out; omega)]
            have hp10 : 10 ^ (p.take j).length ≤ 10 ^ 3 := Nat.pow_le_pow_right (by omega) (by rw [List.length_take]; omega)
            have nb : 0 ≤ N ∧ N < 1000 := by omega
            rw [hT3] at hNV
            have HNV := hid hNV
            have hgu : ¬ (j : Int) < (lp : Int) ∨ ((j : Int) < (lp : Int) ∧ ¬ (j : Int) < 3) := by omega
            clear hT3 hp10 hNV hDD hnl hjl
            by_cases hNz : N < z
            · have wN : IntKind.u8.wrap N = N := by simp only [IntKind.wrap, IntKind.signed, IntKind.bits]; simp; omega
              have hNz2 : ¬ z ≤ N := by omega
              have HDGc := hid (specDigit_any z N hzk ⟨nb.1, hNz⟩ wo)
              rw [show padZ (padZ 1 (Lib.itoa (z - 1))).length (Lib.itoa N) = dgT z N from rfl] at HDGc
              by_cases heq : dgT z N = p
              · rw [heq, HPP.out] at HDGc
                have hbb : (P.toList != P.toList) = false := by simp
                have HPK := hid (show ps[zs.length - 1 - k]? = some (dgT (ug zs k) N) from by rw [HZ.out, heq]; exact HPQ.out)
                have HNB := hid (show 0 ≤ N ∧ N < ug zs k from by rw [HZ.out]; exact ⟨nb.1, hNz⟩)
                clear heq
                rcases hgu with hgu | ⟨hgl, hgu⟩
                · go_wp2_with fail
                  refine HDGc.out.mono ?_
                  rintro e w6 ⟨rfl, hB6⟩
                  have hz6 := hB6.size
                  have rD6 := HDw.out.below hB6 HDw.out.lt
                  have hfz := rD6.frozen k
                  obtain ⟨old, hold⟩ : ∃ u, w6.cell? ⟨D, k, none⟩ = some u := ⟨_, (rD6.cell k).trans (List.getElem?_eq_getElem (by rw [List.length_map, HL8.out]; exact k8))⟩
                  have rs := rD6.set k (.int .u8 N)
                  rw [← List.map_set] at rs
                  have HRS := hid rs
                  have HRR6 := hid ((HRw.out.below hB6 HRw.out.lt).other (a := ⟨D, k, none⟩) (by show D ≠ R; omega) (.int .u8 N))
                  have HWR6 := hid ((HWw.out.below hB6 HWw.out.lt).other (a := ⟨D, k, none⟩) (by show D ≠ g; omega) (.int .u8 N))
                  have HBB6 := hid ((HBw.out.trans (hB6.mono (by have h1 := HBw.out.size; have h2 := HRR.out; omega))).setCell (p := ⟨D, k, none⟩) (by show R ≤ D; omega) (.int .u8 N))
                  have HDZ6 := hid (show D < (w6.setCell ⟨D, k, none⟩ (.int .u8 N)).heap.size by have := HDz.out; simp; omega)
                  clear rs rD6 hB6
                  go_wp2_with fail
                  go_roundw
                  case rel => exact ⟨k + 1, L.set k N, by omega, by go_num, by rw [List.length_set]; exact HL8.out, fun z' hz' => by
                    rcases List.mem_or_eq_of_mem_set hz' with h | h
                    · exact HLB.out z' h
                    · subst h; omega, DgTo_step HTO.out HL8.out k8 HNB.out HPK.out, HRS.out, HRR6.out, HWR6.out, HBB6.out, HDZ6.out⟩
                  case measure => simp [intOf]; omega
                · go_wp2_with fail
                  refine HDGc.out.mono ?_
                  rintro e w6 ⟨rfl, hB6⟩
                  have hz6 := hB6.size
                  have rD6 := HDw.out.below hB6 HDw.out.lt
                  have hfz := rD6.frozen k
                  obtain ⟨old, hold⟩ : ∃ u, w6.cell? ⟨D, k, none⟩ = some u := ⟨_, (rD6.cell k).trans (List.getElem?_eq_getElem (by rw [List.length_map, HL8.out]; exact k8))⟩
                  have rs := rD6.set k (.int .u8 N)
                  rw [← List.map_set] at rs
                  have HRS := hid rs
                  have HRR6 := hid ((HRw.out.below hB6 HRw.out.lt).other (a := ⟨D, k, none⟩) (by show D ≠ R; omega) (.int .u8 N))
                  have HWR6 := hid ((HWw.out.below hB6 HWw.out.lt).other (a := ⟨D, k, none⟩) (by show D ≠ g; omega) (.int .u8 N))
                  have HBB6 := hid ((HBw.out.trans (hB6.mono (by have h1 := HBw.out.size; have h2 := HRR.out; omega))).setCell (p := ⟨D, k, none⟩) (by show R ≤ D; omega) (.int .u8 N))
                  have HDZ6 := hid (show D < (w6.setCell ⟨D, k, none⟩ (.int .u8 N)).heap.size by have := HDz.out; simp; omega)
                  clear rs rD6 hB6
                  go_wp2_with fail
                  go_roundw
                  case rel => exact ⟨k + 1, L.set k N, by omega, by go_num, by rw [List.length_set]; exact HL8.out, fun z' hz' => by
                    rcases List.mem_or_eq_of_mem_set hz' with h | h
                    · exact HLB.out z' h
                    · subst h; omega, DgTo_step HTO.out HL8.out k8 HNB.out HPK.out, HRS.out, HRR6.out, HWR6.out, HBB6.out, HDZ6.out⟩
                  case measure => simp [intOf]; omega
              · have HNO := hid (not_ex (fun es he => by
                  have h := HNW.out es he
                  have h2 := HNV.out
                  rw [h.1] at h2
                  exact heq (by rw [h2]; exact h.2.2.2)))
                have hb1 : ((⟨(dgT z N).toArray⟩ : ByteArray).toList == P.toList) = false := by rw [Lib.toList_data, Lib.toList_data, ← HPP.out]; simpa using heq
                have hb2 : ((⟨(dgT z N).toArray⟩ : ByteArray).toList != P.toList) = true := by rw [bne, hb1]; rfl
                have hb3 : ¬ (⟨(dgT z N).toArray⟩ : ByteArray).toList = P.toList := by simpa using hb1
                obtain ⟨T, hT⟩ : ∃ T, (⟨(dgT z N).toArray⟩ : ByteArray) = T := ⟨_, rfl⟩
                rw [hT] at hb1 hb2 hb3 HDGc
                clear heq hT
                rcases hgu with hgu | ⟨hgl, hgu⟩
                · go_wp2_with fail
                  refine HDGc.out.mono ?_
                  rintro e w6 ⟨rfl, hB6⟩
                  have r1 := HRw.out.below hB6 HRw.out.lt
                  have b9 := HBw.out.trans (hB6.mono (by have h1 := HBw.out.size; have h2 := HRR.out; omega))
                  clear hB6
                  have g0 := r1.cell 0; have k0 := r1.frozen 0; have g1 := r1.cell 1; have k1 := r1.frozen 1; have g2 := r1.cell 2; have k2 := r1.frozen 2; have g3 := r1.cell 3; have k3 := r1.frozen 3; have g4 := r1.cell 4; have k4 := r1.frozen 4; have g5 := r1.cell 5; have k5 := r1.frozen 5; have g6 := r1.cell 6; have k6 := r1.frozen 6; have g7 := r1.cell 7; have k7 := r1.frozen 7
                  simp only [List.getElem?_cons_zero, List.getElem?_cons_succ] at g0 g1 g2 g3 g4 g5 g6 g7
                  have r2 := hid (r1.set8 rfl (.int .u8 0) (.int .u8 0) (.int .u8 0) (.int .u8 0) (.int .u8 0) (.int .u8 0) (.int .u8 0) (.int .u8 0))
                  have b2 := hid (below_set8 (g := R) b9 HRB.out (.int .u8 0) (.int .u8 0) (.int .u8 0) (.int .u8 0) (.int .u8 0) (.int .u8 0) (.int .u8 0) (.int .u8 0))
                  clear r1
                  go_wp2_with fail
                  clear g0 g1 g2 g3 g4 g5 g6 g7 k0 k1 k2 k3 k4 k5 k6 k7
                  obtain ⟨W, hW⟩ : ∃ W, W = ((((((((w6.setCell ⟨R, 0, none⟩ (.int .u8 0)).setCell ⟨R, 1, none⟩ (.int .u8 0)).setCell ⟨R, 2, none⟩ (.int .u8 0)).setCell ⟨R, 3, none⟩ (.int .u8 0)).setCell ⟨R, 4, none⟩ (.int .u8 0)).setCell ⟨R, 5, none⟩ (.int .u8 0)).setCell ⟨R, 6, none⟩ (.int .u8 0)).setCell ⟨R, 7, none⟩ (.int .u8 0)) := ⟨_, rfl⟩
                  rw [← hW] at r2 b2 ⊢
                  clear hW
                  have r2 := r2.out
                  have g0 := r2.cell 0; have g1 := r2.cell 1; have g2 := r2.cell 2; have g3 := r2.cell 3; have g4 := r2.cell 4; have g5 := r2.cell 5; have g6 := r2.cell 6; have g7 := r2.cell 7
                  simp only [List.getElem?_cons_zero, List.getElem?_cons_succ] at g0 g1 g2 g3 g4 g5 g6 g7
                  exact bodyPost_ret (v := .tuple #[.agg #[.int .u8 0, .int .u8 0, .int .u8 0, .int .u8 0, .int .u8 0, .int .u8 0, .int .u8 0, .int .u8 0], .bool false]) (by simp [results, Tryz.results12, go_sem, g0, g1, g2, g3, g4, g5, g6, g7]) rfl ⟨[0, 0, 0, 0, 0, 0, 0, 0], false, rfl, by rw [HRR.out]; exact b2.out, .inr ⟨rfl, rfl, HNO.out⟩⟩
                · go_wp2_with fail
                  refine HDGc.out.mono ?_
                  rintro e w6 ⟨rfl, hB6⟩
                  have r1 := HRw.out.below hB6 HRw.out.lt
                  have b9 := HBw.out.trans (hB6.mono (by have h1 := HBw.out.size; have h2 := HRR.out; omega))
                  clear hB6
                  have g0 := r1.cell 0; have k0 := r1.frozen 0; have g1 := r1.cell 1; have k1 := r1.frozen 1; have g2 := r1.cell 2; have k2 := r1.frozen 2; have g3 := r1.cell 3; have k3 := r1.frozen 3; have g4 := r1.cell 4; have k4 := r1.frozen 4; have g5 := r1.cell 5; have k5 := r1.frozen 5; have g6 := r1.cell 6; have k6 := r1.frozen 6; have g7 := r1.cell 7; have k7 := r1.frozen 7
                  simp only [List.getElem?_cons_zero, List.getElem?_cons_succ] at g0 g1 g2 g3 g4 g5 g6 g7
                  have r2 := hid (r1.set8 rfl (.int .u8 0) (.int .u8 0) (.int .u8 0) (.int .u8 0) (.int .u8 0) (.int .u8 0) (.int .u8 0) (.int .u8 0))
                  have b2 := hid (below_set8 (g := R) b9 HRB.out (.int .u8 0) (.int .u8 0) (.int .u8 0) (.int .u8 0) (.int .u8 0) (.int .u8 0) (.int .u8 0) (.int .u8 0))
                  clear r1
                  go_wp2_with fail
                  clear g0 g1 g2 g3 g4 g5 g6 g7 k0 k1 k2 k3 k4 k5 k6 k7
                  obtain ⟨W, hW⟩ : ∃ W, W = ((((((((w6.setCell ⟨R, 0, none⟩ (.int .u8 0)).setCell ⟨R, 1, none⟩ (.int .u8 0)).setCell ⟨R, 2, none⟩ (.int .u8 0)).setCell ⟨R, 3, none⟩ (.int .u8 0)).setCell ⟨R, 4, none⟩ (.int .u8 0)).setCell ⟨R, 5, none⟩ (.int .u8 0)).setCell ⟨R, 6, none⟩ (.int .u8 0)).setCell ⟨R, 7, none⟩ (.int .u8 0)) := ⟨_, rfl⟩
                  rw [← hW] at r2 b2 ⊢
                  clear hW
                  have r2 := r2.out
                  have g0 := r2.cell 0; have g1 := r2.cell 1; have g2 := r2.cell 2; have g3 := r2.cell 3; have g4 := r2.cell 4; have g5 := r2.cell 5; have g6 := r2.cell 6; have g7 := r2.cell 7
                  simp only [List.getElem?_cons_zero, List.getElem?_cons_succ] at g0 g1 g2 g3 g4 g5 g6 g7
                  exact bodyPost_ret (v := .tuple #[.agg #[.int .u8 0, .int .u8 0, .int .u8 0, .int .u8 0, .int .u8 0, .int .u8 0, .int .u8 0, .int .u8 0], .bool false]) (by simp [results, Tryz.results12, go_sem, g0, g1, g2, g3, g4, g5, g6, g7]) rfl ⟨[0, 0, 0, 0, 0, 0, 0, 0], false, rfl, by rw [HRR.out]; exact b2.out, .inr ⟨rfl, rfl, HNO.out⟩⟩
            · have hNz2 : z ≤ N := by omega
              have HNO := hid (not_ex (fun es he => by
                have h := HNW.out es he
                have h2 := HNV.out
                rw [h.1] at h2
                omega))
              have r1 := HRw.out
              have b9 := HBw.out
              rcases hgu with hgu | ⟨hgl, hgu⟩
              · have g0 := r1.cell 0; have k0 := r1.frozen 0; have g1 := r1.cell 1; have k1 := r1.frozen 1; have g2 := r1.cell 2; have k2 := r1.frozen 2; have g3 := r1.cell 3; have k3 := r1.frozen 3; have g4 := r1.cell 4; have k4 := r1.frozen 4; have g5 := r1.cell 5; have k5 := r1.frozen 5; have g6 := r1.cell 6; have k6 := r1.frozen 6; have g7 := r1.cell 7; have k7 := r1.frozen 7
                simp only [List.getElem?_cons_zero, List.getElem?_cons_succ] at g0 g1 g2 g3 g4 g5 g6 g7
                have r2 := hid (r1.set8 rfl (.int .u8 0) (.int .u8 0) (.int .u8 0) (.int .u8 0) (.int .u8 0) (.int .u8 0) (.int .u8 0) (.int .u8 0))
                have b2 := hid (below_set8 (g := R) b9 HRB.out (.int .u8 0) (.int .u8 0) (.int .u8 0) (.int .u8 0) (.int .u8 0) (.int .u8 0) (.int .u8 0) (.int .u8 0))
                clear r1
                go_wp2_with fail
                clear g0 g1 g2 g3 g4 g5 g6 g7 k0 k1 k2 k3 k4 k5 k6 k7
                obtain ⟨W, hW⟩ : ∃ W, W = ((((((((wo.setCell ⟨R, 0, none⟩ (.int .u8 0)).setCell ⟨R, 1, none⟩ (.int .u8 0)).setCell ⟨R, 2, none⟩ (.int .u8 0)).setCell ⟨R, 3, none⟩ (.int .u8 0)).setCell ⟨R, 4, none⟩ (.int .u8 0)).setCell ⟨R, 5, none⟩ (.int .u8 0)).setCell ⟨R, 6, none⟩ (.int .u8 0)).setCell ⟨R, 7, none⟩ (.int .u8 0)) := ⟨_, rfl⟩
                rw [← hW] at r2 b2 ⊢
                clear hW
                have r2 := r2.out
                have g0 := r2.cell 0; have g1 := r2.cell 1; have g2 := r2.cell 2; have g3 := r2.cell 3; have g4 := r2.cell 4; have g5 := r2.cell 5; have g6 := r2.cell 6; have g7 := r2.cell 7
                simp only [List.getElem?_cons_zero, List.getElem?_cons_succ] at g0 g1 g2 g3 g4 g5 g6 g7
                exact bodyPost_ret (v := .tuple #[.agg #[.int .u8 0, .int .u8 0, .int .u8 0, .int .u8 0, .int .u8 0, .int .u8 0, .int .u8 0, .int .u8 0], .bool false]) (by simp [results, Tryz.results12, go_sem, g0, g1, g2, g3, g4, g5, g6, g7]) rfl ⟨[0, 0, 0, 0, 0, 0, 0, 0], false, rfl, by rw [HRR.out]; exact b2.out, .inr ⟨rfl, rfl, HNO.out⟩⟩
              · have g0 := r1.cell 0; have k0 := r1.frozen 0; have g1 := r1.cell 1; have k1 := r1.frozen 1; have g2 := r1.cell 2; have k2 := r1.frozen 2; have g3 := r1.cell 3; have k3 := r1.frozen 3; have g4 := r1.cell 4; have k4 := r1.frozen 4; have g5 := r1.cell 5; have k5 := r1.frozen 5; have g6 := r1.cell 6; have k6 := r1.frozen 6; have g7 := r1.cell 7; have k7 := r1.frozen 7
                simp only [List.getElem?_cons_zero, List.getElem?_cons_succ] at g0 g1 g2 g3 g4 g5 g6 g7
                have r2 := hid (r1.set8 rfl (.int .u8 0) (.int .u8 0) (.int .u8 0) (.int .u8 0) (.int .u8 0) (.int .u8 0) (.int .u8 0) (.int .u8 0))
                have b2 := hid (below_set8 (g := R) b9 HRB.out (.int .u8 0) (.int .u8 0) (.int .u8 0) (.int .u8 0) (.int .u8 0) (.int .u8 0) (.int .u8 0) (.int .u8 0))
                clear r1
                go_wp2_with fail
                clear g0 g1 g2 g3 g4 g5 g6 g7 k0 k1 k2 k3 k4 k5 k6 k7
                obtain ⟨W, hW⟩ : ∃ W, W = ((((((((wo.setCell ⟨R, 0, none⟩ (.int .u8 0)).setCell ⟨R, 1, none⟩ (.int .u8 0)).setCell ⟨R, 2, none⟩ (.int .u8 0)).setCell ⟨R, 3, none⟩ (.int .u8 0)).setCell ⟨R, 4, none⟩ (.int .u8 0)).setCell ⟨R, 5, none⟩ (.int .u8 0)).setCell ⟨R, 6, none⟩ (.int .u8 0)).setCell ⟨R, 7, none⟩ (.int .u8 0)) := ⟨_, rfl⟩
                rw [← hW] at r2 b2 ⊢
                clear hW
                have r2 := r2.out
                have g0 := r2.cell 0; have g1 := r2.cell 1; have g2 := r2.cell 2; have g3 := r2.cell 3; have g4 := r2.cell 4; have g5 := r2.cell 5; have g6 := r2.cell 6; have g7 := r2.cell 7
                simp only [List.getElem?_cons_zero, List.getElem?_cons_succ] at g0 g1 g2 g3 g4 g5 g6 g7
                exact bodyPost_ret (v := .tuple #[.agg #[.int .u8 0, .int .u8 0, .int .u8 0, .int .u8 0, .int .u8 0, .int .u8 0, .int .u8 0, .int .u8 0], .bool false]) (by simp [results, Tryz.results12, go_sem, g0, g1, g2, g3, g4, g5, g6, g7]) rfl ⟨[0, 0, 0, 0, 0, 0, 0, 0], false, rfl, by rw [HRR.out]; exact b2.out, .inr ⟨rfl, rfl, HNO.out⟩⟩
      · obtain rfl : k = m := by omega
        have k1 : ¬ (k : Int) < (k : Int) := by omega
        obtain ⟨e0, e1, e2, e3, e4, e5, e6, e7, hE⟩ := len8 HL8.out
        have HDG := hid (HMK.out L HL8.out HN.out (by rw [← HN.out]; exact HTO.out))
        have rd := HDw.out
        rw [hE] at rd HDG
        simp only [List.map_cons, List.map_nil] at rd
        have c0 := rd.cell 0; have c1 := rd.cell 1; have c2 := rd.cell 2; have c3 := rd.cell 3; have c4 := rd.cell 4; have c5 := rd.cell 5; have c6 := rd.cell 6; have c7 := rd.cell 7
        simp only [List.getElem?_cons_zero, List.getElem?_cons_succ] at c0 c1 c2 c3 c4 c5 c6 c7
        have r1 := HRw.out
        have b9 := HBw.out
        clear rd hE
        have g0 := r1.cell 0; have k0 := r1.frozen 0; have g1 := r1.cell 1; have k1 := r1.frozen 1; have g2 := r1.cell 2; have k2 := r1.frozen 2; have g3 := r1.cell 3; have k3 := r1.frozen 3; have g4 := r1.cell 4; have k4 := r1.frozen 4; have g5 := r1.cell 5; have k5 := r1.frozen 5; have g6 := r1.cell 6; have k6 := r1.frozen 6; have g7 := r1.cell 7; have k7 := r1.frozen 7
        simp only [List.getElem?_cons_zero, List.getElem?_cons_succ] at g0 g1 g2 g3 g4 g5 g6 g7
        have r2 := hid (r1.set8 rfl (.int .u8 e0) (.int .u8 e1) (.int .u8 e2) (.int .u8 e3) (.int .u8 e4) (.int .u8 e5) (.int .u8 e6) (.int .u8 e7))
        have b2 := hid (below_set8 (g := R) b9 HRB.out (.int .u8 e0) (.int .u8 e1) (.int .u8 e2) (.int .u8 e3) (.int .u8 e4) (.int .u8 e5) (.int .u8 e6) (.int .u8 e7))
        clear r1
        go_wp2_with fail
        clear g0 g1 g2 g3 g4 g5 g6 g7 k0 k1 k2 k3 k4 k5 k6 k7 c0 c1 c2 c3 c4 c5 c6 c7
        obtain ⟨W, hW⟩ : ∃ W, W = ((((((((wo.setCell ⟨R, 0, none⟩ (.int .u8 e0)).setCell ⟨R, 1, none⟩ (.int .u8 e1)).setCell ⟨R, 2, none⟩ (.int .u8 e2)).setCell ⟨R, 3, none⟩ (.int .u8 e3)).setCell ⟨R, 4, none⟩ (.int .u8 e4)).setCell ⟨R, 5, none⟩ (.int .u8 e5)).setCell ⟨R, 6, none⟩ (.int .u8 e6)).setCell ⟨R, 7, none⟩ (.int .u8 e7)) := ⟨_, rfl⟩
        rw [← hW] at r2 b2 ⊢
        clear hW
        have r2 := r2.out
        have g0 := r2.cell 0; have g1 := r2.cell 1; have g2 := r2.cell 2; have g3 := r2.cell 3; have g4 := r2.cell 4; have g5 := r2.cell 5; have g6 := r2.cell 6; have g7 := r2.cell 7
        simp only [List.getElem?_cons_zero, List.getElem?_cons_succ] at g0 g1 g2 g3 g4 g5 g6 g7
        exact bodyPost_ret (v := .tuple #[.agg #[.int .u8 e0, .int .u8 e1, .int .u8 e2, .int .u8 e3, .int .u8 e4, .int .u8 e5, .int .u8 e6, .int .u8 e7], .bool true]) (by simp [results, Tryz.results12, go_sem, g0, g1, g2, g3, g4, g5, g6, g7]) rfl ⟨[e0, e1, e2, e3, e4, e5, e6, e7], true, rfl, by rw [HRR.out]; exact b2.out, .inl ⟨rfl, HDG.out⟩⟩
end Go.Proofs.YtcbhlljgcndhdaaGreatDoor
