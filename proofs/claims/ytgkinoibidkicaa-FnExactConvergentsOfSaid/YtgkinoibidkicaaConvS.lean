/- The ratios of first terms, the model's list in full. -/
import Derived.Test.YtgkinoibidkicaaConvI
import Derived.Deep.RegionHeld3
import Derived.OrdersHeld
namespace Go.Proofs.Ytgkinoibidkicaa
open Go.RowKit
set_option maxRecDepth 100000 in
set_option maxHeartbeats 4000000 in
theorem l03Convs_any (b n cap : Nat) (zs : List Int) (w : World) (hbl : b < w.heap.size) (hcl : ∀ j, j < zs.length → w.cell? ⟨b, j, none⟩ = some (.int .i64 (zs[j]?.getD 0))) (hn : n = zs.length) (h1 : 1 ≤ n) (h60 : n ≤ 1000000000) (hz : zTo zs n) :
    Calls Try.prog 11 #[.slice (some ⟨b, 0, none⟩) n cap] w (CvR w zs n (.int .i64 0) (.int .i64 3)) := by
  obtain ⟨i0, hi, iz0, iz1, iz2⟩ := info_parts Try.infoRatio
  have hC := hid hcl
  have hN := hid hn
  have HZ := hid hz
  clear hcl hn hz
  obtain ⟨W0, hW0⟩ : ∃ W, W = (((w.alloc (.cells #[] 27)).alloc (.cells #[.int .i64 1, .int .i64 0] 27)).alloc (.cells #[.int .i64 0, .int .i64 1] 27)) := ⟨_, rfl⟩
  have rE : Row W0 w.heap.size 27 [] := by rw [hW0]; exact ((Row.new w _ []).alloc _).alloc _
  have r0 : Row W0 (w.heap.size + 1) 27 [.int .i64 1, .int .i64 0] := by
    have h := (Row.new (w.alloc (.cells #[] 27)) 27 [.int .i64 1, .int .i64 0]).alloc (.cells #[.int .i64 0, .int .i64 1] 27)
    simp only [World.size_alloc] at h
    rw [hW0]; exact h
  have r1 : Row W0 (w.heap.size + 1 + 1) 27 [.int .i64 0, .int .i64 1] := by
    have h := Row.new ((w.alloc (.cells #[] 27)).alloc (.cells #[.int .i64 1, .int .i64 0] 27)) 27 [.int .i64 0, .int .i64 1]
    simp only [World.size_alloc] at h
    rw [hW0]; exact h
  have b0 : Below w.heap.size w W0 := by rw [hW0]; exact (((Below.refl _ w).alloc (Nat.le_refl _) _).alloc (by simp) _).alloc (by simp; omega) _
  have o0 : W0.ownsRow w.heap.size 27 2 (.slice (some ⟨w.heap.size, 0, none⟩) 0 0) 0 [] := ⟨rfl, .inr ⟨w.heap.size, 0, #[], rfl, Nat.le_refl _, rE, by omega, by unfold maxLen; omega, rfl, rfl⟩⟩
  have R0 := hid r0
  have R1 := hid r1
  have B0 := hid b0
  have O0 := hid o0
  have hW2 := hid hW0
  clear r0 r1 b0 rE o0 hW0
  go_enter Try.func11, Try.ntmps11
  go_wp2_with fail
  rw [← hW2.out]
  go_loopw [4, 7] (fun v i wr => ∃ (k : Nat) (xs : List Value), k ≤ n ∧ i = .int .i64 k ∧ Row wr (w.heap.size + 1 + 1) 27 [.int .i64 (fP zs k).1, .int .i64 (fQ zs k).1] ∧ Row wr (w.heap.size + 1) 27 [.int .i64 (fP zs k).2, .int .i64 (fQ zs k).2] ∧ (wr.ownsRow w.heap.size 27 2 v k xs ∧ some (w.heap.size + 1) ≠ v.ownBlock ∧ some (w.heap.size + 1 + 1) ≠ v.ownBlock) ∧ xs = tvals (convL zs k) ∧ inTo zs k ∧ Below w.heap.size w wr) (fun _ i _ => n - (intOf i).toNat)
  case atStart => exact ⟨0, [], Nat.zero_le _, rfl, R1.out, R0.out, ⟨O0.out, fun e => by have := Option.some.inj e; simp at this, fun e => by have := Option.some.inj e; simp at this; omega⟩, (by simp [convL, tvals, numrs]), fun j h => by omega, B0.out⟩
  case round =>
    obtain ⟨k, xs, hk, rfl, r0, r1, hown, hends, hin, hB⟩ := hrel
    have hzr := hB.size
    have lt1 := r1.lt
    have lt0 := r0.lt
    have Q0 := hid r0
    have Q1 := hid r1
    have HO := hid hown.1
    have nA := hid hown.2.1
    have nB := hid hown.2.2
    have HE := hid hends
    have HI := hid hin
    have HB := hid hB
    clear r0 r1 hown hends hin hB
    by_cases hlt : k < n
    · have hlt' : (k : Int) < (n : Int) := by omega
      have hk0 : (0 : Int) ≤ (k : Int) := by omega
      have hkz : Hid (k < zs.length) := hid (by rw [← hN.out]; exact hlt)
      have cc := (HB.out.cell (p := ⟨b, k, none⟩) hbl).trans (hC.out k hkz.out)
      have FB := f_bd (zs := zs) k (fun j hj => HZ.out j (by omega)) HI.out
      obtain ⟨⟨hu1, hu2, hu3, hu4⟩, hu5, hu6, hu7, hu8⟩ := FB
      obtain ⟨z1, z2⟩ := HZ.out k hlt
      obtain ⟨m1, m2, m3, m4⟩ := mul_add_bd z1 z2 hu3 hu4 hu1 hu2
      obtain ⟨m5, m6, m7, m8⟩ := mul_add_bd z1 z2 hu7 hu8 hu5 hu6
      have HP1 : Hid ((fP zs (k + 1)).1 = (fP zs k).2) := hid rfl
      have HQ1 : Hid ((fQ zs (k + 1)).1 = (fQ zs k).2) := hid rfl
      have HP2 : Hid ((fP zs (k + 1)).2 = zA zs k * (fP zs k).2 + (fP zs k).1) := hid rfl
      have HQ2 : Hid ((fQ zs (k + 1)).2 = zA zs k * (fQ zs k).2 + (fQ zs k).1) := hid rfl
      obtain ⟨z, hz⟩ : ∃ z, zA zs k = z := ⟨_, rfl⟩
      obtain ⟨p0, hp0⟩ : ∃ z, (fP zs k).1 = z := ⟨_, rfl⟩
      obtain ⟨p1, hp1⟩ : ∃ z, (fP zs k).2 = z := ⟨_, rfl⟩
      obtain ⟨q0, hq0⟩ : ∃ z, (fQ zs k).1 = z := ⟨_, rfl⟩
      obtain ⟨q1, hq1⟩ : ∃ z, (fQ zs k).2 = z := ⟨_, rfl⟩
      have ccz : wr.cell? ⟨b, k, none⟩ = some (.int .i64 z) := by rw [← hz]; exact cc
      rw [hz] at z1 z2
      rw [hz, hp1] at m1 m2
      rw [hz, hq1] at m5 m6
      rw [hz, hp1, hp0] at m3 m4
      rw [hz, hq1, hq0] at m7 m8
      rw [hz, hp1, hp0] at HP2
      rw [hz, hq1, hq0] at HQ2
      rw [hp1] at HP1 hu3 hu4
      rw [hq1] at HQ1 hu7 hu8
      rw [hp0] at hu1 hu2
      rw [hq0] at hu5 hu6
      rw [hp0, hq0] at Q0
      rw [hp1, hq1] at Q1
      clear cc hz hp0 hp1 hq0 hq1
      obtain ⟨s, hs⟩ : ∃ s, z * p1 = s := ⟨_, rfl⟩
      obtain ⟨t, ht⟩ : ∃ s, z * q1 = s := ⟨_, rfl⟩
      rw [hs] at m1 m2 m3 m4 HP2
      rw [ht] at m5 m6 m7 m8 HQ2
      obtain ⟨x, hx⟩ : ∃ x, s + p0 = x := ⟨_, rfl⟩
      obtain ⟨y, hy⟩ : ∃ x, t + q0 = x := ⟨_, rfl⟩
      rw [hx] at m3 m4 HP2
      rw [hy] at m7 m8 HQ2
      have t1 : IntKind.i64.wrap s = s := IntWalk.i64_in _ (by omega)
      have t2 : IntKind.i64.wrap t = t := IntWalk.i64_in _ (by omega)
      have t3 : IntKind.i64.wrap x = x := IntWalk.i64_in _ (by omega)
      have t4 : IntKind.i64.wrap y = y := IntWalk.i64_in _ (by omega)
      have c0 := Q0.out.cell 0
      have c1 := Q0.out.cell 1
      have c2 := Q1.out.cell 0
      have c3 := Q1.out.cell 1
      simp only [List.getElem?_cons_zero, List.getElem?_cons_succ] at c0 c1 c2 c3
      have hb0 := Below.refl wr.heap.size wr
      go_wp2_with fail
      have SOF := hid (fun (v : World) (h : Below wr.heap.size wr v) => (And.intro ((h.cell (p := ⟨b, k, none⟩) (Nat.lt_of_lt_of_le hbl hzr)).trans ccz) (And.intro ((h.cell (p := ⟨w.heap.size + 1, 0, none⟩) lt1).trans c2) (And.intro ((h.cell (p := ⟨w.heap.size + 1, 1, none⟩) lt1).trans c3) (And.intro ((h.cell (p := ⟨w.heap.size + 1 + 1, 0, none⟩) lt0).trans c0) ((h.cell (p := ⟨w.heap.size + 1 + 1, 1, none⟩) lt0).trans c1))))))
      go_region_held3 (fun w' => w'.cell? ⟨b, k, none⟩ = some (.int .i64 z) ∧ w'.cell? ⟨w.heap.size + 1, 0, none⟩ = some (.int .i64 p1) ∧ w'.cell? ⟨w.heap.size + 1, 1, none⟩ = some (.int .i64 q1) ∧ w'.cell? ⟨w.heap.size + 1 + 1, 0, none⟩ = some (.int .i64 p0) ∧ w'.cell? ⟨w.heap.size + 1 + 1, 1, none⟩ = some (.int .i64 q0)) (exact SOF.out _ (by (repeat (first | assumption | refine Below.drew ?_ | refine Below.setCell ?_ (by first | omega | (simp; done) | (simp; omega)) _ | refine Below.alloc ?_ (by first | omega | (simp; done) | (simp; omega)) _))))
        (fail)
      obtain ⟨V, hV⟩ : ∃ V, V = (wr.alloc (.cells #[.int .i64 x, .int .i64 y] 27)).drew := ⟨_, rfl⟩
      have RA := hid (show Row V (w.heap.size + 1 + 1) 27 [.int .i64 p0, .int .i64 q0] by rw [hV]; exact Row.drewN (Q0.out.alloc _) 1)
      have RB := hid (show Row V (w.heap.size + 1) 27 [.int .i64 p1, .int .i64 q1] by rw [hV]; exact Row.drewN (Q1.out.alloc _) 1)
      have RN := hid (show Row V wr.heap.size 27 [.int .i64 x, .int .i64 y] by rw [hV]; exact Row.drewN (Row.new wr _ _) 1)
      have OV := hid (show V.ownsRow w.heap.size 27 2 u4 k xs by rw [hV]; exact owns_below (HO.out.alloc _) ((Below.refl _ _).drew))
      have BV := hid (show Below w.heap.size w V by rw [hV]; exact (HB.out.alloc hzr _).drew)
      have sV : V.heap.size = wr.heap.size + 1 := by rw [hV]; simp
      have hvs : wr.heap.size + 1 ≤ V.heap.size := by omega
      rw [← hV]
      clear hV sV c0 c1 c2 c3
      have d2 := RN.out.cell 0
      have d3 := RN.out.cell 1
      simp only [List.getElem?_cons_zero, List.getElem?_cons_succ] at d2 d3
      by_cases hx1 : x ≤ 1000000000
      · by_cases hy1 : y ≤ 1000000000
        · have HI2 := hid (inTo_succ HI.out (by rw [HP2.out]; omega) (by rw [HQ2.out]; omega))
          have OV1 := hid (OV.out.alloc (.cells #[.int .i64 x, .int .i64 y] 27))
          have news := Row.new V 27 [.int .i64 x, .int .i64 y]
          have n0 := news.cell 0
          have n1 := news.cell 1
          simp only [List.getElem?_cons_zero, List.getElem?_cons_succ] at n0 n1
          have RA1 := hid (RA.out.alloc (.cells #[.int .i64 x, .int .i64 y] 27))
          have RB1 := hid (RB.out.alloc (.cells #[.int .i64 x, .int .i64 y] 27))
          have RN1 := hid (RN.out.alloc (.cells #[.int .i64 x, .int .i64 y] 27))
          have BV1 := hid (BV.out.alloc BV.out.size (.cells #[.int .i64 x, .int .i64 y] 27))
          have hbz := BV.out.size
          clear news
          go_upto_region 11 with (at_builtin; refine wpList_append_own_at _ rfl _ _ 24 rfl w.heap.size 27 i0 (.agg #[.int .i64 0, .int .i64 0]) 2 16 Try.underlying24 hi iz0 iz1 iz2 rfl (by decide) _ _ _ rfl OV1.out ⟨V.heap.size, 0, none⟩ 1 1 [.int .i64 x, .int .i64 y] rfl rfl (by intro j u hj; match j, hj with | 0, hj => simp at hj; subst hj; simp [Addr.add, n0] | 1, hj => simp at hj; subst hj; simp [Addr.add, n1]) (by intro u hu; simp at hu; rcases hu with rfl | rfl <;> rfl) (by unfold maxLen; omega) (by omega) (by simp; omega) ?_; intro v' w2 hown' hgrow _ hat)
          have hg2 : (V.alloc (.cells #[.int .i64 x, .int .i64 y] 27)).grownBy w2 u4.ownBlock := hgrow
          have hat2 : v'.ownBlock = u4.ownBlock ∨ v'.ownBlock = some (V.heap.size + 1) := by
            rcases hat with h | h
            · exact .inl h
            · exact .inr (by rw [h]; simp)
          have nN : some wr.heap.size ≠ u4.ownBlock := fun e => by have := (HO.out.lt _ e.symm).2; omega
          have mA : some (w.heap.size + 1) ≠ v'.ownBlock := by
            rcases hat2 with h | h
            · rw [h]; exact nA.out
            · rw [h]; intro e; have := Option.some.inj e; omega
          have mB : some (w.heap.size + 1 + 1) ≠ v'.ownBlock := by
            rcases hat2 with h | h
            · rw [h]; exact nB.out
            · rw [h]; intro e; have := Option.some.inj e; omega
          have RA2 := RA1.out.grown hg2 nB.out
          have RB2 := RB1.out.grown hg2 nA.out
          have RN2 := RN1.out.grown hg2 nN
          have BV2 := BV1.out.grown hg2 (by simp; omega) (fun k e => by have := (OV1.out.lt k e).1; omega)
          have E2 : Hid (xs ++ [.int .i64 x, .int .i64 y] = tvals (convL zs (k + 1))) := hid (by rw [tvals_conv, HP2.out, HQ2.out, HE.out])
          have ra : Row _ (w.heap.size + 1 + 1) 27 [.int .i64 p1, .int .i64 q1] := (RA2.set 0 (.int .i64 p1)).set 1 (.int .i64 q1)
          have rb := (RB2.other (a := ⟨w.heap.size + 1 + 1, 0, none⟩) (by show w.heap.size + 1 + 1 ≠ w.heap.size + 1; omega) (.int .i64 p1)).other (a := ⟨w.heap.size + 1 + 1, 1, none⟩) (by show w.heap.size + 1 + 1 ≠ w.heap.size + 1; omega) (.int .i64 q1)
          have rn := (RN2.other (a := ⟨w.heap.size + 1 + 1, 0, none⟩) (by show w.heap.size + 1 + 1 ≠ wr.heap.size; omega) (.int .i64 p1)).other (a := ⟨w.heap.size + 1 + 1, 1, none⟩) (by show w.heap.size + 1 + 1 ≠ wr.heap.size; omega) (.int .i64 q1)
          have RA3 := hid ((ra.other (a := ⟨w.heap.size + 1, 0, none⟩) (by show w.heap.size + 1 ≠ w.heap.size + 1 + 1; omega) (.int .i64 x)).other (a := ⟨w.heap.size + 1, 1, none⟩) (by show w.heap.size + 1 ≠ w.heap.size + 1 + 1; omega) (.int .i64 y))
          have RB3 : Hid (Row _ (w.heap.size + 1) 27 [.int .i64 x, .int .i64 y]) := hid ((rb.set 0 (.int .i64 x)).set 1 (.int .i64 y))
          have O3 := hid (owns_other (owns_other (owns_other (owns_other hown' (a := ⟨w.heap.size + 1 + 1, 0, none⟩) mB (.int .i64 p1)) (a := ⟨w.heap.size + 1 + 1, 1, none⟩) mB (.int .i64 q1)) (a := ⟨w.heap.size + 1, 0, none⟩) mA (.int .i64 x)) (a := ⟨w.heap.size + 1, 1, none⟩) mA (.int .i64 y))
          have B3 := hid ((((BV2.setCell (p := ⟨w.heap.size + 1 + 1, 0, none⟩) (by show w.heap.size ≤ w.heap.size + 1 + 1; omega) (.int .i64 p1)).setCell (p := ⟨w.heap.size + 1 + 1, 1, none⟩) (by show w.heap.size ≤ w.heap.size + 1 + 1; omega) (.int .i64 q1)).setCell (p := ⟨w.heap.size + 1, 0, none⟩) (by show w.heap.size ≤ w.heap.size + 1; omega) (.int .i64 x)).setCell (p := ⟨w.heap.size + 1, 1, none⟩) (by show w.heap.size ≤ w.heap.size + 1; omega) (.int .i64 y))
          have NAB := hid (And.intro mA mB)
          have e0 := RB2.cell 0
          have e1 := RB2.cell 1
          have e2 := RA2.cell 0
          have e3 := RA2.cell 1
          have f2 := RA2.frozen 0
          have f3 := RA2.frozen 1
          have g0 := rn.cell 0
          have g1 := rn.cell 1
          have g2 := rb.cell 0
          have g3 := rb.cell 1
          have h2 := rb.frozen 0
          have h3 := rb.frozen 1
          simp only [List.getElem?_cons_zero, List.getElem?_cons_succ] at e0 e1 e2 e3 g0 g1 g2 g3
          clear hown' hgrow hg2 hat hat2 nN mA mB RA2 RB2 RN2 BV2 n0 n1 d2 d3 OV1 RA1 RB1 RN1 BV1 ra rb rn
          go_wp2_with fail
          go_roundw
          case rel => exact ⟨k + 1, _, by omega, by go_num, by rw [HP1.out, HQ1.out]; exact RA3.out, by rw [HP2.out, HQ2.out]; exact RB3.out, ⟨O3.out, NAB.out.1, NAB.out.2⟩, E2.out, HI2.out, B3.out⟩
          case measure => simp [intOf]; omega
        · have hgt : 1000000000 < y := by omega
          have HF := hid (inF_no (zs := zs) k hkz.out (by rw [HP2.out, HQ2.out]; omega))
          clear hy1
          go_wp2_with fail
          go_ret2
          exact ⟨BV.out.alloc BV.out.size _, .inr ⟨HF.out, _, rfl⟩⟩
      · have hgt : 1000000000 < x := by omega
        have HF := hid (inF_no (zs := zs) k hkz.out (by rw [HP2.out, HQ2.out]; omega))
        clear hx1
        go_wp2_with fail
        go_ret2
        exact ⟨BV.out.alloc BV.out.size _, .inr ⟨HF.out, _, rfl⟩⟩
    · obtain rfl : k = n := by omega
      have HF := hid (inF_yes (zs := zs) (by rw [← hN.out]; exact HI.out))
      have ho2 := HO.out
      rw [HE.out] at ho2
      obtain ⟨g, cap', rest, hv, e1, e2, e3⟩ := own_full ho2 h1
      clear ho2
      have HV := hid hv
      have HE2 := hid (And.intro e1 (And.intro e2 e3))
      clear e1 e2 e3 hv
      go_wp2_with fail
      go_ret2
      exact ⟨HB.out, .inl ⟨HF.out, g, cap', rest, by rw [HV.out]; rfl, HE2.out.1, HE2.out.2.1, HE2.out.2.2⟩⟩
end Go.Proofs.Ytgkinoibidkicaa
