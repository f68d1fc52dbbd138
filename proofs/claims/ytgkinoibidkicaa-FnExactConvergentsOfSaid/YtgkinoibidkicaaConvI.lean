/- The ratios of first terms, the program's list in full. -/
import Derived.Test.YtgkinoibidkicaaFrom
import Derived.Test.YtgkinoibidkicaaConvM
namespace Go.Proofs.Ytgkinoibidkicaa
open Go.RowKit
/-- what firstRatios returns: a list of all ratios, or none -/
def CvR (w : World) (zs : List Int) (n : Nat) (okv failv : Value) (e : Ending) (w' : World) : Prop :=
  Below w.heap.size w w' ∧ ((inF zs = true ∧ ∃ g cap rest, e = .returned (.tuple #[.slice (some ⟨g, 0, none⟩) n cap, okv]) ∧ w.heap.size ≤ g ∧ n ≤ cap ∧ Row w' g 27 (tvals (convL zs n) ++ rest)) ∨ (inF zs = false ∧ ∃ v, e = .returned (.tuple #[v, failv])))
theorem own_full {w : World} {base n : Nat} {T : TypeId} {v : Value} {xs : List Value} (h : w.ownsRow base T 2 v n xs) (hn : 1 ≤ n) :
    ∃ g cap rest, v = .slice (some ⟨g, 0, none⟩) n cap ∧ base ≤ g ∧ n ≤ cap ∧ Row w g T (xs ++ rest) := by
  rcases h.2 with ⟨_, h0⟩ | ⟨g, cap, cur, hv, h2, h3, h4, h5, h6, h7⟩
  · omega
  · refine ⟨g, cap, cur.toList.drop (n * 2), hv, h2, h4, ?_⟩
    unfold Row
    rw [h3, ← h7, List.take_append_drop]
set_option maxRecDepth 100000 in
set_option maxHeartbeats 4000000 in
theorem convs_any (b n cap : Nat) (zs : List Int) (w : World) (hbl : b < w.heap.size) (hcl : ∀ j, j < zs.length → w.cell? ⟨b, j, none⟩ = some (.int .i64 (zs[j]?.getD 0))) (hn : n = zs.length) (h1 : 1 ≤ n) (h60 : n ≤ 1000000000) (hz : zTo zs n) :
    Calls Try.prog 14 #[.slice (some ⟨b, 0, none⟩) n cap] w (CvR w zs n (.bool true) (.bool false)) := by
  obtain ⟨i0, hi, iz0, iz1, iz2⟩ := info_parts Try.infoRatio
  have hC := hid hcl
  have hN := hid hn
  have HZ := hid hz
  clear hcl hn hz
  have r0 : Row ((w.alloc (.cells #[.int .i64 0, .int .i64 1] 27)).alloc (.cells #[.int .i64 1, .int .i64 0] 27)) w.heap.size 27 [.int .i64 0, .int .i64 1] := (Row.new w _ _).alloc _
  have r1 : Row ((w.alloc (.cells #[.int .i64 0, .int .i64 1] 27)).alloc (.cells #[.int .i64 1, .int .i64 0] 27)) (w.heap.size + 1) 27 [.int .i64 1, .int .i64 0] := by
    have h := Row.new (w.alloc (.cells #[.int .i64 0, .int .i64 1] 27)) 27 [.int .i64 1, .int .i64 0]
    simp only [World.size_alloc] at h
    exact h
  have b0 : Below w.heap.size w ((w.alloc (.cells #[.int .i64 0, .int .i64 1] 27)).alloc (.cells #[.int .i64 1, .int .i64 0] 27)) := (box2_bel w _ _ _).alloc (by simp) _
  have R0 := hid r0
  have R1 := hid r1
  have B0 := hid b0
  clear r0 r1 b0
  go_enter Try.func14, Try.ntmps14
  go_wp2_with fail
  go_loopw [4, 13] (fun v i wr => ∃ (k : Nat) (xs : List Value), k ≤ n ∧ i = .int .i64 k ∧ Row wr w.heap.size 27 [.int .i64 (fP zs k).1, .int .i64 (fQ zs k).1] ∧ Row wr (w.heap.size + 1) 27 [.int .i64 (fP zs k).2, .int .i64 (fQ zs k).2] ∧ wr.ownsRow (w.heap.size + 2) 27 2 v k xs ∧ xs = tvals (convL zs k) ∧ inTo zs k ∧ Below w.heap.size w wr) (fun _ i _ => n - (intOf i).toNat)
  case atStart => exact ⟨0, [], Nat.zero_le _, rfl, R0.out, R1.out, World.ownsRow_nil _ _ _ _, (by simp [convL, tvals, numrs]), fun j h => by omega, B0.out⟩
  case round =>
    obtain ⟨k, xs, hk, rfl, r0, r1, hown, hends, hin, hB⟩ := hrel
    have hzr := hB.size
    have lt1 := r1.lt
    have Q0 := hid r0
    have Q1 := hid r1
    have HO := hid hown
    have HE := hid hends
    have HI := hid hin
    have HB := hid hB
    clear r0 r1 hown hends hin hB
    by_cases hlt : k < n
    · have hlt' : (k : Int) < (n : Int) := by omega
      have hk0 : (0 : Int) ≤ (k : Int) := by omega
      have hkz : Hid (k < zs.length) := hid (by rw [← hN.out]; exact hlt)
      have cc := (HB.out.cell (p := ⟨b, k, none⟩) hbl).trans (hC.out k hkz.out)
      have FB := f_bd (zs := zs) k (fun j hj => HZ.out j (by omega)) HI.out
      obtain ⟨⟨hu1, hu2, hu3, hu4⟩, hu5, hu6, hu7, hu8⟩ := FB
      obtain ⟨z1, z2⟩ := HZ.out k hlt
      obtain ⟨m1, m2, m3, m4⟩ := mul_add_bd z1 z2 hu3 hu4 hu1 hu2
      obtain ⟨m5, m6, m7, m8⟩ := mul_add_bd z1 z2 hu7 hu8 hu5 hu6
      have HP1 : Hid ((fP zs (k + 1)).1 = (fP zs k).2) := hid rfl
      have HQ1 : Hid ((fQ zs (k + 1)).1 = (fQ zs k).2) := hid rfl
      have HP2 : Hid ((fP zs (k + 1)).2 = zA zs k * (fP zs k).2 + (fP zs k).1) := hid rfl
      have HQ2 : Hid ((fQ zs (k + 1)).2 = zA zs k * (fQ zs k).2 + (fQ zs k).1) := hid rfl
      obtain ⟨z, hz⟩ : ∃ z, zA zs k = z := ⟨_, rfl⟩
      obtain ⟨p0, hp0⟩ : ∃ z, (fP zs k).1 = z := ⟨_, rfl⟩
      obtain ⟨p1, hp1⟩ : ∃ z, (fP zs k).2 = z := ⟨_, rfl⟩
      obtain ⟨q0, hq0⟩ : ∃ z, (fQ zs k).1 = z := ⟨_, rfl⟩
      obtain ⟨q1, hq1⟩ : ∃ z, (fQ zs k).2 = z := ⟨_, rfl⟩
      have ccz : wr.cell? ⟨b, k, none⟩ = some (.int .i64 z) := by rw [← hz]; exact cc
      rw [hz] at z1 z2
      rw [hz, hp1] at m1 m2
      rw [hz, hq1] at m5 m6
      rw [hz, hp1, hp0] at m3 m4
      rw [hz, hq1, hq0] at m7 m8
      rw [hz, hp1, hp0] at HP2
      rw [hz, hq1, hq0] at HQ2
      rw [hp1] at HP1 hu3 hu4
      rw [hq1] at HQ1 hu7 hu8
      rw [hp0] at hu1 hu2
      rw [hq0] at hu5 hu6
      rw [hp0, hq0] at Q0
      rw [hp1, hq1] at Q1
      clear cc hz hp0 hp1 hq0 hq1
      obtain ⟨s, hs⟩ : ∃ s, z * p1 = s := ⟨_, rfl⟩
      obtain ⟨t, ht⟩ : ∃ s, z * q1 = s := ⟨_, rfl⟩
      rw [hs] at m1 m2 m3 m4 HP2
      rw [ht] at m5 m6 m7 m8 HQ2
      obtain ⟨x, hx⟩ : ∃ x, s + p0 = x := ⟨_, rfl⟩
      obtain ⟨y, hy⟩ : ∃ x, t + q0 = x := ⟨_, rfl⟩
      rw [hx] at m3 m4 HP2
      rw [hy] at m7 m8 HQ2
      have t1 : IntKind.i64.wrap s = s := IntWalk.i64_in _ (by omega)
      have t2 : IntKind.i64.wrap t = t := IntWalk.i64_in _ (by omega)
      have t3 : IntKind.i64.wrap x = x := IntWalk.i64_in _ (by omega)
      have t4 : IntKind.i64.wrap y = y := IntWalk.i64_in _ (by omega)
      have c0 := Q0.out.cell 0
      have c1 := Q0.out.cell 1
      have c2 := Q1.out.cell 0
      have c3 := Q1.out.cell 1
      have f0 := Q0.out.frozen 0
      have f1 := Q0.out.frozen 1
      have f2 := Q1.out.frozen 0
      have f3 := Q1.out.frozen 1
      simp only [List.getElem?_cons_zero, List.getElem?_cons_succ] at c0 c1 c2 c3
      go_wp2_with fail
      go_region
      obtain ⟨V, hV⟩ : ∃ V, V = ((((wr.setCell ⟨w.heap.size, 0, none⟩ (.int .i64 p1)).setCell ⟨w.heap.size, 1, none⟩ (.int .i64 q1)).setCell ⟨w.heap.size + 1, 0, none⟩ (.int .i64 x)).setCell ⟨w.heap.size + 1, 1, none⟩ (.int .i64 y)).drew := ⟨_, rfl⟩
      have nA : some w.heap.size ≠ u4.ownBlock := fun e => by have := (HO.out.lt _ e.symm).1; omega
      have nB : some (w.heap.size + 1) ≠ u4.ownBlock := fun e => by have := (HO.out.lt _ e.symm).1; omega
      have rA : Row V w.heap.size 27 [.int .i64 p1, .int .i64 q1] := by
        rw [hV]
        exact Row.drewN ((((Q0.out.set 0 _).set 1 _).other (a := ⟨w.heap.size + 1, 0, none⟩) (by show w.heap.size + 1 ≠ w.heap.size; omega) _).other (a := ⟨w.heap.size + 1, 1, none⟩) (by show w.heap.size + 1 ≠ w.heap.size; omega) _) 1
      have rB : Row V (w.heap.size + 1) 27 [.int .i64 x, .int .i64 y] := by
        rw [hV]
        exact Row.drewN ((((Q1.out.other (a := ⟨w.heap.size, 0, none⟩) (by show w.heap.size ≠ w.heap.size + 1; omega) _).other (a := ⟨w.heap.size, 1, none⟩) (by show w.heap.size ≠ w.heap.size + 1; omega) _).set 0 _).set 1 _) 1
      have oV : V.ownsRow (w.heap.size + 2) 27 2 u4 k xs := by
        rw [hV]
        exact owns_below (owns_other (owns_other (owns_other (owns_other HO.out (a := ⟨w.heap.size, 0, none⟩) nA _) (a := ⟨w.heap.size, 1, none⟩) nA _) (a := ⟨w.heap.size + 1, 0, none⟩) nB _) (a := ⟨w.heap.size + 1, 1, none⟩) nB _) ((Below.refl _ _).drew)
      have bV : Below w.heap.size w V := by
        rw [hV]
        exact ((((HB.out.setCell (p := ⟨w.heap.size, 0, none⟩) (Nat.le_refl _) _).setCell (p := ⟨w.heap.size, 1, none⟩) (Nat.le_refl _) _).setCell (p := ⟨w.heap.size + 1, 0, none⟩) (by show w.heap.size ≤ w.heap.size + 1; omega) _).setCell (p := ⟨w.heap.size + 1, 1, none⟩) (by show w.heap.size ≤ w.heap.size + 1; omega) _).drew
      have sV : V.heap.size = wr.heap.size := by rw [hV]; simp
      rw [← hV]
      have RA := hid rA
      have RB := hid rB
      have OV := hid oV
      have BV := hid bV
      have hvs : w.heap.size + 1 < V.heap.size := by rw [sV]; exact lt1
      clear hV rA rB oV bV sV c0 c1 c2 c3 f0 f1 f2 f3 nA nB Q0 Q1 HO HB
      have d2 := RB.out.cell 0
      have d3 := RB.out.cell 1
      simp only [List.getElem?_cons_zero, List.getElem?_cons_succ] at d2 d3
      obtain ⟨m, hm⟩ : ∃ m, max x y = m := ⟨_, rfl⟩
      have MX : ∀ w, Sem.run Try.prog (Builtin.max_ #[2, 2] 2 #[.int .i64 x, .int .i64 y]) w = .ok (.int .i64 m) w := fun w => by
        have : (if y > x then y else x) = max x y := by split <;> omega
        rw [← hm, ← this]; rfl
      by_cases hle : m ≤ 1000000000
      · have HI2 := hid (inTo_succ HI.out (by rw [HP2.out]; omega) (by rw [HQ2.out]; omega))
        have OV1 := hid (OV.out.alloc (.cells #[.int .i64 x, .int .i64 y] 27))
        have news := Row.new V 27 [.int .i64 x, .int .i64 y]
        have n0 := news.cell 0
        have n1 := news.cell 1
        simp only [List.getElem?_cons_zero, List.getElem?_cons_succ] at n0 n1
        have RA1 := hid (RA.out.alloc (.cells #[.int .i64 x, .int .i64 y] 27))
        have RB1 := hid (RB.out.alloc (.cells #[.int .i64 x, .int .i64 y] 27))
        have BV1 := hid (BV.out.alloc BV.out.size (.cells #[.int .i64 x, .int .i64 y] 27))
        clear news hm
        go_upto_region 10 with (at_builtin; refine wpList_append_own _ rfl _ _ 24 rfl (w.heap.size + 2) 27 i0 (.agg #[.int .i64 0, .int .i64 0]) 2 16 Try.underlying24 hi iz0 iz1 iz2 rfl (by decide) _ _ _ rfl OV1.out ⟨V.heap.size, 0, none⟩ 1 1 [.int .i64 x, .int .i64 y] rfl rfl (by intro j u hj; match j, hj with | 0, hj => simp at hj; subst hj; simp [Addr.add, n0] | 1, hj => simp at hj; subst hj; simp [Addr.add, n1]) (by intro u hu; simp at hu; rcases hu with rfl | rfl <;> rfl) (by unfold maxLen; omega) (by omega) (by simp; omega) ?_; intro v' w2 hown' hgrow _)
        have hg2 : (V.alloc (.cells #[.int .i64 x, .int .i64 y] 27)).grownBy w2 u4.ownBlock := hgrow
        have ne : ∀ g, g < w.heap.size + 2 → some g ≠ u4.ownBlock := fun g hg e => by have := (OV1.out.lt _ e.symm).1; omega
        have RA2 := hid (RA1.out.grown hg2 (ne _ (by omega)))
        have RB2 := hid (RB1.out.grown hg2 (ne _ (by omega)))
        have BV2 := hid (BV1.out.grown hg2 (by simp; omega) (fun k e => by have := (OV1.out.lt k e).1; omega))
        have OV2 := hid hown'
        have E2 : Hid (xs ++ [.int .i64 x, .int .i64 y] = tvals (convL zs (k + 1))) := hid (by rw [tvals_conv, HP2.out, HQ2.out, HE.out])
        clear hown' hgrow hg2 ne n0 n1 d2 d3 OV1 RA1 RB1 BV1
        go_wp2_with fail
        go_roundw
        case rel => exact ⟨k + 1, _, by omega, by go_num, by rw [HP1.out, HQ1.out]; exact RA2.out, by rw [HP2.out, HQ2.out]; exact RB2.out, OV2.out, E2.out, HI2.out, BV2.out⟩
        case measure => simp [intOf]; omega
      · have hgt : 1000000000 < m := by omega
        have HF := hid (inF_no (zs := zs) k hkz.out (by rw [HP2.out, HQ2.out]; omega))
        clear hle hm
        go_wp2_with fail
        go_ret2
        exact ⟨BV.out, .inr ⟨HF.out, _, rfl⟩⟩
    · obtain rfl : k = n := by omega
      have HF := hid (inF_yes (zs := zs) (by rw [← hN.out]; exact HI.out))
      have ho2 := HO.out
      rw [HE.out] at ho2
      obtain ⟨g, cap', rest, hv, e1, e2, e3⟩ := own_full ho2 h1
      clear ho2
      subst hv
      have HE2 := hid (And.intro e1 (And.intro e2 e3))
      clear e1 e2 e3
      go_wp2_with fail
      go_ret2
      exact ⟨HB.out, .inl ⟨HF.out, g, cap', rest, rfl, Nat.le_trans (by omega) HE2.out.1, HE2.out.2.1, HE2.out.2.2⟩⟩
end Go.Proofs.Ytgkinoibidkicaa
