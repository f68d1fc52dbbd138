/- The law on tight flows and stuck wheels. -/
import Derived.Test.YtofpgkbcodopiaaTgP
import Derived.Test.YtofpgkbcodopiaaPoL
import Derived.Test.YtofpgkbcodopiaaSkS
import Derived.Test.YtofpgkbcodopiaaSkI
import Derived.Test.YtofpgkbcodopiaaOfS
namespace Go.Proofs.Ytofpgkbcodopiaa
open Go.RowKit
set_option linter.unusedVariables false
set_option linter.unusedSimpArgs false
theorem own_later {w w' : World} {base : Nat} {v : Value} {zs : List Int} (h : OwnI w base v zs) (hb : Below w.heap.size w w') : OwnI w' base v zs := by
  obtain ⟨a, cap, h1, h2, h3⟩ := h
  rcases h3 with h3 | ⟨g, rest, h3, h4, h5⟩
  · exact ⟨a, cap, h1, h2, .inl h3⟩
  · exact ⟨a, cap, h1, h2, .inr ⟨g, rest, h3, h4, h5.below hb h5.lt⟩⟩
set_option maxRecDepth 100000 in
set_option maxHeartbeats 8000000 in
theorem law_FnTight_in (a : Option Addr) (len cap : Nat) (zs : List Int) (a' : Option Addr) (len' cap' : Nat) (zs' : List Int) (w : World) (h : InB w a len zs) (h' : InB w a' len' zs') (hl : len ≤ 3000) (hl' : len' ≤ 3000) :
    Calls Try.prog 3 #[.slice a len cap, .slice a' len' cap'] w fun e w' => e = .returned (.bool true) ∧ Below w.heap.size w w' := by
  have H2 := hid h'
  have F1 := hid (a2Long_no a len cap a' len' cap' w hl hl')
  have LG := hid (a2Log_any a len cap zs w h (by omega))
  have AT1 := hid (fun (n : Int) (W : World) (hI : InB W a' len' zs') (hn : 1 ≤ n ∧ n ≤ 1000000) => show Calls Try.prog 11 #[.slice a' len' cap', .int .i64 0, .int .i64 n] W (NumIn 0 n W) from a2At_any a' len' cap' zs' 0 n W hI hl' (by omega) hn)
  clear h h' hl hl'
  go_enter Try.func3, Try.ntmps3
  go_wp2_with fail
  with_reducible refine F1.out.mono ?_
  rintro e w1 ⟨rfl, hw⟩
  subst hw
  go_wp2_with fail
  with_reducible refine LG.out.mono ?_
  rintro e w1 ⟨Z, js, d, v, B, L, p, q, rfl, hZ, hn, hLP, hst, ow, hpq, hB, hnn⟩
  have hok : okL Z = true := by rcases hZ with rfl | rfl | rfl <;> decide
  have hz : 2 ≤ szL Z ∧ szL Z ≤ 1000 := by rcases hZ with rfl | rfl | rfl <;> decide
  have hzl : 2 ≤ Z.length ∧ Z.length ≤ 3 := by rcases hZ with rfl | rfl | rfl <;> decide
  obtain ⟨g, cp, rfl, hcp, hR⟩ := own_rstN ow hnn (by omega)
  have hg := okG_drawn hok hn hLP
  obtain ⟨Lo, F, hti, hb, hno, hhi, hlo⟩ := ti_drawn hg hz.2
  obtain ⟨nz, hnz⟩ : ∃ n, Z.length = n := ⟨_, rfl⟩
  obtain ⟨n, hnj⟩ : ∃ n, js.length = n := ⟨_, rfl⟩
  have TI1 := hid (fun W (s : Stk W B Z) (r : Rst W g js) => show Calls Try.prog 6 #[.slice (some ⟨B, 0, none⟩) nz nz, .slice (some ⟨g, 0, none⟩) n cp, .int .i64 1000] W (GivesB W (.tuple #[.agg #[.int .i64 Lo, .int .i64 F], .int .i64 0])) from by
    have := implTi_any B nz nz Z hnz.symm g n cp js hnj.symm 1000 W s r
    rw [hti] at this; exact this)
  have TS1 := hid (fun W (s : Stk W B Z) (r : Rst W g js) => show Calls Try.prog 7 #[.slice (some ⟨B, 0, none⟩) nz nz, .slice (some ⟨g, 0, none⟩) n cp, .int .i64 1000] W (GivesB W (.tuple #[.agg #[.int .i64 Lo, .int .i64 F], .int .i64 0])) from by
    have := specTi_any B nz nz Z hnz.symm g n cp js hnj.symm 1000 W s r (Nat.le_refl _)
    rw [hti] at this; exact this)
  have SU0 := hid (fun W s r => sus_none B nz nz Z hnz.symm g n cp js hnj.symm Lo F hg (okF_yes hb.1 hb.2.1 (by omega)) hno W s r)
  have SU1 := hid (fun (h : 0 < F) W s r => sus_some B nz nz Z hnz.symm g n cp js hnj.symm 0 (F - 1) hg (okF_yes (by omega) (by omega) (by omega)) (hhi h).1 W s r)
  have TI2 := hid (fun (h : 0 < F) W (s : Stk W B Z) (r : Rst W g js) => show Calls Try.prog 6 #[.slice (some ⟨B, 0, none⟩) nz nz, .slice (some ⟨g, 0, none⟩) n cp, .int .i64 (F - 1)] W (GivesB W (.tuple #[.agg #[.int .i64 0, .int .i64 0], .int .i64 6])) from by
    have := implTi_any B nz nz Z hnz.symm g n cp js hnj.symm (F - 1) W s r
    rw [(hhi h).2] at this; exact this)
  have SU2 := hid (fun (h : Lo < F) W s r => sus_some B nz nz Z hnz.symm g n cp js hnj.symm (Lo + 1) F hg (okF_yes (by omega) (by omega) (by omega)) (hlo h) W s r)
  have GB := hid (fun W s r => down_any B nz nz Z hnz.symm g n cp js hnj.symm hg W s r)
  have ES := hid (endsP_in (m := js.length - 1) (backP js) (by omega))
  rw [hnz, hnj]
  have rF := Row.new w1 27 [.int .i64 p, .int .i64 q]
  have a2 : Below w1.heap.size w1 (w1.alloc (.cells #[.int .i64 p, .int .i64 q] 27)) := (Below.refl _ _).alloc (Nat.le_refl _) _
  have b2 := hB.trans (a2.mono hB.size)
  obtain ⟨V2, hV2⟩ : ∃ X, X = w1.alloc (.cells #[.int .i64 p, .int .i64 q] 27) := ⟨_, rfl⟩
  rw [← hV2] at a2 b2
  have HST := hid (hst.below a2 hst.1); have HRS := hid (hR.below a2 hR.1)
  have HLT := hid (show B < V2.heap.size ∧ g < V2.heap.size from ⟨Nat.lt_of_lt_of_le hst.1 a2.size, Nat.lt_of_lt_of_le hR.1 a2.size⟩)
  have HV2 := hid hV2; have B2 := hid b2; have HOK := hid hok; have HG := hid hg; have HZZ := hid hz; have HZL := hid hzl; have HNZ := hid hnz; have HNJ := hid hnj; have HN := hid hn; have HBB := hid hb; have HCP := hid (show n ≤ cp by rw [← hnj]; exact hcp)
  clear hZ hn hLP hst ow hpq hB hok hz hzl rF a2 b2 hV2 LG F1 hnz hnj hnn hR hg hti hb hno hhi hlo hcp
  have n8 : n ≤ 8 := by have := HN.out; rw [HNJ.out] at this; exact this
  go_upto_region 4 with fail
  rw [← HV2.out]
  go_wp2_with fail
  with_reducible refine (TI1.out V2 HST.out HRS.out).mono ?_
  rintro e w3 ⟨rfl, hB⟩
  have rr := Row.new w3 27 [.int .i64 Lo, .int .i64 F]
  have aa : Below w3.heap.size w3 (w3.alloc (.cells #[.int .i64 Lo, .int .i64 F] 27)) := (Below.refl _ _).alloc (Nat.le_refl _) _
  obtain ⟨G8, hG8⟩ : ∃ y, w3.heap.size = y := ⟨_, rfl⟩
  obtain ⟨V4, hV4⟩ : ∃ X, X = w3.alloc (.cells #[.int .i64 Lo, .int .i64 F] 27) := ⟨_, rfl⟩
  rw [← hV4] at rr aa
  rw [hG8] at rr
  have q4 := hB.trans (aa.mono hB.size)
  have R8 := hid rr; have HV4 := hid hV4; have HG8 := hid hG8; have Q4 := hid q4
  clear hB rr aa hV4 hG8 q4
  go_upto_region 5 with fail
  rw [← HV4.out, HG8.out]
  go_wp2_with fail
  with_reducible refine (TS1.out V4 (HST.out.below Q4.out HLT.out.1) (HRS.out.below Q4.out HLT.out.2)).mono ?_
  rintro e w5 ⟨rfl, hB⟩
  have rr := Row.new w5 27 [.int .i64 Lo, .int .i64 F]
  have aa : Below w5.heap.size w5 (w5.alloc (.cells #[.int .i64 Lo, .int .i64 F] 27)) := (Below.refl _ _).alloc (Nat.le_refl _) _
  obtain ⟨G10, hG10⟩ : ∃ y, w5.heap.size = y := ⟨_, rfl⟩
  obtain ⟨V6, hV6⟩ : ∃ X, X = w5.alloc (.cells #[.int .i64 Lo, .int .i64 F] 27) := ⟨_, rfl⟩
  rw [← hV6] at rr aa
  rw [hG10] at rr
  have q46 := hB.trans (aa.mono hB.size)
  have r8 := R8.out.below q46 R8.out.lt
  have R8 := hid r8; have R10 := hid rr; have HV6 := hid hV6; have HG10 := hid hG10; have Q6 := hid (Q4.out.trans (q46.mono Q4.out.size))
  clear hB rr aa hV6 hG10 q46 r8
  go_upto_region 6 with fail
  rw [← HV6.out, HG10.out]
  have x80 := R8.out.cell 0; have x81 := R8.out.cell 1; have x0 := R10.out.cell 0; have x1 := R10.out.cell 1
  simp only [List.getElem?_cons_zero, List.getElem?_cons_succ] at x80 x81 x0 x1
  have eX : (Lo != Lo) = false := by simp
  have eY : (F != F) = false := by simp
  have l0 : ¬ Lo < 0 := by have := HBB.out; omega
  have l1 : ¬ F < Lo := by have := HBB.out; omega
  go_wp2_with fail
  all_goals (try (go_quiet (fail); go_wp2_with fail))
  with_reducible refine (SU0.out V6 (HST.out.below Q6.out HLT.out.1) (HRS.out.below Q6.out HLT.out.2)).mono ?_
  rintro e w8 ⟨⟨a0, c0, rfl⟩, hB⟩
  have R10 := hid (R10.out.below hB R10.out.lt)
  have Q8 := hid (Q6.out.trans (hB.mono Q6.out.size))
  clear hB x80 x81 x0 x1
  have x0 := R10.out.cell 0; have x1 := R10.out.cell 1
  simp only [List.getElem?_cons_zero, List.getElem?_cons_succ] at x0 x1
  by_cases hF : 0 < F
  · have wF : IntKind.i64.wrap (F - 1) = F - 1 := IntWalk.i64_in _ (by have := HBB.out; omega)
    have SU1 := hid (SU1.out hF); have TI2 := hid (TI2.out hF)
    go_wp2_with fail
    with_reducible refine (SU1.out w8 (HST.out.below Q8.out HLT.out.1) (HRS.out.below Q8.out HLT.out.2)).mono ?_
    rintro e w9 ⟨⟨a1, m1, c1, rfl, hm1⟩, hB⟩
    have R10 := hid (R10.out.below hB R10.out.lt)
    have Q9 := hid (Q8.out.trans (hB.mono Q8.out.size))
    clear hB x0 x1
    have x0 := R10.out.cell 0; have x1 := R10.out.cell 1
    simp only [List.getElem?_cons_zero, List.getElem?_cons_succ] at x0 x1
    go_wp2_with fail
    with_reducible refine (TI2.out w9 (HST.out.below Q9.out HLT.out.1) (HRS.out.below Q9.out HLT.out.2)).mono ?_
    rintro e wA ⟨rfl, hB⟩
    have rr := Row.new wA 27 [.int .i64 0, .int .i64 0]
    have aa : Below wA.heap.size wA (wA.alloc (.cells #[.int .i64 0, .int .i64 0] 27)) := (Below.refl _ _).alloc (Nat.le_refl _) _
    obtain ⟨G16, hG16⟩ : ∃ y, wA.heap.size = y := ⟨_, rfl⟩
    obtain ⟨VB, hVB⟩ : ∃ X, X = wA.alloc (.cells #[.int .i64 0, .int .i64 0] 27) := ⟨_, rfl⟩
    rw [← hVB] at rr aa
    rw [hG16] at rr
    have q := hB.trans (aa.mono hB.size)
    have R10 := hid (R10.out.below q R10.out.lt)
    have QB := hid (Q9.out.trans (q.mono Q9.out.size)); have HVB := hid hVB; have HG16 := hid hG16
    clear hB rr aa q hVB hG16 x0 x1
    go_upto_region 14 with fail
    rw [← HVB.out, HG16.out]
    have x0 := R10.out.cell 0; have x1 := R10.out.cell 1
    simp only [List.getElem?_cons_zero, List.getElem?_cons_succ] at x0 x1
    have hm2 : ¬ (m1 + 1 = 0) := by omega
    have hm3 : (((m1 : Int) + 1) == 0) = false := by simp; omega
    by_cases hL : Lo < F
    · have SU2 := hid (SU2.out hL)
      have wL : IntKind.i64.wrap (Lo + 1) = Lo + 1 := IntWalk.i64_in _ (by have := HBB.out; omega)
      go_wp2_with fail
      with_reducible refine (SU2.out VB (HST.out.below QB.out HLT.out.1) (HRS.out.below QB.out HLT.out.2)).mono ?_
      rintro e wC ⟨⟨a2, m2, c2, rfl, hm2'⟩, hB⟩
      have QC := hid (QB.out.trans (hB.mono QB.out.size))
      have hk2 : ¬ (m2 + 1 = 0) := by omega
      have hk3 : (((m2 : Int) + 1) == 0) = false := by simp; omega
      clear hB x0 x1
      go_wp2_with fail
      with_reducible refine (GB.out wC (HST.out.below QC.out HLT.out.1) (HRS.out.below QC.out HLT.out.2)).mono ?_
      rintro e wD ⟨v, rfl, hO, hB⟩
      have QD := hid (QC.out.trans (hB.mono QC.out.size))
      have HO := hid hO
      clear hB hO GB SU0 SU1 SU2 TI1 TI2 TS1
      go_upto_region 24 with fail
      go_loopw [22] (fun s22 wr => ∃ k : Nat, (k + 1 ≤ n ∨ k = 0) ∧ s22 = .int .i64 ((k + 1 : Nat) : Int) ∧ Below wD.heap.size wD wr) (fun i _ => n - (intOf i).toNat)
      case atStart => exact ⟨0, .inr rfl, rfl, Below.refl _ _⟩
      case round =>
        obtain ⟨k, hk1, rfl, q⟩ := hrel
        by_cases hlt : k + 1 < n
        · obtain ⟨c, hc⟩ : ∃ c, k + 1 = c := ⟨_, rfl⟩
          obtain ⟨x, hx⟩ : ∃ y, rv js (k + 1) = y := ⟨_, rfl⟩
          obtain ⟨y, hy⟩ : ∃ y, rv js k = y := ⟨_, rfl⟩
          have ca := (HRS.out.2.1 k (by rw [HNJ.out]; omega)).2
          have cb := (HRS.out.2.1 (k + 1) (by rw [HNJ.out]; exact hlt)).2
          obtain ⟨bb, hbb, hb2⟩ : ∃ bb, decide (x < y) = bb ∧ (bb != bb) = false := ⟨_, rfl, by simp⟩
          have hkey : hasL (endsP (backP js) (List.finRange (js.length - 1))) (c : Int) = bb := by
            have := endsP_has (m := js.length - 1) (backP js) k (by rw [HNJ.out]; omega)
            rw [← hc, show ((k + 1 : Nat) : Int) = (k : Int) + 1 by omega, this]
            unfold backP
            rw [hx, hy, hbb]
          rw [hx, hc] at cb
          rw [hy] at ca
          have hlt' : (c : Int) < (n : Int) := by omega
          have hi0 : (0 : Int) ≤ (c : Int) := by omega
          have hk0 : (0 : Int) ≤ (k : Int) := by omega
          have hkn : (k : Int) < (n : Int) := by omega
          have wk : IntKind.i64.wrap ((c : Int) - 1) = (k : Int) := by rw [IntWalk.i64_in _ (by omega)]; omega
          have wk2 : IntKind.i64.wrap ((c : Int) + 1) = ((k + 1 + 1 : Nat) : Int) := by rw [IntWalk.i64_in _ (by omega)]; omega
          rw [hc]
          clear hk1 hx hy
          go_upto_region 26 with fail
          refine wp_region_held (S := fun W' : World => W'.cell? ⟨g, c * 2 + 1, none⟩ = some (.int .i64 x) ∧ W'.cell? ⟨g, k * 2 + 1, none⟩ = some (.int .i64 y)) (by kernel_rfl) ?_
          change wpAnyH _ _ _ _ _ _ _ _ (World.drew _)
          obtain ⟨X4, hX4⟩ : ∃ X, X = World.drew wr := ⟨_, rfl⟩
          have bD : Below wr.heap.size wr X4 := by rw [hX4]; exact (Below.refl _ _).drew
          have qx := q.trans (bD.mono q.size)
          have qv := QD.out.trans (qx.mono QD.out.size)
          have hS0 : X4.cell? ⟨g, c * 2 + 1, none⟩ = some (.int .i64 x) ∧ X4.cell? ⟨g, k * 2 + 1, none⟩ = some (.int .i64 y) := ⟨(qv.cell (p := ⟨g, c * 2 + 1, none⟩) HLT.out.2).trans cb, (qv.cell (p := ⟨g, k * 2 + 1, none⟩) HLT.out.2).trans ca⟩
          have AH := hid (show Calls Try.prog 10 #[v, .int .i64 (c : Int)] X4 fun e w' => e = .returned (.bool bb) ∧ X4 = w' from by
            have := a2Has_any _ v _ ES.out.1 ES.out.2 (c : Int) X4 (own_later HO.out qx)
            rw [hkey] at this
            exact this)
          have QX2 := hid qx
          rw [← hX4]
          clear hX4 bD qx qv q ca cb hkey
          refine wpAnyH_takeD (some 163) (i := 0) (v := ?_) rfl rfl (by kernel_rfl) (by kernel_rfl) (by kernel_rfl) (fun _ _ _ h => h) (.inl ⟨by kernel_rfl, ?_⟩) hS0 ?_
          rotate_left
          · intro w' hw'; go_simp; try with_reducible rfl
          try simp only [Act.put, List.setIfInBounds_toArray, List.set_cons_zero, List.set_cons_succ]
          refine wpAnyH_takeD (some 164) (i := 1) (v := ?_) rfl rfl (by kernel_rfl) (by kernel_rfl) (by kernel_rfl) (fun _ _ _ h => h) (.inl ⟨by kernel_rfl, ?_⟩) hS0 ?_
          rotate_left
          · intro w' hw'; go_simp; try with_reducible rfl
          try simp only [Act.put, List.setIfInBounds_toArray, List.set_cons_zero, List.set_cons_succ]
          refine wpAnyH_takeD (some 166) (i := 3) (v := ?_) rfl rfl (by kernel_rfl) (by kernel_rfl) (by kernel_rfl) (fun _ _ _ h => h) (.inl ⟨by kernel_rfl, ?_⟩) hS0 ?_
          rotate_left
          · intro w' hw'; go_simp; try with_reducible rfl
          try simp only [Act.put, List.setIfInBounds_toArray, List.set_cons_zero, List.set_cons_succ]
          refine wpAnyH_takeD (some 167) (i := 4) (v := ?_) rfl rfl (by kernel_rfl) (by kernel_rfl) (by kernel_rfl) (fun _ _ _ h => h) (.inl ⟨by kernel_rfl, ?_⟩) hS0 ?_
          rotate_left
          · intro w' hw'; go_simp; try with_reducible rfl
          try simp only [Act.put, List.setIfInBounds_toArray, List.set_cons_zero, List.set_cons_succ]
          refine wpAnyH_takeD (some 168) (i := 5) (v := ?_) rfl rfl (by kernel_rfl) (by kernel_rfl) (by kernel_rfl) (fun _ _ _ h => h) (.inl ⟨by kernel_rfl, ?_⟩) hS0 ?_
          rotate_left
          · intro w' hw'; obtain ⟨g1, g2⟩ := hw'; go_simp; try with_reducible rfl
          try simp only [Act.put, List.setIfInBounds_toArray, List.set_cons_zero, List.set_cons_succ]
          refine wpAnyH_takeD (some 169) (i := 6) (v := ?_) rfl rfl (by kernel_rfl) (by kernel_rfl) (by kernel_rfl) (fun _ _ _ h => h) (.inl ⟨by kernel_rfl, ?_⟩) hS0 ?_
          rotate_left
          · intro w' hw'; obtain ⟨g1, g2⟩ := hw'; go_simp; try with_reducible rfl
          try simp only [Act.put, List.setIfInBounds_toArray, List.set_cons_zero, List.set_cons_succ]
          refine wpAnyH_takeD (some 170) (i := 7) (v := ?_) rfl rfl (by kernel_rfl) (by kernel_rfl) (by kernel_rfl) (fun _ _ _ h => h) (.inl ⟨by kernel_rfl, ?_⟩) hS0 ?_
          rotate_left
          · intro w' hw'; obtain ⟨g1, g2⟩ := hw'; go_simp; try with_reducible rfl
          try simp only [Act.put, List.setIfInBounds_toArray, List.set_cons_zero, List.set_cons_succ]
          refine wpAnyH_takeD (some 171) (i := 8) (v := ?_) rfl rfl (by kernel_rfl) (by kernel_rfl) (by kernel_rfl) (fun _ _ _ h => h) (.inl ⟨by kernel_rfl, ?_⟩) hS0 ?_
          rotate_left
          · intro w' hw'; go_simp; try with_reducible rfl
          try simp only [Act.put, List.setIfInBounds_toArray, List.set_cons_zero, List.set_cons_succ]
          refine wpAnyH_takeD (some 172) (i := 9) (v := ?_) rfl rfl (by kernel_rfl) (by kernel_rfl) (by kernel_rfl) (fun _ _ _ h => h) (.inl ⟨by kernel_rfl, ?_⟩) hS0 ?_
          rotate_left
          · intro w' hw'; go_simp; try with_reducible rfl
          try simp only [Act.put, List.setIfInBounds_toArray, List.set_cons_zero, List.set_cons_succ]
          refine wpAnyH_takeD (some 173) (i := 10) (v := ?_) rfl rfl (by kernel_rfl) (by kernel_rfl) (by kernel_rfl) (fun _ _ _ h => h) (.inl ⟨by kernel_rfl, ?_⟩) hS0 ?_
          rotate_left
          · intro w' hw'; go_simp; try with_reducible rfl
          try simp only [Act.put, List.setIfInBounds_toArray, List.set_cons_zero, List.set_cons_succ]
          refine wpAnyH_takeD (some 174) (i := 11) (v := ?_) rfl rfl (by kernel_rfl) (by kernel_rfl) (by kernel_rfl) (fun _ _ _ h => h) (.inl ⟨by kernel_rfl, ?_⟩) hS0 ?_
          rotate_left
          · intro w' hw'; obtain ⟨g1, g2⟩ := hw'; go_simp; try with_reducible rfl
          try simp only [Act.put, List.setIfInBounds_toArray, List.set_cons_zero, List.set_cons_succ]
          refine wpAnyH_takeD (some 175) (i := 12) (v := ?_) rfl rfl (by kernel_rfl) (by kernel_rfl) (by kernel_rfl) (fun _ _ _ h => h) (.inl ⟨by kernel_rfl, ?_⟩) hS0 ?_
          rotate_left
          · intro w' hw'; obtain ⟨g1, g2⟩ := hw'; go_simp; try with_reducible rfl
          try simp only [Act.put, List.setIfInBounds_toArray, List.set_cons_zero, List.set_cons_succ]
          refine wpAnyH_takeD (some 176) (i := 13) (v := ?_) rfl rfl (by kernel_rfl) (by kernel_rfl) (by kernel_rfl) (fun _ _ _ h => h) (.inl ⟨by kernel_rfl, ?_⟩) hS0 ?_
          rotate_left
          · intro w' hw'; obtain ⟨g1, g2⟩ := hw'; go_simp; try with_reducible rfl
          try simp only [Act.put, List.setIfInBounds_toArray, List.set_cons_zero, List.set_cons_succ]
          refine wpAnyH_takeD (some 177) (i := 14) (v := ?_) rfl rfl (by kernel_rfl) (by kernel_rfl) (by kernel_rfl) (fun _ _ _ h => h) (.inl ⟨by kernel_rfl, ?_⟩) hS0 ?_
          rotate_left
          · intro w' hw'; go_simp; try with_reducible rfl
          try simp only [Act.put, List.setIfInBounds_toArray, List.set_cons_zero, List.set_cons_succ]
          refine wpAnyH_all (rs := [2]) (by kernel_rfl) (by simp) ?_
          intro i hi; simp only [List.mem_cons, List.not_mem_nil, or_false] at hi
          subst hi
          refine wpOp_step rfl (fun K hK => ?_)
          go_simp
          with_reducible refine AH.out.mono ?_
          rintro e w4 ⟨rfl, hw⟩
          subst hw
          refine hK _ _ ⟨hS0, ?_⟩
          try simp only [Act.put, List.setIfInBounds_toArray, List.set_cons_zero, List.set_cons_succ]
          clear hK K
          refine wpAnyH_takeD (some 178) (i := 15) (v := ?_) rfl rfl (by kernel_rfl) (by kernel_rfl) (by kernel_rfl) (fun _ _ _ h => h) (.inl ⟨by kernel_rfl, ?_⟩) hS0 ?_
          rotate_left
          · intro w' hw'; go_simp; try with_reducible rfl
          try simp only [Act.put, List.setIfInBounds_toArray, List.set_cons_zero, List.set_cons_succ]
          refine wpAnyH_done (by kernel_rfl) ?_ _
          clear hS0
          go_wp2_with fail
          go_roundw
          case rel => exact ⟨k + 1, .inl (by omega), by first | rfl | exact congrArg (Value.int .i64) (by omega) | (simp [← hc]; exact congrArg (Value.int .i64) (by omega)), QX2.out⟩
          case measure => simp [intOf]; omega
        · have hge : ¬ ((k + 1 : Nat) : Int) < (n : Int) := by omega
          have QE := hid (QD.out.trans (q.mono QD.out.size))
          clear q hk1 HO ES
          have BE := hid (B2.out.trans (QE.out.mono B2.out.size))
          have HSI := hid (fun (wl : Nat) W (s : Stk W B Z) (r : Rst W g js) => implStuck_any B nz nz Z HNZ.out.symm g n cp js HNJ.out.symm (wl : Int) W s r (Nat.le_refl _) HCP.out)
          have HSS := hid (fun (wl : Nat) W (s : Stk W B Z) (r : Rst W g js) => specStuck_any B nz nz Z HNZ.out.symm g n cp js HNJ.out.symm (wl : Int) W s r (Nat.le_refl _))
          go_wp2_with fail
          with_reducible refine (AT1.out (nz : Int) wr (H2.out.below BE.out (Nat.le_refl _)) (by have h1 := HZL.out; have h2 := HNZ.out; omega)).mono ?_
          rintro e W2 ⟨t, t0, t1, rfl, hw⟩
          subst hw
          obtain ⟨wl, rfl⟩ : ∃ wl : Nat, t = wl := ⟨t.toNat, by omega⟩
          have hwl : wl < Z.length := by have := HNZ.out; omega
          have HWL := hid hwl
          rcases stuckR_or HG.out hwl with hR | ⟨hR, hs⟩
          · have HSI := hid (HSI.out wl); have HSS := hid (HSS.out wl)
            rw [hR] at HSI HSS
            have HSI := hid (fun W s r => show Calls Try.prog 12 #[.slice (some ⟨B, 0, none⟩) nz nz, .slice (some ⟨g, 0, none⟩) n cp, .int .i64 (wl : Int)] W (GivesB W (.tuple #[.int .i64 0, .int .i64 6])) from HSI.out W s r)
            have HSS := hid (fun W s r => show Calls Try.prog 13 #[.slice (some ⟨B, 0, none⟩) nz nz, .slice (some ⟨g, 0, none⟩) n cp, .int .i64 (wl : Int)] W (GivesB W (.tuple #[.int .i64 0, .int .i64 6])) from HSS.out W s r)
            clear hR t0 t1 hwl hge hlt
            go_wp2_with fail
            with_reducible refine (HSI.out wr (HST.out.below QE.out HLT.out.1) (HRS.out.below QE.out HLT.out.2)).mono ?_
            rintro e wF ⟨rfl, hB⟩
            have QF := hid (QE.out.trans (hB.mono QE.out.size))
            clear hB
            go_wp2_with fail
            with_reducible refine (HSS.out wF (HST.out.below QF.out HLT.out.1) (HRS.out.below QF.out HLT.out.2)).mono ?_
            rintro e wG ⟨rfl, hB⟩
            have QG := hid (QF.out.trans (hB.mono QF.out.size))
            clear hB
            go_wp2_with fail
            go_ret
            exact ⟨rfl, B2.out.trans (QG.out.mono B2.out.size)⟩
          · obtain ⟨s, hss⟩ : ∃ s, sinceN Z js wl = s := ⟨_, rfl⟩
            have HSI := hid (HSI.out wl); have HSS := hid (HSS.out wl)
            have ALL := hid (fun i (h1 : sinceN Z js wl ≤ i) (h2 : i < js.length) => since_all h1 h2)
            rw [hR] at HSI HSS
            rw [hss] at HSI HSS hs ALL
            rw [HNJ.out] at hs ALL
            have HSI := hid (fun W s' r => show Calls Try.prog 12 #[.slice (some ⟨B, 0, none⟩) nz nz, .slice (some ⟨g, 0, none⟩) n cp, .int .i64 (wl : Int)] W (GivesB W (.tuple #[.int .i64 (s : Int), .int .i64 0])) from HSI.out W s' r)
            have HSS := hid (fun W s' r => show Calls Try.prog 13 #[.slice (some ⟨B, 0, none⟩) nz nz, .slice (some ⟨g, 0, none⟩) n cp, .int .i64 (wl : Int)] W (GivesB W (.tuple #[.int .i64 (s : Int), .int .i64 0])) from HSS.out W s' r)
            clear hR t0 t1 hwl hge hlt hss
            obtain ⟨m, hm⟩ : ∃ m, n = m + 1 := ⟨n - 1, by omega⟩
            have ess : ((s : Int) != (s : Int)) = false := by simp
            have wm : IntKind.i64.wrap ((n : Int) - 1) = (m : Int) := by rw [IntWalk.i64_in _ (by omega)]; omega
            have hm0 : (0 : Int) ≤ (m : Int) := by omega
            have hmn : (m : Int) < (n : Int) := by omega
            have hs0 : (0 : Int) ≤ (s : Int) := by omega
            have hsm : (s : Int) < (m : Int) := by omega
            have w80 : (0 : Int) ≤ (wl : Int) := by omega
            have w88 : (wl : Int) < 8 := by have h1 := HWL.out; have h2 := HZL.out; omega
            have HDG := hid (fun i (hi : i < n) W (h : Stk W B Z) => show Calls Try.prog 14 #[.slice (some ⟨B, 0, none⟩) nz nz, .int .i64 (rv js i)] W (GivesB W (.tuple #[.agg #[.int .u8 (dg (dgL Z (rv js i)) 0), .int .u8 (dg (dgL Z (rv js i)) 1), .int .u8 (dg (dgL Z (rv js i)) 2), .int .u8 (dg (dgL Z (rv js i)) 3), .int .u8 (dg (dgL Z (rv js i)) 4), .int .u8 (dg (dgL Z (rv js i)) 5), .int .u8 (dg (dgL Z (rv js i)) 6), .int .u8 (dg (dgL Z (rv js i)) 7)], .int .i64 0])) from by
              have h1 := okRd_out ((okG_out HG.out).2.2.1 i (by rw [HNJ.out]; exact hi))
              have := specDigitsOf_any B nz nz Z (rv js i) W h HNZ.out.symm (Nat.le_refl _)
              rw [dofR_yes (rv js i) HOK.out (by omega)] at this
              exact this)
            obtain ⟨DM, hDM⟩ : ∃ d, dgJ Z js wl (n - 1) = d := ⟨_, rfl⟩
            rw [hDM] at ALL
            have HDM := hid hDM
            have eDM : (DM != DM) = false := by simp
            have DGE := hid (fun i (h1 : s ≤ i) (h2 : i < n) => show dg (dgL Z (rv js i)) wl = DM from by
              rw [dg_is HWL.out (by have := HZL.out; omega)]
              exact ALL.out i h1 h2)
            have HSM := hid (show s < m by omega); have HM := hid hm
            clear hs hm ALL hDM
            go_wp2_with fail
            with_reducible refine (HSI.out wr (HST.out.below QE.out HLT.out.1) (HRS.out.below QE.out HLT.out.2)).mono ?_
            rintro e wF ⟨rfl, hB⟩
            have QF := hid (QE.out.trans (hB.mono QE.out.size))
            clear hB
            go_wp2_with fail
            with_reducible refine (HSS.out wF (HST.out.below QF.out HLT.out.1) (HRS.out.below QF.out HLT.out.2)).mono ?_
            rintro e wG ⟨rfl, hB⟩
            have QG := hid (QF.out.trans (hB.mono QF.out.size))
            clear hB
            have cm := ((HRS.out.below QG.out HLT.out.2).2.1 m (by rw [HNJ.out]; have := HM.out; omega)).2
            clear HSI HSS BE
            go_wp2_with fail
            with_reducible refine (HDG.out m (by have := HM.out; omega) wG (HST.out.below QG.out HLT.out.1)).mono ?_
            rintro e wH ⟨rfl, hB⟩
            have QH := hid (QG.out.trans (hB.mono QG.out.size))
            clear hB cm
            have rA := Row.new wH 43 [.int .u8 (dg (dgL Z (rv js m)) 0), .int .u8 (dg (dgL Z (rv js m)) 1), .int .u8 (dg (dgL Z (rv js m)) 2), .int .u8 (dg (dgL Z (rv js m)) 3), .int .u8 (dg (dgL Z (rv js m)) 4), .int .u8 (dg (dgL Z (rv js m)) 5), .int .u8 (dg (dgL Z (rv js m)) 6), .int .u8 (dg (dgL Z (rv js m)) 7)]
            have bA : Below wH.heap.size wH (wH.alloc (.cells #[.int .u8 (dg (dgL Z (rv js m)) 0), .int .u8 (dg (dgL Z (rv js m)) 1), .int .u8 (dg (dgL Z (rv js m)) 2), .int .u8 (dg (dgL Z (rv js m)) 3), .int .u8 (dg (dgL Z (rv js m)) 4), .int .u8 (dg (dgL Z (rv js m)) 5), .int .u8 (dg (dgL Z (rv js m)) 6), .int .u8 (dg (dgL Z (rv js m)) 7)] 43)) := (Below.refl _ _).alloc (Nat.le_refl _) _
            have q4 := QH.out.trans (bA.mono QH.out.size)
            obtain ⟨RA, hRA⟩ : ∃ y, wH.heap.size = y := ⟨_, rfl⟩
            obtain ⟨V8, hV8⟩ : ∃ y, y = wH.alloc (.cells #[.int .u8 (dg (dgL Z (rv js m)) 0), .int .u8 (dg (dgL Z (rv js m)) 1), .int .u8 (dg (dgL Z (rv js m)) 2), .int .u8 (dg (dgL Z (rv js m)) 3), .int .u8 (dg (dgL Z (rv js m)) 4), .int .u8 (dg (dgL Z (rv js m)) 5), .int .u8 (dg (dgL Z (rv js m)) 6), .int .u8 (dg (dgL Z (rv js m)) 7)] 43) := ⟨_, rfl⟩
            rw [← hV8] at rA q4
            rw [hRA] at rA
            have HRA := hid rA; have Q8 := hid q4; have HVV8 := hid hV8; have HGRA := hid hRA
            clear rA bA q4 hRA hV8
            go_upto_region 36 with fail
            rw [← HVV8.out, HGRA.out]
            go_upto_region 37 with fail
            go_loopw [30] (fun s30 wr => ∃ i : Nat, s ≤ i ∧ i ≤ n ∧ s30 = .int .i64 (i : Int) ∧ Below V8.heap.size V8 wr) (fun i _ => n - (intOf i).toNat)
            case atStart => exact ⟨s, Nat.le_refl _, by have h1 := HSM.out; have h2 := HM.out; omega, rfl, Below.refl _ _⟩
            case round =>
              obtain ⟨i, hi1, hi2, rfl, p⟩ := hrel
              by_cases hlt : i < n
              · have hlt' : (i : Int) < (n : Int) := by omega
                have hi0 : (0 : Int) ≤ (i : Int) := by omega
                have wi : IntKind.i64.wrap ((i : Int) + 1) = ((i + 1 : Nat) : Int) := by rw [IntWalk.i64_in _ (by omega)]; omega
                have QI := hid (Q8.out.trans (p.mono Q8.out.size))
                have ci := ((HRS.out.below QI.out HLT.out.2).2.1 i (by rw [HNJ.out]; exact hlt)).2
                have HP := hid p
                clear p
                go_wp2_with fail
                with_reducible refine (HDG.out i hlt wr (HST.out.below QI.out HLT.out.1)).mono ?_
                rintro e wJ ⟨rfl, hB⟩
                have PJ := hid (HP.out.trans (hB.mono HP.out.size))
                clear hB ci
                have rA := Row.new wJ 43 [.int .u8 (dg (dgL Z (rv js i)) 0), .int .u8 (dg (dgL Z (rv js i)) 1), .int .u8 (dg (dgL Z (rv js i)) 2), .int .u8 (dg (dgL Z (rv js i)) 3), .int .u8 (dg (dgL Z (rv js i)) 4), .int .u8 (dg (dgL Z (rv js i)) 5), .int .u8 (dg (dgL Z (rv js i)) 6), .int .u8 (dg (dgL Z (rv js i)) 7)]
                have bA : Below wJ.heap.size wJ (wJ.alloc (.cells #[.int .u8 (dg (dgL Z (rv js i)) 0), .int .u8 (dg (dgL Z (rv js i)) 1), .int .u8 (dg (dgL Z (rv js i)) 2), .int .u8 (dg (dgL Z (rv js i)) 3), .int .u8 (dg (dgL Z (rv js i)) 4), .int .u8 (dg (dgL Z (rv js i)) 5), .int .u8 (dg (dgL Z (rv js i)) 6), .int .u8 (dg (dgL Z (rv js i)) 7)] 43)) := (Below.refl _ _).alloc (Nat.le_refl _) _
                have q4 := PJ.out.trans (bA.mono PJ.out.size)
                obtain ⟨RB, hRB⟩ : ∃ y, wJ.heap.size = y := ⟨_, rfl⟩
                obtain ⟨VK, hVK⟩ : ∃ y, y = wJ.alloc (.cells #[.int .u8 (dg (dgL Z (rv js i)) 0), .int .u8 (dg (dgL Z (rv js i)) 1), .int .u8 (dg (dgL Z (rv js i)) 2), .int .u8 (dg (dgL Z (rv js i)) 3), .int .u8 (dg (dgL Z (rv js i)) 4), .int .u8 (dg (dgL Z (rv js i)) 5), .int .u8 (dg (dgL Z (rv js i)) 6), .int .u8 (dg (dgL Z (rv js i)) 7)] 43) := ⟨_, rfl⟩
                rw [← hVK] at rA q4
                rw [hRB] at rA
                have HRB := hid rA; have PK := hid q4; have HVVK := hid hVK; have HGRB := hid hRB
                clear rA bA q4 hRB hVK
                go_upto_region 40 with fail
                rw [← HVVK.out, HGRB.out]
                have cA := row_dg (HRA.out.below PK.out HRA.out.lt) wl (by omega)
                have cB := row_dg HRB.out wl (by omega)
                rw [DGE.out m (by have := HSM.out; omega) (by have := HM.out; omega)] at cA
                rw [DGE.out i hi1 hlt] at cB
                go_quiet (fail)
                obtain ⟨VL, hVL⟩ : ∃ X, X = VK.drewN nq := ⟨_, rfl⟩
                have PL := hid (show Below V8.heap.size V8 VL by rw [hVL]; exact below_drewN PK.out _)
                rw [← hVL]
                clear hVL cA cB
                go_wp2_with fail
                go_roundw
                case rel => exact ⟨i + 1, by omega, by omega, rfl, PL.out⟩
                case measure => simp [intOf]; omega
              · have hge : ¬ (i : Int) < (n : Int) := by omega
                have HP := hid p
                clear p
                go_wp2_with fail
                go_ret
                exact ⟨rfl, B2.out.trans ((Q8.out.trans (HP.out.mono Q8.out.size)).mono B2.out.size)⟩
    · go_wp2_with fail
      with_reducible refine (GB.out VB (HST.out.below QB.out HLT.out.1) (HRS.out.below QB.out HLT.out.2)).mono ?_
      rintro e wD ⟨v, rfl, hO, hB⟩
      have QD := hid (QB.out.trans (hB.mono QB.out.size))
      have HO := hid hO
      clear hB hO GB SU0 SU1 SU2 TI1 TI2 TS1
      go_upto_region 24 with fail
      go_loopw [22] (fun s22 wr => ∃ k : Nat, (k + 1 ≤ n ∨ k = 0) ∧ s22 = .int .i64 ((k + 1 : Nat) : Int) ∧ Below wD.heap.size wD wr) (fun i _ => n - (intOf i).toNat)
      case atStart => exact ⟨0, .inr rfl, rfl, Below.refl _ _⟩
      case round =>
        obtain ⟨k, hk1, rfl, q⟩ := hrel
        by_cases hlt : k + 1 < n
        · obtain ⟨c, hc⟩ : ∃ c, k + 1 = c := ⟨_, rfl⟩
          obtain ⟨x, hx⟩ : ∃ y, rv js (k + 1) = y := ⟨_, rfl⟩
          obtain ⟨y, hy⟩ : ∃ y, rv js k = y := ⟨_, rfl⟩
          have ca := (HRS.out.2.1 k (by rw [HNJ.out]; omega)).2
          have cb := (HRS.out.2.1 (k + 1) (by rw [HNJ.out]; exact hlt)).2
          obtain ⟨bb, hbb, hb2⟩ : ∃ bb, decide (x < y) = bb ∧ (bb != bb) = false := ⟨_, rfl, by simp⟩
          have hkey : hasL (endsP (backP js) (List.finRange (js.length - 1))) (c : Int) = bb := by
            have := endsP_has (m := js.length - 1) (backP js) k (by rw [HNJ.out]; omega)
            rw [← hc, show ((k + 1 : Nat) : Int) = (k : Int) + 1 by omega, this]
            unfold backP
            rw [hx, hy, hbb]
          rw [hx, hc] at cb
          rw [hy] at ca
          have hlt' : (c : Int) < (n : Int) := by omega
          have hi0 : (0 : Int) ≤ (c : Int) := by omega
          have hk0 : (0 : Int) ≤ (k : Int) := by omega
          have hkn : (k : Int) < (n : Int) := by omega
          have wk : IntKind.i64.wrap ((c : Int) - 1) = (k : Int) := by rw [IntWalk.i64_in _ (by omega)]; omega
          have wk2 : IntKind.i64.wrap ((c : Int) + 1) = ((k + 1 + 1 : Nat) : Int) := by rw [IntWalk.i64_in _ (by omega)]; omega
          rw [hc]
          clear hk1 hx hy
          go_upto_region 26 with fail
          refine wp_region_held (S := fun W' : World => W'.cell? ⟨g, c * 2 + 1, none⟩ = some (.int .i64 x) ∧ W'.cell? ⟨g, k * 2 + 1, none⟩ = some (.int .i64 y)) (by kernel_rfl) ?_
          change wpAnyH _ _ _ _ _ _ _ _ (World.drew _)
          obtain ⟨X4, hX4⟩ : ∃ X, X = World.drew wr := ⟨_, rfl⟩
          have bD : Below wr.heap.size wr X4 := by rw [hX4]; exact (Below.refl _ _).drew
          have qx := q.trans (bD.mono q.size)
          have qv := QD.out.trans (qx.mono QD.out.size)
          have hS0 : X4.cell? ⟨g, c * 2 + 1, none⟩ = some (.int .i64 x) ∧ X4.cell? ⟨g, k * 2 + 1, none⟩ = some (.int .i64 y) := ⟨(qv.cell (p := ⟨g, c * 2 + 1, none⟩) HLT.out.2).trans cb, (qv.cell (p := ⟨g, k * 2 + 1, none⟩) HLT.out.2).trans ca⟩
          have AH := hid (show Calls Try.prog 10 #[v, .int .i64 (c : Int)] X4 fun e w' => e = .returned (.bool bb) ∧ X4 = w' from by
            have := a2Has_any _ v _ ES.out.1 ES.out.2 (c : Int) X4 (own_later HO.out qx)
            rw [hkey] at this
            exact this)
          have QX2 := hid qx
          rw [← hX4]
          clear hX4 bD qx qv q ca cb hkey
          refine wpAnyH_takeD (some 163) (i := 0) (v := ?_) rfl rfl (by kernel_rfl) (by kernel_rfl) (by kernel_rfl) (fun _ _ _ h => h) (.inl ⟨by kernel_rfl, ?_⟩) hS0 ?_
          rotate_left
          · intro w' hw'; go_simp; try with_reducible rfl
          try simp only [Act.put, List.setIfInBounds_toArray, List.set_cons_zero, List.set_cons_succ]
          refine wpAnyH_takeD (some 164) (i := 1) (v := ?_) rfl rfl (by kernel_rfl) (by kernel_rfl) (by kernel_rfl) (fun _ _ _ h => h) (.inl ⟨by kernel_rfl, ?_⟩) hS0 ?_
          rotate_left
          · intro w' hw'; go_simp; try with_reducible rfl
          try simp only [Act.put, List.setIfInBounds_toArray, List.set_cons_zero, List.set_cons_succ]
          refine wpAnyH_takeD (some 166) (i := 3) (v := ?_) rfl rfl (by kernel_rfl) (by kernel_rfl) (by kernel_rfl) (fun _ _ _ h => h) (.inl ⟨by kernel_rfl, ?_⟩) hS0 ?_
          rotate_left
          · intro w' hw'; go_simp; try with_reducible rfl
          try simp only [Act.put, List.setIfInBounds_toArray, List.set_cons_zero, List.set_cons_succ]
          refine wpAnyH_takeD (some 167) (i := 4) (v := ?_) rfl rfl (by kernel_rfl) (by kernel_rfl) (by kernel_rfl) (fun _ _ _ h => h) (.inl ⟨by kernel_rfl, ?_⟩) hS0 ?_
          rotate_left
          · intro w' hw'; go_simp; try with_reducible rfl
          try simp only [Act.put, List.setIfInBounds_toArray, List.set_cons_zero, List.set_cons_succ]
          refine wpAnyH_takeD (some 168) (i := 5) (v := ?_) rfl rfl (by kernel_rfl) (by kernel_rfl) (by kernel_rfl) (fun _ _ _ h => h) (.inl ⟨by kernel_rfl, ?_⟩) hS0 ?_
          rotate_left
          · intro w' hw'; obtain ⟨g1, g2⟩ := hw'; go_simp; try with_reducible rfl
          try simp only [Act.put, List.setIfInBounds_toArray, List.set_cons_zero, List.set_cons_succ]
          refine wpAnyH_takeD (some 169) (i := 6) (v := ?_) rfl rfl (by kernel_rfl) (by kernel_rfl) (by kernel_rfl) (fun _ _ _ h => h) (.inl ⟨by kernel_rfl, ?_⟩) hS0 ?_
          rotate_left
          · intro w' hw'; obtain ⟨g1, g2⟩ := hw'; go_simp; try with_reducible rfl
          try simp only [Act.put, List.setIfInBounds_toArray, List.set_cons_zero, List.set_cons_succ]
          refine wpAnyH_takeD (some 170) (i := 7) (v := ?_) rfl rfl (by kernel_rfl) (by kernel_rfl) (by kernel_rfl) (fun _ _ _ h => h) (.inl ⟨by kernel_rfl, ?_⟩) hS0 ?_
          rotate_left
          · intro w' hw'; obtain ⟨g1, g2⟩ := hw'; go_simp; try with_reducible rfl
          try simp only [Act.put, List.setIfInBounds_toArray, List.set_cons_zero, List.set_cons_succ]
          refine wpAnyH_takeD (some 171) (i := 8) (v := ?_) rfl rfl (by kernel_rfl) (by kernel_rfl) (by kernel_rfl) (fun _ _ _ h => h) (.inl ⟨by kernel_rfl, ?_⟩) hS0 ?_
          rotate_left
          · intro w' hw'; go_simp; try with_reducible rfl
          try simp only [Act.put, List.setIfInBounds_toArray, List.set_cons_zero, List.set_cons_succ]
          refine wpAnyH_takeD (some 172) (i := 9) (v := ?_) rfl rfl (by kernel_rfl) (by kernel_rfl) (by kernel_rfl) (fun _ _ _ h => h) (.inl ⟨by kernel_rfl, ?_⟩) hS0 ?_
          rotate_left
          · intro w' hw'; go_simp; try with_reducible rfl
          try simp only [Act.put, List.setIfInBounds_toArray, List.set_cons_zero, List.set_cons_succ]
          refine wpAnyH_takeD (some 173) (i := 10) (v := ?_) rfl rfl (by kernel_rfl) (by kernel_rfl) (by kernel_rfl) (fun _ _ _ h => h) (.inl ⟨by kernel_rfl, ?_⟩) hS0 ?_
          rotate_left
          · intro w' hw'; go_simp; try with_reducible rfl
          try simp only [Act.put, List.setIfInBounds_toArray, List.set_cons_zero, List.set_cons_succ]
          refine wpAnyH_takeD (some 174) (i := 11) (v := ?_) rfl rfl (by kernel_rfl) (by kernel_rfl) (by kernel_rfl) (fun _ _ _ h => h) (.inl ⟨by kernel_rfl, ?_⟩) hS0 ?_
          rotate_left
          · intro w' hw'; obtain ⟨g1, g2⟩ := hw'; go_simp; try with_reducible rfl
          try simp only [Act.put, List.setIfInBounds_toArray, List.set_cons_zero, List.set_cons_succ]
          refine wpAnyH_takeD (some 175) (i := 12) (v := ?_) rfl rfl (by kernel_rfl) (by kernel_rfl) (by kernel_rfl) (fun _ _ _ h => h) (.inl ⟨by kernel_rfl, ?_⟩) hS0 ?_
          rotate_left
          · intro w' hw'; obtain ⟨g1, g2⟩ := hw'; go_simp; try with_reducible rfl
          try simp only [Act.put, List.setIfInBounds_toArray, List.set_cons_zero, List.set_cons_succ]
          refine wpAnyH_takeD (some 176) (i := 13) (v := ?_) rfl rfl (by kernel_rfl) (by kernel_rfl) (by kernel_rfl) (fun _ _ _ h => h) (.inl ⟨by kernel_rfl, ?_⟩) hS0 ?_
          rotate_left
          · intro w' hw'; obtain ⟨g1, g2⟩ := hw'; go_simp; try with_reducible rfl
          try simp only [Act.put, List.setIfInBounds_toArray, List.set_cons_zero, List.set_cons_succ]
          refine wpAnyH_takeD (some 177) (i := 14) (v := ?_) rfl rfl (by kernel_rfl) (by kernel_rfl) (by kernel_rfl) (fun _ _ _ h => h) (.inl ⟨by kernel_rfl, ?_⟩) hS0 ?_
          rotate_left
          · intro w' hw'; go_simp; try with_reducible rfl
          try simp only [Act.put, List.setIfInBounds_toArray, List.set_cons_zero, List.set_cons_succ]
          refine wpAnyH_all (rs := [2]) (by kernel_rfl) (by simp) ?_
          intro i hi; simp only [List.mem_cons, List.not_mem_nil, or_false] at hi
          subst hi
          refine wpOp_step rfl (fun K hK => ?_)
          go_simp
          with_reducible refine AH.out.mono ?_
          rintro e w4 ⟨rfl, hw⟩
          subst hw
          refine hK _ _ ⟨hS0, ?_⟩
          try simp only [Act.put, List.setIfInBounds_toArray, List.set_cons_zero, List.set_cons_succ]
          clear hK K
          refine wpAnyH_takeD (some 178) (i := 15) (v := ?_) rfl rfl (by kernel_rfl) (by kernel_rfl) (by kernel_rfl) (fun _ _ _ h => h) (.inl ⟨by kernel_rfl, ?_⟩) hS0 ?_
          rotate_left
          · intro w' hw'; go_simp; try with_reducible rfl
          try simp only [Act.put, List.setIfInBounds_toArray, List.set_cons_zero, List.set_cons_succ]
          refine wpAnyH_done (by kernel_rfl) ?_ _
          clear hS0
          go_wp2_with fail
          go_roundw
          case rel => exact ⟨k + 1, .inl (by omega), by first | rfl | exact congrArg (Value.int .i64) (by omega) | (simp [← hc]; exact congrArg (Value.int .i64) (by omega)), QX2.out⟩
          case measure => simp [intOf]; omega
        · have hge : ¬ ((k + 1 : Nat) : Int) < (n : Int) := by omega
          have QE := hid (QD.out.trans (q.mono QD.out.size))
          clear q hk1 HO ES
          have BE := hid (B2.out.trans (QE.out.mono B2.out.size))
          have HSI := hid (fun (wl : Nat) W (s : Stk W B Z) (r : Rst W g js) => implStuck_any B nz nz Z HNZ.out.symm g n cp js HNJ.out.symm (wl : Int) W s r (Nat.le_refl _) HCP.out)
          have HSS := hid (fun (wl : Nat) W (s : Stk W B Z) (r : Rst W g js) => specStuck_any B nz nz Z HNZ.out.symm g n cp js HNJ.out.symm (wl : Int) W s r (Nat.le_refl _))
          go_wp2_with fail
          with_reducible refine (AT1.out (nz : Int) wr (H2.out.below BE.out (Nat.le_refl _)) (by have h1 := HZL.out; have h2 := HNZ.out; omega)).mono ?_
          rintro e W2 ⟨t, t0, t1, rfl, hw⟩
          subst hw
          obtain ⟨wl, rfl⟩ : ∃ wl : Nat, t = wl := ⟨t.toNat, by omega⟩
          have hwl : wl < Z.length := by have := HNZ.out; omega
          have HWL := hid hwl
          rcases stuckR_or HG.out hwl with hR | ⟨hR, hs⟩
          · have HSI := hid (HSI.out wl); have HSS := hid (HSS.out wl)
            rw [hR] at HSI HSS
            have HSI := hid (fun W s r => show Calls Try.prog 12 #[.slice (some ⟨B, 0, none⟩) nz nz, .slice (some ⟨g, 0, none⟩) n cp, .int .i64 (wl : Int)] W (GivesB W (.tuple #[.int .i64 0, .int .i64 6])) from HSI.out W s r)
            have HSS := hid (fun W s r => show Calls Try.prog 13 #[.slice (some ⟨B, 0, none⟩) nz nz, .slice (some ⟨g, 0, none⟩) n cp, .int .i64 (wl : Int)] W (GivesB W (.tuple #[.int .i64 0, .int .i64 6])) from HSS.out W s r)
            clear hR t0 t1 hwl hge hlt
            go_wp2_with fail
            with_reducible refine (HSI.out wr (HST.out.below QE.out HLT.out.1) (HRS.out.below QE.out HLT.out.2)).mono ?_
            rintro e wF ⟨rfl, hB⟩
            have QF := hid (QE.out.trans (hB.mono QE.out.size))
            clear hB
            go_wp2_with fail
            with_reducible refine (HSS.out wF (HST.out.below QF.out HLT.out.1) (HRS.out.below QF.out HLT.out.2)).mono ?_
            rintro e wG ⟨rfl, hB⟩
            have QG := hid (QF.out.trans (hB.mono QF.out.size))
            clear hB
            go_wp2_with fail
            go_ret
            exact ⟨rfl, B2.out.trans (QG.out.mono B2.out.size)⟩
          · obtain ⟨s, hss⟩ : ∃ s, sinceN Z js wl = s := ⟨_, rfl⟩
            have HSI := hid (HSI.out wl); have HSS := hid (HSS.out wl)
            have ALL := hid (fun i (h1 : sinceN Z js wl ≤ i) (h2 : i < js.length) => since_all h1 h2)
            rw [hR] at HSI HSS
            rw [hss] at HSI HSS hs ALL
            rw [HNJ.out] at hs ALL
            have HSI := hid (fun W s' r => show Calls Try.prog 12 #[.slice (some ⟨B, 0, none⟩) nz nz, .slice (some ⟨g, 0, none⟩) n cp, .int .i64 (wl : Int)] W (GivesB W (.tuple #[.int .i64 (s : Int), .int .i64 0])) from HSI.out W s' r)
            have HSS := hid (fun W s' r => show Calls Try.prog 13 #[.slice (some ⟨B, 0, none⟩) nz nz, .slice (some ⟨g, 0, none⟩) n cp, .int .i64 (wl : Int)] W (GivesB W (.tuple #[.int .i64 (s : Int), .int .i64 0])) from HSS.out W s' r)
            clear hR t0 t1 hwl hge hlt hss
            obtain ⟨m, hm⟩ : ∃ m, n = m + 1 := ⟨n - 1, by omega⟩
            have ess : ((s : Int) != (s : Int)) = false := by simp
            have wm : IntKind.i64.wrap ((n : Int) - 1) = (m : Int) := by rw [IntWalk.i64_in _ (by omega)]; omega
            have hm0 : (0 : Int) ≤ (m : Int) := by omega
            have hmn : (m : Int) < (n : Int) := by omega
            have hs0 : (0 : Int) ≤ (s : Int) := by omega
            have hsm : (s : Int) < (m : Int) := by omega
            have w80 : (0 : Int) ≤ (wl : Int) := by omega
            have w88 : (wl : Int) < 8 := by have h1 := HWL.out; have h2 := HZL.out; omega
            have HDG := hid (fun i (hi : i < n) W (h : Stk W B Z) => show Calls Try.prog 14 #[.slice (some ⟨B, 0, none⟩) nz nz, .int .i64 (rv js i)] W (GivesB W (.tuple #[.agg #[.int .u8 (dg (dgL Z (rv js i)) 0), .int .u8 (dg (dgL Z (rv js i)) 1), .int .u8 (dg (dgL Z (rv js i)) 2), .int .u8 (dg (dgL Z (rv js i)) 3), .int .u8 (dg (dgL Z (rv js i)) 4), .int .u8 (dg (dgL Z (rv js i)) 5), .int .u8 (dg (dgL Z (rv js i)) 6), .int .u8 (dg (dgL Z (rv js i)) 7)], .int .i64 0])) from by
              have h1 := okRd_out ((okG_out HG.out).2.2.1 i (by rw [HNJ.out]; exact hi))
              have := specDigitsOf_any B nz nz Z (rv js i) W h HNZ.out.symm (Nat.le_refl _)
              rw [dofR_yes (rv js i) HOK.out (by omega)] at this
              exact this)
            obtain ⟨DM, hDM⟩ : ∃ d, dgJ Z js wl (n - 1) = d := ⟨_, rfl⟩
            rw [hDM] at ALL
            have HDM := hid hDM
            have eDM : (DM != DM) = false := by simp
            have DGE := hid (fun i (h1 : s ≤ i) (h2 : i < n) => show dg (dgL Z (rv js i)) wl = DM from by
              rw [dg_is HWL.out (by have := HZL.out; omega)]
              exact ALL.out i h1 h2)
            have HSM := hid (show s < m by omega); have HM := hid hm
            clear hs hm ALL hDM
            go_wp2_with fail
            with_reducible refine (HSI.out wr (HST.out.below QE.out HLT.out.1) (HRS.out.below QE.out HLT.out.2)).mono ?_
            rintro e wF ⟨rfl, hB⟩
            have QF := hid (QE.out.trans (hB.mono QE.out.size))
            clear hB
            go_wp2_with fail
            with_reducible refine (HSS.out wF (HST.out.below QF.out HLT.out.1) (HRS.out.below QF.out HLT.out.2)).mono ?_
            rintro e wG ⟨rfl, hB⟩
            have QG := hid (QF.out.trans (hB.mono QF.out.size))
            clear hB
            have cm := ((HRS.out.below QG.out HLT.out.2).2.1 m (by rw [HNJ.out]; have := HM.out; omega)).2
            clear HSI HSS BE
            go_wp2_with fail
            with_reducible refine (HDG.out m (by have := HM.out; omega) wG (HST.out.below QG.out HLT.out.1)).mono ?_
            rintro e wH ⟨rfl, hB⟩
            have QH := hid (QG.out.trans (hB.mono QG.out.size))
            clear hB cm
            have rA := Row.new wH 43 [.int .u8 (dg (dgL Z (rv js m)) 0), .int .u8 (dg (dgL Z (rv js m)) 1), .int .u8 (dg (dgL Z (rv js m)) 2), .int .u8 (dg (dgL Z (rv js m)) 3), .int .u8 (dg (dgL Z (rv js m)) 4), .int .u8 (dg (dgL Z (rv js m)) 5), .int .u8 (dg (dgL Z (rv js m)) 6), .int .u8 (dg (dgL Z (rv js m)) 7)]
            have bA : Below wH.heap.size wH (wH.alloc (.cells #[.int .u8 (dg (dgL Z (rv js m)) 0), .int .u8 (dg (dgL Z (rv js m)) 1), .int .u8 (dg (dgL Z (rv js m)) 2), .int .u8 (dg (dgL Z (rv js m)) 3), .int .u8 (dg (dgL Z (rv js m)) 4), .int .u8 (dg (dgL Z (rv js m)) 5), .int .u8 (dg (dgL Z (rv js m)) 6), .int .u8 (dg (dgL Z (rv js m)) 7)] 43)) := (Below.refl _ _).alloc (Nat.le_refl _) _
            have q4 := QH.out.trans (bA.mono QH.out.size)
            obtain ⟨RA, hRA⟩ : ∃ y, wH.heap.size = y := ⟨_, rfl⟩
            obtain ⟨V8, hV8⟩ : ∃ y, y = wH.alloc (.cells #[.int .u8 (dg (dgL Z (rv js m)) 0), .int .u8 (dg (dgL Z (rv js m)) 1), .int .u8 (dg (dgL Z (rv js m)) 2), .int .u8 (dg (dgL Z (rv js m)) 3), .int .u8 (dg (dgL Z (rv js m)) 4), .int .u8 (dg (dgL Z (rv js m)) 5), .int .u8 (dg (dgL Z (rv js m)) 6), .int .u8 (dg (dgL Z (rv js m)) 7)] 43) := ⟨_, rfl⟩
            rw [← hV8] at rA q4
            rw [hRA] at rA
            have HRA := hid rA; have Q8 := hid q4; have HVV8 := hid hV8; have HGRA := hid hRA
            clear rA bA q4 hRA hV8
            go_upto_region 36 with fail
            rw [← HVV8.out, HGRA.out]
            go_upto_region 37 with fail
            go_loopw [30] (fun s30 wr => ∃ i : Nat, s ≤ i ∧ i ≤ n ∧ s30 = .int .i64 (i : Int) ∧ Below V8.heap.size V8 wr) (fun i _ => n - (intOf i).toNat)
            case atStart => exact ⟨s, Nat.le_refl _, by have h1 := HSM.out; have h2 := HM.out; omega, rfl, Below.refl _ _⟩
            case round =>
              obtain ⟨i, hi1, hi2, rfl, p⟩ := hrel
              by_cases hlt : i < n
              · have hlt' : (i : Int) < (n : Int) := by omega
                have hi0 : (0 : Int) ≤ (i : Int) := by omega
                have wi : IntKind.i64.wrap ((i : Int) + 1) = ((i + 1 : Nat) : Int) := by rw [IntWalk.i64_in _ (by omega)]; omega
                have QI := hid (Q8.out.trans (p.mono Q8.out.size))
                have ci := ((HRS.out.below QI.out HLT.out.2).2.1 i (by rw [HNJ.out]; exact hlt)).2
                have HP := hid p
                clear p
                go_wp2_with fail
                with_reducible refine (HDG.out i hlt wr (HST.out.below QI.out HLT.out.1)).mono ?_
                rintro e wJ ⟨rfl, hB⟩
                have PJ := hid (HP.out.trans (hB.mono HP.out.size))
                clear hB ci
                have rA := Row.new wJ 43 [.int .u8 (dg (dgL Z (rv js i)) 0), .int .u8 (dg (dgL Z (rv js i)) 1), .int .u8 (dg (dgL Z (rv js i)) 2), .int .u8 (dg (dgL Z (rv js i)) 3), .int .u8 (dg (dgL Z (rv js i)) 4), .int .u8 (dg (dgL Z (rv js i)) 5), .int .u8 (dg (dgL Z (rv js i)) 6), .int .u8 (dg (dgL Z (rv js i)) 7)]
                have bA : Below wJ.heap.size wJ (wJ.alloc (.cells #[.int .u8 (dg (dgL Z (rv js i)) 0), .int .u8 (dg (dgL Z (rv js i)) 1), .int .u8 (dg (dgL Z (rv js i)) 2), .int .u8 (dg (dgL Z (rv js i)) 3), .int .u8 (dg (dgL Z (rv js i)) 4), .int .u8 (dg (dgL Z (rv js i)) 5), .int .u8 (dg (dgL Z (rv js i)) 6), .int .u8 (dg (dgL Z (rv js i)) 7)] 43)) := (Below.refl _ _).alloc (Nat.le_refl _) _
                have q4 := PJ.out.trans (bA.mono PJ.out.size)
                obtain ⟨RB, hRB⟩ : ∃ y, wJ.heap.size = y := ⟨_, rfl⟩
                obtain ⟨VK, hVK⟩ : ∃ y, y = wJ.alloc (.cells #[.int .u8 (dg (dgL Z (rv js i)) 0), .int .u8 (dg (dgL Z (rv js i)) 1), .int .u8 (dg (dgL Z (rv js i)) 2), .int .u8 (dg (dgL Z (rv js i)) 3), .int .u8 (dg (dgL Z (rv js i)) 4), .int .u8 (dg (dgL Z (rv js i)) 5), .int .u8 (dg (dgL Z (rv js i)) 6), .int .u8 (dg (dgL Z (rv js i)) 7)] 43) := ⟨_, rfl⟩
                rw [← hVK] at rA q4
                rw [hRB] at rA
                have HRB := hid rA; have PK := hid q4; have HVVK := hid hVK; have HGRB := hid hRB
                clear rA bA q4 hRB hVK
                go_upto_region 40 with fail
                rw [← HVVK.out, HGRB.out]
                have cA := row_dg (HRA.out.below PK.out HRA.out.lt) wl (by omega)
                have cB := row_dg HRB.out wl (by omega)
                rw [DGE.out m (by have := HSM.out; omega) (by have := HM.out; omega)] at cA
                rw [DGE.out i hi1 hlt] at cB
                go_quiet (fail)
                obtain ⟨VL, hVL⟩ : ∃ X, X = VK.drewN nq := ⟨_, rfl⟩
                have PL := hid (show Below V8.heap.size V8 VL by rw [hVL]; exact below_drewN PK.out _)
                rw [← hVL]
                clear hVL cA cB
                go_wp2_with fail
                go_roundw
                case rel => exact ⟨i + 1, by omega, by omega, rfl, PL.out⟩
                case measure => simp [intOf]; omega
              · have hge : ¬ (i : Int) < (n : Int) := by omega
                have HP := hid p
                clear p
                go_wp2_with fail
                go_ret
                exact ⟨rfl, B2.out.trans ((Q8.out.trans (HP.out.mono Q8.out.size)).mono B2.out.size)⟩
  · have hL : ¬ Lo < F := by have := HBB.out; omega
    go_wp2_with fail
    with_reducible refine (GB.out w8 (HST.out.below Q8.out HLT.out.1) (HRS.out.below Q8.out HLT.out.2)).mono ?_
    rintro e wD ⟨v, rfl, hO, hB⟩
    have QD := hid (Q8.out.trans (hB.mono Q8.out.size))
    have HO := hid hO
    clear hB hO GB SU0 SU1 SU2 TI1 TI2 TS1
    go_upto_region 24 with fail
    go_loopw [22] (fun s22 wr => ∃ k : Nat, (k + 1 ≤ n ∨ k = 0) ∧ s22 = .int .i64 ((k + 1 : Nat) : Int) ∧ Below wD.heap.size wD wr) (fun i _ => n - (intOf i).toNat)
    case atStart => exact ⟨0, .inr rfl, rfl, Below.refl _ _⟩
    case round =>
      obtain ⟨k, hk1, rfl, q⟩ := hrel
      by_cases hlt : k + 1 < n
      · obtain ⟨c, hc⟩ : ∃ c, k + 1 = c := ⟨_, rfl⟩
        obtain ⟨x, hx⟩ : ∃ y, rv js (k + 1) = y := ⟨_, rfl⟩
        obtain ⟨y, hy⟩ : ∃ y, rv js k = y := ⟨_, rfl⟩
        have ca := (HRS.out.2.1 k (by rw [HNJ.out]; omega)).2
        have cb := (HRS.out.2.1 (k + 1) (by rw [HNJ.out]; exact hlt)).2
        obtain ⟨bb, hbb, hb2⟩ : ∃ bb, decide (x < y) = bb ∧ (bb != bb) = false := ⟨_, rfl, by simp⟩
        have hkey : hasL (endsP (backP js) (List.finRange (js.length - 1))) (c : Int) = bb := by
          have := endsP_has (m := js.length - 1) (backP js) k (by rw [HNJ.out]; omega)
          rw [← hc, show ((k + 1 : Nat) : Int) = (k : Int) + 1 by omega, this]
          unfold backP
          rw [hx, hy, hbb]
        rw [hx, hc] at cb
        rw [hy] at ca
        have hlt' : (c : Int) < (n : Int) := by omega
        have hi0 : (0 : Int) ≤ (c : Int) := by omega
        have hk0 : (0 : Int) ≤ (k : Int) := by omega
        have hkn : (k : Int) < (n : Int) := by omega
        have wk : IntKind.i64.wrap ((c : Int) - 1) = (k : Int) := by rw [IntWalk.i64_in _ (by omega)]; omega
        have wk2 : IntKind.i64.wrap ((c : Int) + 1) = ((k + 1 + 1 : Nat) : Int) := by rw [IntWalk.i64_in _ (by omega)]; omega
        rw [hc]
        clear hk1 hx hy
        go_upto_region 26 with fail
        refine wp_region_held (S := fun W' : World => W'.cell? ⟨g, c * 2 + 1, none⟩ = some (.int .i64 x) ∧ W'.cell? ⟨g, k * 2 + 1, none⟩ = some (.int .i64 y)) (by kernel_rfl) ?_
        change wpAnyH _ _ _ _ _ _ _ _ (World.drew _)
        obtain ⟨X4, hX4⟩ : ∃ X, X = World.drew wr := ⟨_, rfl⟩
        have bD : Below wr.heap.size wr X4 := by rw [hX4]; exact (Below.refl _ _).drew
        have qx := q.trans (bD.mono q.size)
        have qv := QD.out.trans (qx.mono QD.out.size)
        have hS0 : X4.cell? ⟨g, c * 2 + 1, none⟩ = some (.int .i64 x) ∧ X4.cell? ⟨g, k * 2 + 1, none⟩ = some (.int .i64 y) := ⟨(qv.cell (p := ⟨g, c * 2 + 1, none⟩) HLT.out.2).trans cb, (qv.cell (p := ⟨g, k * 2 + 1, none⟩) HLT.out.2).trans ca⟩
        have AH := hid (show Calls Try.prog 10 #[v, .int .i64 (c : Int)] X4 fun e w' => e = .returned (.bool bb) ∧ X4 = w' from by
          have := a2Has_any _ v _ ES.out.1 ES.out.2 (c : Int) X4 (own_later HO.out qx)
          rw [hkey] at this
          exact this)
        have QX2 := hid qx
        rw [← hX4]
        clear hX4 bD qx qv q ca cb hkey
        refine wpAnyH_takeD (some 163) (i := 0) (v := ?_) rfl rfl (by kernel_rfl) (by kernel_rfl) (by kernel_rfl) (fun _ _ _ h => h) (.inl ⟨by kernel_rfl, ?_⟩) hS0 ?_
        rotate_left
        · intro w' hw'; go_simp; try with_reducible rfl
        try simp only [Act.put, List.setIfInBounds_toArray, List.set_cons_zero, List.set_cons_succ]
        refine wpAnyH_takeD (some 164) (i := 1) (v := ?_) rfl rfl (by kernel_rfl) (by kernel_rfl) (by kernel_rfl) (fun _ _ _ h => h) (.inl ⟨by kernel_rfl, ?_⟩) hS0 ?_
        rotate_left
        · intro w' hw'; go_simp; try with_reducible rfl
        try simp only [Act.put, List.setIfInBounds_toArray, List.set_cons_zero, List.set_cons_succ]
        refine wpAnyH_takeD (some 166) (i := 3) (v := ?_) rfl rfl (by kernel_rfl) (by kernel_rfl) (by kernel_rfl) (fun _ _ _ h => h) (.inl ⟨by kernel_rfl, ?_⟩) hS0 ?_
        rotate_left
        · intro w' hw'; go_simp; try with_reducible rfl
        try simp only [Act.put, List.setIfInBounds_toArray, List.set_cons_zero, List.set_cons_succ]
        refine wpAnyH_takeD (some 167) (i := 4) (v := ?_) rfl rfl (by kernel_rfl) (by kernel_rfl) (by kernel_rfl) (fun _ _ _ h => h) (.inl ⟨by kernel_rfl, ?_⟩) hS0 ?_
        rotate_left
        · intro w' hw'; go_simp; try with_reducible rfl
        try simp only [Act.put, List.setIfInBounds_toArray, List.set_cons_zero, List.set_cons_succ]
        refine wpAnyH_takeD (some 168) (i := 5) (v := ?_) rfl rfl (by kernel_rfl) (by kernel_rfl) (by kernel_rfl) (fun _ _ _ h => h) (.inl ⟨by kernel_rfl, ?_⟩) hS0 ?_
        rotate_left
        · intro w' hw'; obtain ⟨g1, g2⟩ := hw'; go_simp; try with_reducible rfl
        try simp only [Act.put, List.setIfInBounds_toArray, List.set_cons_zero, List.set_cons_succ]
        refine wpAnyH_takeD (some 169) (i := 6) (v := ?_) rfl rfl (by kernel_rfl) (by kernel_rfl) (by kernel_rfl) (fun _ _ _ h => h) (.inl ⟨by kernel_rfl, ?_⟩) hS0 ?_
        rotate_left
        · intro w' hw'; obtain ⟨g1, g2⟩ := hw'; go_simp; try with_reducible rfl
        try simp only [Act.put, List.setIfInBounds_toArray, List.set_cons_zero, List.set_cons_succ]
        refine wpAnyH_takeD (some 170) (i := 7) (v := ?_) rfl rfl (by kernel_rfl) (by kernel_rfl) (by kernel_rfl) (fun _ _ _ h => h) (.inl ⟨by kernel_rfl, ?_⟩) hS0 ?_
        rotate_left
        · intro w' hw'; obtain ⟨g1, g2⟩ := hw'; go_simp; try with_reducible rfl
        try simp only [Act.put, List.setIfInBounds_toArray, List.set_cons_zero, List.set_cons_succ]
        refine wpAnyH_takeD (some 171) (i := 8) (v := ?_) rfl rfl (by kernel_rfl) (by kernel_rfl) (by kernel_rfl) (fun _ _ _ h => h) (.inl ⟨by kernel_rfl, ?_⟩) hS0 ?_
        rotate_left
        · intro w' hw'; go_simp; try with_reducible rfl
        try simp only [Act.put, List.setIfInBounds_toArray, List.set_cons_zero, List.set_cons_succ]
        refine wpAnyH_takeD (some 172) (i := 9) (v := ?_) rfl rfl (by kernel_rfl) (by kernel_rfl) (by kernel_rfl) (fun _ _ _ h => h) (.inl ⟨by kernel_rfl, ?_⟩) hS0 ?_
        rotate_left
        · intro w' hw'; go_simp; try with_reducible rfl
        try simp only [Act.put, List.setIfInBounds_toArray, List.set_cons_zero, List.set_cons_succ]
        refine wpAnyH_takeD (some 173) (i := 10) (v := ?_) rfl rfl (by kernel_rfl) (by kernel_rfl) (by kernel_rfl) (fun _ _ _ h => h) (.inl ⟨by kernel_rfl, ?_⟩) hS0 ?_
        rotate_left
        · intro w' hw'; go_simp; try with_reducible rfl
        try simp only [Act.put, List.setIfInBounds_toArray, List.set_cons_zero, List.set_cons_succ]
        refine wpAnyH_takeD (some 174) (i := 11) (v := ?_) rfl rfl (by kernel_rfl) (by kernel_rfl) (by kernel_rfl) (fun _ _ _ h => h) (.inl ⟨by kernel_rfl, ?_⟩) hS0 ?_
        rotate_left
        · intro w' hw'; obtain ⟨g1, g2⟩ := hw'; go_simp; try with_reducible rfl
        try simp only [Act.put, List.setIfInBounds_toArray, List.set_cons_zero, List.set_cons_succ]
        refine wpAnyH_takeD (some 175) (i := 12) (v := ?_) rfl rfl (by kernel_rfl) (by kernel_rfl) (by kernel_rfl) (fun _ _ _ h => h) (.inl ⟨by kernel_rfl, ?_⟩) hS0 ?_
        rotate_left
        · intro w' hw'; obtain ⟨g1, g2⟩ := hw'; go_simp; try with_reducible rfl
        try simp only [Act.put, List.setIfInBounds_toArray, List.set_cons_zero, List.set_cons_succ]
        refine wpAnyH_takeD (some 176) (i := 13) (v := ?_) rfl rfl (by kernel_rfl) (by kernel_rfl) (by kernel_rfl) (fun _ _ _ h => h) (.inl ⟨by kernel_rfl, ?_⟩) hS0 ?_
        rotate_left
        · intro w' hw'; obtain ⟨g1, g2⟩ := hw'; go_simp; try with_reducible rfl
        try simp only [Act.put, List.setIfInBounds_toArray, List.set_cons_zero, List.set_cons_succ]
        refine wpAnyH_takeD (some 177) (i := 14) (v := ?_) rfl rfl (by kernel_rfl) (by kernel_rfl) (by kernel_rfl) (fun _ _ _ h => h) (.inl ⟨by kernel_rfl, ?_⟩) hS0 ?_
        rotate_left
        · intro w' hw'; go_simp; try with_reducible rfl
        try simp only [Act.put, List.setIfInBounds_toArray, List.set_cons_zero, List.set_cons_succ]
        refine wpAnyH_all (rs := [2]) (by kernel_rfl) (by simp) ?_
        intro i hi; simp only [List.mem_cons, List.not_mem_nil, or_false] at hi
        subst hi
        refine wpOp_step rfl (fun K hK => ?_)
        go_simp
        with_reducible refine AH.out.mono ?_
        rintro e w4 ⟨rfl, hw⟩
        subst hw
        refine hK _ _ ⟨hS0, ?_⟩
        try simp only [Act.put, List.setIfInBounds_toArray, List.set_cons_zero, List.set_cons_succ]
        clear hK K
        refine wpAnyH_takeD (some 178) (i := 15) (v := ?_) rfl rfl (by kernel_rfl) (by kernel_rfl) (by kernel_rfl) (fun _ _ _ h => h) (.inl ⟨by kernel_rfl, ?_⟩) hS0 ?_
        rotate_left
        · intro w' hw'; go_simp; try with_reducible rfl
        try simp only [Act.put, List.setIfInBounds_toArray, List.set_cons_zero, List.set_cons_succ]
        refine wpAnyH_done (by kernel_rfl) ?_ _
        clear hS0
        go_wp2_with fail
        go_roundw
        case rel => exact ⟨k + 1, .inl (by omega), by first | rfl | exact congrArg (Value.int .i64) (by omega) | (simp [← hc]; exact congrArg (Value.int .i64) (by omega)), QX2.out⟩
        case measure => simp [intOf]; omega
      · have hge : ¬ ((k + 1 : Nat) : Int) < (n : Int) := by omega
        have QE := hid (QD.out.trans (q.mono QD.out.size))
        clear q hk1 HO ES
        have BE := hid (B2.out.trans (QE.out.mono B2.out.size))
        have HSI := hid (fun (wl : Nat) W (s : Stk W B Z) (r : Rst W g js) => implStuck_any B nz nz Z HNZ.out.symm g n cp js HNJ.out.symm (wl : Int) W s r (Nat.le_refl _) HCP.out)
        have HSS := hid (fun (wl : Nat) W (s : Stk W B Z) (r : Rst W g js) => specStuck_any B nz nz Z HNZ.out.symm g n cp js HNJ.out.symm (wl : Int) W s r (Nat.le_refl _))
        go_wp2_with fail
        with_reducible refine (AT1.out (nz : Int) wr (H2.out.below BE.out (Nat.le_refl _)) (by have h1 := HZL.out; have h2 := HNZ.out; omega)).mono ?_
        rintro e W2 ⟨t, t0, t1, rfl, hw⟩
        subst hw
        obtain ⟨wl, rfl⟩ : ∃ wl : Nat, t = wl := ⟨t.toNat, by omega⟩
        have hwl : wl < Z.length := by have := HNZ.out; omega
        have HWL := hid hwl
        rcases stuckR_or HG.out hwl with hR | ⟨hR, hs⟩
        · have HSI := hid (HSI.out wl); have HSS := hid (HSS.out wl)
          rw [hR] at HSI HSS
          have HSI := hid (fun W s r => show Calls Try.prog 12 #[.slice (some ⟨B, 0, none⟩) nz nz, .slice (some ⟨g, 0, none⟩) n cp, .int .i64 (wl : Int)] W (GivesB W (.tuple #[.int .i64 0, .int .i64 6])) from HSI.out W s r)
          have HSS := hid (fun W s r => show Calls Try.prog 13 #[.slice (some ⟨B, 0, none⟩) nz nz, .slice (some ⟨g, 0, none⟩) n cp, .int .i64 (wl : Int)] W (GivesB W (.tuple #[.int .i64 0, .int .i64 6])) from HSS.out W s r)
          clear hR t0 t1 hwl hge hlt
          go_wp2_with fail
          with_reducible refine (HSI.out wr (HST.out.below QE.out HLT.out.1) (HRS.out.below QE.out HLT.out.2)).mono ?_
          rintro e wF ⟨rfl, hB⟩
          have QF := hid (QE.out.trans (hB.mono QE.out.size))
          clear hB
          go_wp2_with fail
          with_reducible refine (HSS.out wF (HST.out.below QF.out HLT.out.1) (HRS.out.below QF.out HLT.out.2)).mono ?_
          rintro e wG ⟨rfl, hB⟩
          have QG := hid (QF.out.trans (hB.mono QF.out.size))
          clear hB
          go_wp2_with fail
          go_ret
          exact ⟨rfl, B2.out.trans (QG.out.mono B2.out.size)⟩
        · obtain ⟨s, hss⟩ : ∃ s, sinceN Z js wl = s := ⟨_, rfl⟩
          have HSI := hid (HSI.out wl); have HSS := hid (HSS.out wl)
          have ALL := hid (fun i (h1 : sinceN Z js wl ≤ i) (h2 : i < js.length) => since_all h1 h2)
          rw [hR] at HSI HSS
          rw [hss] at HSI HSS hs ALL
          rw [HNJ.out] at hs ALL
          have HSI := hid (fun W s' r => show Calls Try.prog 12 #[.slice (some ⟨B, 0, none⟩) nz nz, .slice (some ⟨g, 0, none⟩) n cp, .int .i64 (wl : Int)] W (GivesB W (.tuple #[.int .i64 (s : Int), .int .i64 0])) from HSI.out W s' r)
          have HSS := hid (fun W s' r => show Calls Try.prog 13 #[.slice (some ⟨B, 0, none⟩) nz nz, .slice (some ⟨g, 0, none⟩) n cp, .int .i64 (wl : Int)] W (GivesB W (.tuple #[.int .i64 (s : Int), .int .i64 0])) from HSS.out W s' r)
          clear hR t0 t1 hwl hge hlt hss
          obtain ⟨m, hm⟩ : ∃ m, n = m + 1 := ⟨n - 1, by omega⟩
          have ess : ((s : Int) != (s : Int)) = false := by simp
          have wm : IntKind.i64.wrap ((n : Int) - 1) = (m : Int) := by rw [IntWalk.i64_in _ (by omega)]; omega
          have hm0 : (0 : Int) ≤ (m : Int) := by omega
          have hmn : (m : Int) < (n : Int) := by omega
          have hs0 : (0 : Int) ≤ (s : Int) := by omega
          have hsm : (s : Int) < (m : Int) := by omega
          have w80 : (0 : Int) ≤ (wl : Int) := by omega
          have w88 : (wl : Int) < 8 := by have h1 := HWL.out; have h2 := HZL.out; omega
          have HDG := hid (fun i (hi : i < n) W (h : Stk W B Z) => show Calls Try.prog 14 #[.slice (some ⟨B, 0, none⟩) nz nz, .int .i64 (rv js i)] W (GivesB W (.tuple #[.agg #[.int .u8 (dg (dgL Z (rv js i)) 0), .int .u8 (dg (dgL Z (rv js i)) 1), .int .u8 (dg (dgL Z (rv js i)) 2), .int .u8 (dg (dgL Z (rv js i)) 3), .int .u8 (dg (dgL Z (rv js i)) 4), .int .u8 (dg (dgL Z (rv js i)) 5), .int .u8 (dg (dgL Z (rv js i)) 6), .int .u8 (dg (dgL Z (rv js i)) 7)], .int .i64 0])) from by
            have h1 := okRd_out ((okG_out HG.out).2.2.1 i (by rw [HNJ.out]; exact hi))
            have := specDigitsOf_any B nz nz Z (rv js i) W h HNZ.out.symm (Nat.le_refl _)
            rw [dofR_yes (rv js i) HOK.out (by omega)] at this
            exact this)
          obtain ⟨DM, hDM⟩ : ∃ d, dgJ Z js wl (n - 1) = d := ⟨_, rfl⟩
          rw [hDM] at ALL
          have HDM := hid hDM
          have eDM : (DM != DM) = false := by simp
          have DGE := hid (fun i (h1 : s ≤ i) (h2 : i < n) => show dg (dgL Z (rv js i)) wl = DM from by
            rw [dg_is HWL.out (by have := HZL.out; omega)]
            exact ALL.out i h1 h2)
          have HSM := hid (show s < m by omega); have HM := hid hm
          clear hs hm ALL hDM
          go_wp2_with fail
          with_reducible refine (HSI.out wr (HST.out.below QE.out HLT.out.1) (HRS.out.below QE.out HLT.out.2)).mono ?_
          rintro e wF ⟨rfl, hB⟩
          have QF := hid (QE.out.trans (hB.mono QE.out.size))
          clear hB
          go_wp2_with fail
          with_reducible refine (HSS.out wF (HST.out.below QF.out HLT.out.1) (HRS.out.below QF.out HLT.out.2)).mono ?_
          rintro e wG ⟨rfl, hB⟩
          have QG := hid (QF.out.trans (hB.mono QF.out.size))
          clear hB
          have cm := ((HRS.out.below QG.out HLT.out.2).2.1 m (by rw [HNJ.out]; have := HM.out; omega)).2
          clear HSI HSS BE
          go_wp2_with fail
          with_reducible refine (HDG.out m (by have := HM.out; omega) wG (HST.out.below QG.out HLT.out.1)).mono ?_
          rintro e wH ⟨rfl, hB⟩
          have QH := hid (QG.out.trans (hB.mono QG.out.size))
          clear hB cm
          have rA := Row.new wH 43 [.int .u8 (dg (dgL Z (rv js m)) 0), .int .u8 (dg (dgL Z (rv js m)) 1), .int .u8 (dg (dgL Z (rv js m)) 2), .int .u8 (dg (dgL Z (rv js m)) 3), .int .u8 (dg (dgL Z (rv js m)) 4), .int .u8 (dg (dgL Z (rv js m)) 5), .int .u8 (dg (dgL Z (rv js m)) 6), .int .u8 (dg (dgL Z (rv js m)) 7)]
          have bA : Below wH.heap.size wH (wH.alloc (.cells #[.int .u8 (dg (dgL Z (rv js m)) 0), .int .u8 (dg (dgL Z (rv js m)) 1), .int .u8 (dg (dgL Z (rv js m)) 2), .int .u8 (dg (dgL Z (rv js m)) 3), .int .u8 (dg (dgL Z (rv js m)) 4), .int .u8 (dg (dgL Z (rv js m)) 5), .int .u8 (dg (dgL Z (rv js m)) 6), .int .u8 (dg (dgL Z (rv js m)) 7)] 43)) := (Below.refl _ _).alloc (Nat.le_refl _) _
          have q4 := QH.out.trans (bA.mono QH.out.size)
          obtain ⟨RA, hRA⟩ : ∃ y, wH.heap.size = y := ⟨_, rfl⟩
          obtain ⟨V8, hV8⟩ : ∃ y, y = wH.alloc (.cells #[.int .u8 (dg (dgL Z (rv js m)) 0), .int .u8 (dg (dgL Z (rv js m)) 1), .int .u8 (dg (dgL Z (rv js m)) 2), .int .u8 (dg (dgL Z (rv js m)) 3), .int .u8 (dg (dgL Z (rv js m)) 4), .int .u8 (dg (dgL Z (rv js m)) 5), .int .u8 (dg (dgL Z (rv js m)) 6), .int .u8 (dg (dgL Z (rv js m)) 7)] 43) := ⟨_, rfl⟩
          rw [← hV8] at rA q4
          rw [hRA] at rA
          have HRA := hid rA; have Q8 := hid q4; have HVV8 := hid hV8; have HGRA := hid hRA
          clear rA bA q4 hRA hV8
          go_upto_region 36 with fail
          rw [← HVV8.out, HGRA.out]
          go_upto_region 37 with fail
          go_loopw [30] (fun s30 wr => ∃ i : Nat, s ≤ i ∧ i ≤ n ∧ s30 = .int .i64 (i : Int) ∧ Below V8.heap.size V8 wr) (fun i _ => n - (intOf i).toNat)
          case atStart => exact ⟨s, Nat.le_refl _, by have h1 := HSM.out; have h2 := HM.out; omega, rfl, Below.refl _ _⟩
          case round =>
            obtain ⟨i, hi1, hi2, rfl, p⟩ := hrel
            by_cases hlt : i < n
            · have hlt' : (i : Int) < (n : Int) := by omega
              have hi0 : (0 : Int) ≤ (i : Int) := by omega
              have wi : IntKind.i64.wrap ((i : Int) + 1) = ((i + 1 : Nat) : Int) := by rw [IntWalk.i64_in _ (by omega)]; omega
              have QI := hid (Q8.out.trans (p.mono Q8.out.size))
              have ci := ((HRS.out.below QI.out HLT.out.2).2.1 i (by rw [HNJ.out]; exact hlt)).2
              have HP := hid p
              clear p
              go_wp2_with fail
              with_reducible refine (HDG.out i hlt wr (HST.out.below QI.out HLT.out.1)).mono ?_
              rintro e wJ ⟨rfl, hB⟩
              have PJ := hid (HP.out.trans (hB.mono HP.out.size))
              clear hB ci
              have rA := Row.new wJ 43 [.int .u8 (dg (dgL Z (rv js i)) 0), .int .u8 (dg (dgL Z (rv js i)) 1), .int .u8 (dg (dgL Z (rv js i)) 2), .int .u8 (dg (dgL Z (rv js i)) 3), .int .u8 (dg (dgL Z (rv js i)) 4), .int .u8 (dg (dgL Z (rv js i)) 5), .int .u8 (dg (dgL Z (rv js i)) 6), .int .u8 (dg (dgL Z (rv js i)) 7)]
              have bA : Below wJ.heap.size wJ (wJ.alloc (.cells #[.int .u8 (dg (dgL Z (rv js i)) 0), .int .u8 (dg (dgL Z (rv js i)) 1), .int .u8 (dg (dgL Z (rv js i)) 2), .int .u8 (dg (dgL Z (rv js i)) 3), .int .u8 (dg (dgL Z (rv js i)) 4), .int .u8 (dg (dgL Z (rv js i)) 5), .int .u8 (dg (dgL Z (rv js i)) 6), .int .u8 (dg (dgL Z (rv js i)) 7)] 43)) := (Below.refl _ _).alloc (Nat.le_refl _) _
              have q4 := PJ.out.trans (bA.mono PJ.out.size)
              obtain ⟨RB, hRB⟩ : ∃ y, wJ.heap.size = y := ⟨_, rfl⟩
              obtain ⟨VK, hVK⟩ : ∃ y, y = wJ.alloc (.cells #[.int .u8 (dg (dgL Z (rv js i)) 0), .int .u8 (dg (dgL Z (rv js i)) 1), .int .u8 (dg (dgL Z (rv js i)) 2), .int .u8 (dg (dgL Z (rv js i)) 3), .int .u8 (dg (dgL Z (rv js i)) 4), .int .u8 (dg (dgL Z (rv js i)) 5), .int .u8 (dg (dgL Z (rv js i)) 6), .int .u8 (dg (dgL Z (rv js i)) 7)] 43) := ⟨_, rfl⟩
              rw [← hVK] at rA q4
              rw [hRB] at rA
              have HRB := hid rA; have PK := hid q4; have HVVK := hid hVK; have HGRB := hid hRB
              clear rA bA q4 hRB hVK
              go_upto_region 40 with fail
              rw [← HVVK.out, HGRB.out]
              have cA := row_dg (HRA.out.below PK.out HRA.out.lt) wl (by omega)
              have cB := row_dg HRB.out wl (by omega)
              rw [DGE.out m (by have := HSM.out; omega) (by have := HM.out; omega)] at cA
              rw [DGE.out i hi1 hlt] at cB
              go_quiet (fail)
              obtain ⟨VL, hVL⟩ : ∃ X, X = VK.drewN nq := ⟨_, rfl⟩
              have PL := hid (show Below V8.heap.size V8 VL by rw [hVL]; exact below_drewN PK.out _)
              rw [← hVL]
              clear hVL cA cB
              go_wp2_with fail
              go_roundw
              case rel => exact ⟨i + 1, by omega, by omega, rfl, PL.out⟩
              case measure => simp [intOf]; omega
            · have hge : ¬ (i : Int) < (n : Int) := by omega
              have HP := hid p
              clear p
              go_wp2_with fail
              go_ret
              exact ⟨rfl, B2.out.trans ((Q8.out.trans (HP.out.mono Q8.out.size)).mono B2.out.size)⟩
set_option maxRecDepth 100000 in
set_option maxHeartbeats 1000000 in
theorem law_FnTight (a : Option Addr) (len cap : Nat) (zs : List Int) (a' : Option Addr) (len' cap' : Nat) (zs' : List Int) (w : World) (h : InB w a len zs) (h' : InB w a' len' zs') :
    Calls Try.prog 3 #[.slice a len cap, .slice a' len' cap'] w fun e w' => e = .returned (.bool true) ∧ Below w.heap.size w w' := by
  by_cases hl : len ≤ 3000 ∧ len' ≤ 3000
  · exact law_FnTight_in a len cap zs a' len' cap' zs' w h h' hl.1 hl.2
  · have F1 := hid (a2Long_yes a len cap a' len' cap' w (by omega))
    clear h h' hl
    go_enter Try.func3, Try.ntmps3
    go_wp2_with fail
    with_reducible refine F1.out.mono ?_
    rintro e w1 ⟨rfl, hw⟩
    subst hw
    go_wp2_with fail
    go_ret
    exact ⟨rfl, Below.refl _ _⟩
end Go.Proofs.Ytofpgkbcodopiaa
