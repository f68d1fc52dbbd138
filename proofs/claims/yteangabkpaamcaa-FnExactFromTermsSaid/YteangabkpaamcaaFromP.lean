/- FromTerms: the program's. -/
import Derived.Test.YteangabkpaamcaaFromI
import Derived.Test.YteangabkpaamcaaMade
namespace Go.Proofs.Yteangabkpaamcaa
open Go.RowKit
theorem fromR_no {zs : List Int} (h : okF zs = false) : fromR zs = ((0, 0), 2) := by simp [fromR, h]
theorem fromR_far {zs : List Int} (h : okF zs = true) (k : inF zs = false) : fromR zs = ((0, 0), 3) := by simp [fromR, h, k]
theorem fromR_yes {zs : List Int} (h : okF zs = true) (k : inF zs = true) : fromR zs = (((fP zs zs.length).2, (fQ zs zs.length).2), 0) := by simp [fromR, h, k]
set_option maxRecDepth 100000 in
set_option maxHeartbeats 4000000 in
theorem implFromTerms_any (b n cap : Nat) (zs : List Int) (w : World) (hS : Lst w b zs) (hn : n = zs.length) :
    Calls Try.prog 25 #[.slice (some ⟨b, 0, none⟩) n cap] w (GivesB w (pairV (fromR zs))) := by
  have bE := hid (box2_bel w 24 (.int .i64 0) (.int .i64 0))
  have q0 := hid (nilpair_new w 24 (.int .i64 0) (.int .i64 0))
  have L1 := hid (hS.below bE.out hS.1)
  have HV := hid (validTerms_any b n cap zs (w.alloc (.cells #[.int .i64 0, .int .i64 0] 24)) L1.out hn)
  cases hk : okF zs with
  | false =>
    rw [fromR_no hk]
    rw [hk] at HV
    unfold pairV
    clear hk hS hn
    go_enter Try.func25, Try.ntmps25
    go_wp2_with fail
    refine HV.out.mono ?_
    rintro e w1 ⟨rfl, rfl⟩
    go_wp2_with fail
    exact bodyPost_ret (v := .tuple #[.agg #[.int .i64 0, .int .i64 0], .int .i64 2]) (by simp [results, Try.results25, go_sem]) rfl ⟨rfl, bE.out⟩
  | true =>
    obtain ⟨⟨l1, l2⟩, hz⟩ := okF_out hk
    have HF := hid (firstRatios_any b n cap zs (w.alloc (.cells #[.int .i64 0, .int .i64 0] 24)) L1.out hn (by omega) (by omega) (by rw [hn]; exact hz))
    rw [hk] at HV
    have HK := hid hk
    have HN := hid hn
    have HL := hid l2
    clear hk hS hn hz l2
    go_enter Try.func25, Try.ntmps25
    go_wp2_with fail
    refine HV.out.mono ?_
    rintro e w1 ⟨rfl, rfl⟩
    go_wp2_with fail
    refine HF.out.mono ?_
    rintro e w1 ⟨hB, h⟩
    have Q0 := hid (q0.out.below hB (by simp))
    have bE2 := hid (bE.out.trans (hB.mono (by simp)))
    clear hB
    rcases h with ⟨hin, g, cap', rfl, g0, g1, hg⟩ | ⟨hin, v, rfl⟩
    · have HR := hid (fromR_yes HK.out hin)
      obtain ⟨m, hm⟩ : ∃ m, n = m + 1 := ⟨n - 1, by have := HN.out; omega⟩
      have HM := hid (show zs.length = m + 1 from by rw [← HN.out]; exact hm)
      subst hm
      obtain ⟨x, hx⟩ : ∃ x, (fP zs (m + 1)).2 = x := ⟨_, rfl⟩
      obtain ⟨y, hy⟩ : ∃ x, (fQ zs (m + 1)).2 = x := ⟨_, rfl⟩
      rw [hx] at g0
      rw [hy] at g1
      rw [HM.out, hx, hy] at HR
      have HP := hid (show pairV (fromR zs) = .tuple #[.agg #[.int .i64 x, .int .i64 y], .int .i64 0] by rw [HR.out]; rfl)
      simp only [Nat.add_sub_cancel] at g0 g1
      have hm60 : m ≤ 60 := by have := HL.out; have := HM.out; omega
      clear hin HR HK HN hx hy HF HV L1 q0 bE
      have e1 : ((m + 1 : Nat) : Int) - 1 = (m : Int) := by omega
      have e2 : IntKind.i64.wrap (m : Int) = (m : Int) := IntWalk.i64_in _ (by omega)
      have d0 := Q0.out.cell 0
      have d1 := Q0.out.cell 1
      have f0 := Q0.out.frozen 0
      have f1 := Q0.out.frozen 1
      simp only [List.getElem?_cons_zero, List.getElem?_cons_succ] at d0 d1
      have P := hid (pair_again (.int .i64 x) (.int .i64 y) Q0.out)
      clear Q0
      go_wp2_with fail
      obtain ⟨V, hV⟩ : ∃ V, V = (w1.setCell ⟨w.heap.size, 0, none⟩ (.int .i64 x)).setCell ⟨w.heap.size, 1, none⟩ (.int .i64 y) := ⟨_, rfl⟩
      obtain ⟨rV, bV, _⟩ := P.out V hV
      rw [← hV]
      clear hV d0 d1 f0 f1
      have k0 := rV.cell 0
      have k1 := rV.cell 1
      simp only [List.getElem?_cons_zero, List.getElem?_cons_succ] at k0 k1
      exact bodyPost_ret (v := .tuple #[.agg #[.int .i64 x, .int .i64 y], .int .i64 0]) (by simp [results, Try.results25, go_sem, k0, k1]) rfl ⟨by rw [HP.out], bE2.out.trans (bV _ (Nat.le_refl _))⟩
    · have HP := hid (show pairV (fromR zs) = .tuple #[.agg #[.int .i64 0, .int .i64 0], .int .i64 3] by rw [fromR_far HK.out hin]; rfl)
      clear hin HK HN HF HV L1 q0 bE
      have d0 := Q0.out.cell 0
      have d1 := Q0.out.cell 1
      have f0 := Q0.out.frozen 0
      have f1 := Q0.out.frozen 1
      simp only [List.getElem?_cons_zero, List.getElem?_cons_succ] at d0 d1
      have P := hid (pair_again (.int .i64 0) (.int .i64 0) Q0.out)
      clear Q0
      go_wp2_with fail
      obtain ⟨V, hV⟩ : ∃ V, V = (w1.setCell ⟨w.heap.size, 0, none⟩ (.int .i64 0)).setCell ⟨w.heap.size, 1, none⟩ (.int .i64 0) := ⟨_, rfl⟩
      obtain ⟨rV, bV, _⟩ := P.out V hV
      rw [← hV]
      clear hV d0 d1 f0 f1
      have k0 := rV.cell 0
      have k1 := rV.cell 1
      simp only [List.getElem?_cons_zero, List.getElem?_cons_succ] at k0 k1
      exact bodyPost_ret (v := .tuple #[.agg #[.int .i64 0, .int .i64 0], .int .i64 3]) (by simp [results, Try.results25, go_sem, k0, k1]) rfl ⟨by rw [HP.out], bE2.out.trans (bV _ (Nat.le_refl _))⟩
end Go.Proofs.Yteangabkpaamcaa
