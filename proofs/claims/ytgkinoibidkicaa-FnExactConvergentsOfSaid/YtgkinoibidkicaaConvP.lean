/- ConvergentsOf: the program's and the model's. -/
import Derived.Test.YtgkinoibidkicaaConvS
import Derived.Test.YtgkinoibidkicaaTerms
import Derived.Test.YtgkinoibidkicaaOwnV
namespace Go.Proofs.Ytgkinoibidkicaa
open Go.RowKit
/-- ratios in memory of their own, and a code -/
def CnvR (w : World) (r : List (Int × Int) × Int) (e : Ending) (w' : World) : Prop := ∃ v, e = .returned (.tuple #[v, .int .i64 r.2]) ∧ OwnV w' w.heap.size v r.1 ∧ Below w.heap.size w w'
theorem OwnI.open1 {w : World} {base : Nat} {v : Value} {zs : List Int} (h : OwnI w base v zs) (h1 : 1 ≤ zs.length) : ∃ g cap, v = .slice (some ⟨g, 0, none⟩) zs.length cap ∧ g < w.heap.size ∧ ∀ j, j < zs.length → w.cell? ⟨g, j, none⟩ = some (.int .i64 (zs[j]?.getD 0)) := by
  obtain ⟨a, cap, rfl, hl, h0 | ⟨g, rest, rfl, hg, hr⟩⟩ := h
  · rw [h0] at h1; simp at h1
  · exact ⟨g, cap, rfl, hr.lt, fun j hj => OwnI.cell hr j hj⟩
theorem tvals_first (zs : List Int) (m : Nat) : tvals (convL zs (m + 1)) = .int .i64 (zA zs 0) :: .int .i64 (fQ zs 1).2 :: tvals ((convL zs (m + 1)).drop 1) := by
  rw [convL_cons, tvals_cons, ← convL_cons, fP_one]
set_option maxRecDepth 100000 in
set_option maxHeartbeats 2000000 in
theorem implConv_any (p q : Int) (hp : I64 p) (hq : I64 q) (w : World) : Calls Try.prog 6 #[.agg #[.int .i64 p, .int .i64 q]] w (CnvR w (convR p q)) := by
  have bE := hid (box2_bel w 27 (.int .i64 p) (.int .i64 q))
  have Q0 := hid (Row.new w 27 [.int .i64 p, .int .i64 q])
  have HV := hid (fun w => implValidRatio_any p q hp hq w)
  cases hk : okR p q with
  | false =>
    rw [convR_no hk]
    rw [hk] at HV
    clear hk hp hq
    go_enter Try.func6, Try.ntmps6
    go_wp2_with fail
    refine (HV.out _).mono ?_
    rintro e w1 ⟨rfl, hB1⟩
    simp only [World.size_alloc] at hB1
    have b1 := hid (bE.out.trans (hB1.mono (by omega)))
    clear hB1
    go_wp2_with fail
    go_ret2
    exact ⟨_, rfl, OwnV.nil _ _ _ _, b1.out⟩
  | true =>
    rw [hk] at HV
    have HK := hid hk
    obtain ⟨a1, a2, a3, a4, _⟩ := okR_out hk
    obtain ⟨⟨n1, n2⟩, fz, fi, f0, f2⟩ := conv_facts hk
    have HT := hid (fun w => terms_any p q ⟨a1, a2⟩ ⟨a3, a4⟩ w)
    have HF := hid (fun b cap w h1 h2 => convs_any b (termsL p q).length cap (termsL p q) w h1 h2 rfl n1 n2 fz)
    have HI := hid (inF_yes fi)
    have N1 := hid n1
    have N2 := hid f2
    have F0 := hid f0
    obtain ⟨m, hm⟩ : ∃ m, (termsL p q).length = m + 1 := ⟨(termsL p q).length - 1, by omega⟩
    have HM := hid hm
    have hm9 : m ≤ 1000000000 := by omega
    have HM9 := hid (show m + 1 ≤ 1000000000 by omega)
    clear hk hp hq a1 a2 a3 a4 n1 n2 fz fi f0 f2
    go_enter Try.func6, Try.ntmps6
    go_wp2_with fail
    refine (HV.out _).mono ?_
    rintro e w1 ⟨rfl, hB1⟩
    simp only [World.size_alloc] at hB1
    have b1 := hid (bE.out.trans (hB1.mono (by omega)))
    have hz1 := b1.out.size
    have r1 := Q0.out.below hB1 (by omega)
    have c0 := r1.cell 0
    have c1 := r1.cell 1
    simp only [List.getElem?_cons_zero, List.getElem?_cons_succ] at c0 c1
    clear hB1 r1 hm
    go_wp2_with fail
    refine (HT.out _).mono ?_
    rintro e w2 ⟨v, rfl, hO, hB2⟩
    obtain ⟨g0, cap0, rfl, hg0, hc0⟩ := hO.open1 N1.out
    have HG0 := hid hg0
    have HC0 := hid hc0
    have b2 := hid (b1.out.trans (hB2.mono hz1))
    have hz2 := b2.out.size
    clear c0 c1 hO hB2 hg0 hc0
    go_wp2_with fail
    refine (HF.out _ _ _ HG0.out HC0.out).mono ?_
    rintro e w3 ⟨hB3, h3⟩
    rcases h3 with ⟨_, g, cap, rest, rfl, hg, hcap, hr⟩ | ⟨hno, _⟩
    rotate_left
    · rw [HI.out] at hno; cases hno
    have b3 := hid (b2.out.trans (hB3.mono hz2))
    have hgw : w.heap.size ≤ g := Nat.le_trans hz2 hg
    rw [HM.out] at hr hcap ⊢
    rw [tvals_first, F0.out] at hr
    have HR := hid hr
    have HG := hid hgw
    have x0 := hr.cell 0
    simp only [List.cons_append, List.getElem?_cons_zero] at x0
    have hmc : ((m + 1 : Nat) : Int) = (m : Int) + 1 := by omega
    have hcp : (m : Int) + 1 ≤ (cap : Int) := by omega
    clear hB3 hr hg hgw
    by_cases ht : p / q = 0
    · have HZ := hid ht
      have N22 := N2.out ht
      rw [ht] at x0
      have hm1 : 1 ≤ m := by have := HM.out; omega
      clear N2 ht
      go_wp2_with fail
      go_ret2
      rw [convR_zero HK.out HZ.out, HM.out]
      refine ⟨_, rfl, ⟨some ⟨g, 2, none⟩, cap - 1, ?_, by rw [List.length_drop, convL_len]; omega, .inr ⟨g, [.int .i64 (p / q), .int .i64 (fQ (termsL p q) 1).2], rest, rfl, HG.out, ?_⟩⟩, b3.out⟩
      · simp [List.length_drop, convL_len]
      · exact HR.out
    · have HZ := hid ht
      obtain ⟨t, hte⟩ : ∃ t, p / q = t := ⟨_, rfl⟩
      rw [hte] at x0 ht HR
      have ht2 : (t == 0) = false := by simp [ht]
      have HX := hid (show Row w3 g 27 (tvals (convL (termsL p q) (m + 1)) ++ rest) by rw [tvals_first, F0.out, hte]; exact HR.out)
      clear hte ht
      go_wp2_with fail
      go_ret2
      rw [convR_more HK.out HZ.out, HM.out]
      exact ⟨_, rfl, ⟨some ⟨g, 0, none⟩, cap, by rw [convL_len]; rfl, by rw [convL_len]; exact HM9.out, .inr ⟨g, [], rest, rfl, HG.out, HX.out⟩⟩, b3.out⟩
end Go.Proofs.Ytgkinoibidkicaa
