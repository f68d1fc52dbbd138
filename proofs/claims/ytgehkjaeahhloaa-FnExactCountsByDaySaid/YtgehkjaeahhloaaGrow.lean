/- What grows from day to day; the list that a call makes of it. -/
import Derived.Test.YtgehkjaeahhloaaMetC
import Derived.Test.YtgehkjaeahhloaaTerms
namespace Go.Proofs.Ytgehkjaeahhloaa
open Go.RowKit
set_option linter.unusedVariables false
def grL (f : Int → Int) (low : Int) (k : Nat) : List Int := (List.range k).map fun (j : Nat) => f (low + j + 1) - f (low + j)
theorem grL_len (f : Int → Int) (low : Int) (k : Nat) : (grL f low k).length = k := by simp [grL]
theorem grL_succ (f : Int → Int) (low : Int) (k : Nat) : grL f low (k + 1) = grL f low k ++ [f (low + k + 1) - f (low + k)] := by simp [grL, List.range_succ]
def GrowR (w : World) (zs : List Int) (e : Ending) (w' : World) : Prop := ∃ v, e = .returned v ∧ OwnI w' w.heap.size v zs ∧ Below w.heap.size w w'
set_option maxRecDepth 100000 in
set_option maxHeartbeats 2000000 in
theorem growthP_any (f : Int → Int) (P Q : Int) (low high : Int) (h0 : 0 ≤ low ∧ low ≤ 1000000) (h1 : high ≤ 1000000) (hf : ∀ a, low ≤ a → a < high → 0 ≤ f a ∧ f a ≤ 1000000000000000) (w : World)
    (HF : ∀ a, low ≤ a → a < high → ∀ w', Below w.heap.size w w' → Calls Try.prog 60 #[.agg #[.int .i64 P, .int .i64 Q], .int .i64 a] w' (GivesB w' (.int .i64 (f a)))) :
    Calls Try.prog 85 #[.agg #[.int .i64 low, .int .i64 high], .func (.func 60) #[.agg #[.int .i64 P, .int .i64 Q]] #[]] w (GrowR w (grL f low (high - 1 - low).toNat)) := by
  obtain ⟨i0, hi, iz0, iz1, iz2⟩ := info_parts Try.infoI64'
  obtain ⟨W, hW⟩ : ∃ W, W = w.alloc (.cells #[.int .i64 low, .int .i64 high] 91) := ⟨_, rfl⟩
  have b0 : Below w.heap.size w W := by rw [hW]; exact box2_bel _ _ _ _
  have r0 : Row W w.heap.size 91 [.int .i64 low, .int .i64 high] := by rw [hW]; exact Row.new _ _ _
  have R0 := hid r0
  have B0 := hid b0
  have HW := hid hW
  have HHF := hid HF
  have Hf := hid hf
  have k0 := r0.cell 0
  simp only [List.getElem?_cons_zero] at k0
  clear r0 b0 hW HF hf
  go_enter Try.func85, Try.ntmps85
  go_wp2_with fail
  rw [← HW.out]
  go_loopw [5, 6] (fun v s wr => ∃ k : Nat, s = .int .i64 (low + k) ∧ (k = 0 ∨ low + k < high) ∧ Row wr w.heap.size 91 [.int .i64 low, .int .i64 high] ∧ wr.ownsRow w.heap.size 2 1 v k ((grL f low k).map (Value.int .i64)) ∧ Below w.heap.size w wr) (fun _ s _ => (high - intOf s).toNat)
  case atStart => exact ⟨0, by simp, .inl rfl, R0.out, World.ownsRow_nil _ _ _ _, B0.out⟩
  case round =>
    clear k0
    obtain ⟨k, rfl, hk, hrow, hown, hB⟩ := hrel
    have hzr := hB.size
    have HO := hid hown
    have HR := hid hrow
    have HB := hid hB
    have c0 := hrow.cell 0
    have c1 := hrow.cell 1
    simp only [List.getElem?_cons_zero, List.getElem?_cons_succ] at c0 c1
    have HK := hid hk
    have HKB := hid (show (k : Int) ≤ 1000000 by omega)
    clear hown hrow hB
    obtain ⟨a, ha⟩ : ∃ a, low + (k : Int) = a := ⟨_, rfl⟩
    rw [ha]
    have ta : IntKind.i64.wrap (a + 1) = a + 1 := IntWalk.i64_in _ (by omega)
    have HA := hid ha
    clear ha hk
    by_cases hlt : a + 1 < high
    · have F1 := hid (HHF.out (a + 1) (by have := HA.out; omega) hlt)
      have F0 := hid (HHF.out a (by have := HA.out; omega) (by omega))
      have b1 := Hf.out (a + 1) (by have := HA.out; omega) hlt
      have b2 := Hf.out a (by have := HA.out; omega) (by omega)
      have HS := hid (show grL f low (k + 1) = grL f low k ++ [f (a + 1) - f a] by rw [grL_succ, HA.out])
      obtain ⟨x, hx⟩ : ∃ x, f (a + 1) = x := ⟨_, rfl⟩
      obtain ⟨y, hy⟩ : ∃ x, f a = x := ⟨_, rfl⟩
      rw [hx] at F1 b1 HS
      rw [hy] at F0 b2 HS
      obtain ⟨t, ht⟩ : ∃ t, x - y = t := ⟨_, rfl⟩
      rw [ht] at HS
      have t1 : IntKind.i64.wrap t = t := IntWalk.i64_in _ (by omega)
      have HL := hid hlt
      clear hx hy b1 b2
      go_wp2_with fail
      refine (F1.out _ HB.out).mono ?_
      rintro e w1 ⟨rfl, hB1⟩
      have B1 := hid (HB.out.trans (hB1.mono hzr))
      have O1 := hid (owns_below HO.out hB1)
      have R1 := hid (HR.out.below hB1 HR.out.lt)
      clear c0 c1 hB1
      go_wp2_with fail
      refine (F0.out _ B1.out).mono ?_
      rintro e w3 ⟨rfl, hB3⟩
      have hz3 := hB3.size
      have hz1 := B1.out.size
      have HB1 := hid ((B1.out.trans (hB3.mono hz1)).alloc (by omega) (.cells #[.int .i64 t] 2))
      have HO1 := hid ((owns_below O1.out hB3).alloc (.cells #[.int .i64 t] 2))
      have HR1 := hid ((R1.out.below hB3 R1.out.lt).alloc (.cells #[.int .i64 t] 2))
      have news := Row.new w3 2 [.int .i64 t]
      have nc := news.cell 0
      simp only [List.getElem?_cons_zero] at nc
      clear news hB3
      have KB := HKB.out
      go_upto_region 4 with (at_builtin; refine wpList_append_own _ rfl _ _ 69 rfl w.heap.size 2 i0 (.int .i64 0) 1 8 Try.underlying69 hi iz0 iz1 iz2 rfl (by decide) _ _ _ rfl HO1.out ⟨w3.heap.size, 0, none⟩ 1 1 [.int .i64 t] rfl rfl (by intro j u hj; match j, hj with | 0, hj => simp at hj; subst hj; simp [Addr.add, nc]) (by intro u hu; simp at hu; subst hu; rfl) (by unfold maxLen; omega) (by omega) (by simp; omega) ?_; intro v' w2 hown' hgrow _)
      have hg2 : (w3.alloc (.cells #[.int .i64 t] 2)).grownBy w2 u5.ownBlock := hgrow
      have HR2 := hid (HR1.out.grown hg2 (own_type HO1.out HR1.out (by decide)))
      have HB2 := hid (HB1.out.grown hg2 (by simp; omega) (fun k e => by have := (HO1.out.lt k e).1; omega))
      have hown2 := hid (show w2.ownsRow w.heap.size 2 1 v' (k + 1) ((grL f low (k + 1)).map (Value.int .i64)) by rw [HS.out, List.map_append]; exact hown')
      clear hown' hgrow hg2 nc HO1 HR1 HB1 ht
      go_wp2_with fail
      go_roundw
      case rel => exact ⟨k + 1, by have := HA.out; first | (congr 1; omega) | (congr 1; push_cast; omega), .inr (by have := HA.out; have := HL.out; omega), HR2.out, hown2.out, HB2.out⟩
      case measure => simp [intOf]; have := HL.out; omega
    · have e1 : (high - 1 - low).toNat = k := by have := HA.out; have := HK.out; omega
      have HE := hid e1
      clear e1
      go_wp2_with fail
      go_ret
      exact ⟨_, rfl, by rw [HE.out]; exact OwnI.of_owns (n := k) HO.out (by rw [grL_len]; have := HKB.out; omega), HB.out⟩
end Go.Proofs.Ytgehkjaeahhloaa
