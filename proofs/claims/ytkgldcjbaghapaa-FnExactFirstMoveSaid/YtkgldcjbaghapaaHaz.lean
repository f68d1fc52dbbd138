/- Parts that are valid for a motion: the program's and the model's. -/
import Derived.Test.YtkgldcjbaghapaaMoOk
import Derived.Test.YtkgldcjbaghapaaDigits
import Derived.Test.YtkgldcjbaghapaaSizes
import Derived.Test.YtkgldcjbaghapaaLawsD
namespace Go.Proofs.Ytkgldcjbaghapaa
open Go.RowKit

def MoAt (w : World) (B b n cap g m cap' : Nat) (zs : List Int) (js : List (Int × Int)) : Prop :=
  Row w B 35 [.slice (some ⟨b, 0, none⟩) n cap, .slice (some ⟨g, 0, none⟩) m cap'] ∧ Stk w b zs ∧ Jst w g js
theorem MoAt.below {w w' : World} {B b n cap g m cap' k : Nat} {zs : List Int} {js : List (Int × Int)} (h : MoAt w B b n cap g m cap' zs js) (hb : Below k w w') (h1 : B < k) (h2 : b < k) (h3 : g < k) : MoAt w' B b n cap g m cap' zs js :=
  ⟨h.1.below hb h1, h.2.1.below hb h2, h.2.2.below hb h3⟩
theorem MoAt.keep {w w' : World} {B b n cap g m cap' : Nat} {zs : List Int} {js : List (Int × Int)} (h : MoAt w B b n cap g m cap' zs js) (hb : Below w.heap.size w w') : MoAt w' B b n cap g m cap' zs js :=
  h.below hb h.1.lt h.2.1.1 h.2.2.1
theorem MoAt.drewN {w : World} {B b n cap g m cap' : Nat} {zs : List Int} {js : List (Int × Int)} (h : MoAt w B b n cap g m cap' zs js) (d : Nat) : MoAt (w.drewN d) B b n cap g m cap' zs js :=
  h.keep (below_drewN (Below.refl _ _) d)
theorem MoAt.cells {w : World} {B b n cap g m cap' : Nat} {zs : List Int} {js : List (Int × Int)} (h : MoAt w B b n cap g m cap' zs js) : w.cell? ⟨B, 0, none⟩ = some (.slice (some ⟨b, 0, none⟩) n cap) ∧ w.cell? ⟨B, 1, none⟩ = some (.slice (some ⟨g, 0, none⟩) m cap') :=
  ⟨h.1.cell 0, h.1.cell 1⟩
theorem MoAt.new (w : World) (b n cap g m cap' : Nat) (zs : List Int) (js : List (Int × Int)) (hS : Stk w b zs) (hJ : Jst w g js) : MoAt (w.alloc (.cells #[.slice (some ⟨b, 0, none⟩) n cap, .slice (some ⟨g, 0, none⟩) m cap'] 35)) w.heap.size b n cap g m cap' zs js :=
  ⟨Row.new w 35 [.slice (some ⟨b, 0, none⟩) n cap, .slice (some ⟨g, 0, none⟩) m cap'], hS.below ((Below.refl _ w).alloc (Nat.le_refl _) _) hS.1, hJ.below ((Below.refl _ w).alloc (Nat.le_refl _) _) hJ.1⟩
def endP (zs : List Int) (k : Nat) : Int := if k < zs.length then zs[k]?.getD 0 * 1000 else 1
def okPs (zs ps : List Int) : Bool := (List.range 8).all fun k => decide (0 ≤ ps[k]?.getD 0) && decide (ps[k]?.getD 0 < endP zs k)
def okPTo (zs ps : List Int) (k : Nat) : Prop := ∀ j, j < k → 0 ≤ ps[j]?.getD 0 ∧ ps[j]?.getD 0 < endP zs j
theorem okPTo_zero (zs ps : List Int) : okPTo zs ps 0 := fun _ h => absurd h (Nat.not_lt_zero _)
theorem okPTo_succ {zs ps : List Int} {k : Nat} (h : okPTo zs ps k) (h1 : 0 ≤ ps[k]?.getD 0) (h2 : ps[k]?.getD 0 < endP zs k) : okPTo zs ps (k + 1) := fun j hj => by
  by_cases e : j = k
  · subst e; exact ⟨h1, h2⟩
  · exact h j (by omega)
theorem okPs_of {zs ps : List Int} (h : okPTo zs ps 8) : okPs zs ps = true := by
  simp only [okPs, List.all_eq_true, List.mem_range, Bool.and_eq_true, decide_eq_true_eq]
  exact h
theorem okPs_out {zs ps : List Int} (h : okPs zs ps = true) (k : Nat) (hk : k < 8) : 0 ≤ ps[k]?.getD 0 ∧ ps[k]?.getD 0 < endP zs k := by
  simp only [okPs, List.all_eq_true, List.mem_range, Bool.and_eq_true, decide_eq_true_eq] at h
  exact h k hk
theorem okPs_at {zs ps : List Int} (k : Nat) (hk : k < 8) (h : ps[k]?.getD 0 < 0 ∨ endP zs k ≤ ps[k]?.getD 0) : okPs zs ps = false := by
  cases hb : okPs zs ps with
  | false => rfl
  | true =>
    have := okPs_out hb k hk
    omega
theorem endP_low {zs : List Int} {k : Nat} (h : k < zs.length) : endP zs k = zs[k]?.getD 0 * 1000 := by simp [endP, h]
theorem endP_high {zs : List Int} {k : Nat} (h : zs.length ≤ k) : endP zs k = 1 := by simp [endP]; omega
def hasR (zs : List Int) (js : List (Int × Int)) (ps : List Int) : Bool := okM zs js && okPs zs ps
theorem hasR_no {zs : List Int} {js : List (Int × Int)} {ps : List Int} (h : okM zs js = false) : hasR zs js ps = false := by simp [hasR, h]
theorem hasR_yes {zs : List Int} {js : List (Int × Int)} {ps : List Int} (h : okM zs js = true) : hasR zs js ps = okPs zs ps := by simp [hasR, h]

set_option maxHeartbeats 2000000 in
set_option maxRecDepth 100000 in
theorem toParts_any (d0 d1 d2 d3 d4 d5 d6 d7 : Int) (w : World) :
    Calls Try.prog 10 #[.agg #[.int .i64 d0, .int .i64 d1, .int .i64 d2, .int .i64 d3, .int .i64 d4, .int .i64 d5, .int .i64 d6, .int .i64 d7]] w fun e w' => e = .returned (.agg #[.int .i64 d0, .int .i64 d1, .int .i64 d2, .int .i64 d3, .int .i64 d4, .int .i64 d5, .int .i64 d6, .int .i64 d7]) ∧ Below w.heap.size w w' := by
  go_enter Try.func10, Try.ntmps10
  go_wp2
  refine wp_loop_rounds 9 ?_
  iterate 9 (rw [rounds_succ]; go_wp2)
  exact bodyPost_ret (v := .agg #[.int .i64 d0, .int .i64 d1, .int .i64 d2, .int .i64 d3, .int .i64 d4, .int .i64 d5, .int .i64 d6, .int .i64 d7]) (by simp [results, Try.results10, go_sem]) rfl ⟨rfl, ((((Below.refl _ _).alloc (Nat.le_refl _) _).alloc (by simp) _).alloc (by simp; omega) _)⟩
/-- an array of eight numbers is read at a place -/
theorem index_parts (d0 d1 d2 d3 d4 d5 d6 d7 : Int) (k : Nat) (hk : k < 8) (w : World) :
    (Instr.index 37 (.agg #[.int .i64 d0, .int .i64 d1, .int .i64 d2, .int .i64 d3, .int .i64 d4, .int .i64 d5, .int .i64 d6, .int .i64 d7]) (.int .i64 (k : Int))).run Try.prog w
      = .ok (.int .i64 (([d0, d1, d2, d3, d4, d5, d6, d7] : List Int)[k]?.getD 0)) w := by
  have i0 : (Instr.index 37 (.agg #[.int .i64 d0, .int .i64 d1, .int .i64 d2, .int .i64 d3, .int .i64 d4, .int .i64 d5, .int .i64 d6, .int .i64 d7]) (.int .i64 ((0 : Nat) : Int))).run Try.prog w = .ok (.int .i64 d0) w := by kernel_rfl
  have i1 : (Instr.index 37 (.agg #[.int .i64 d0, .int .i64 d1, .int .i64 d2, .int .i64 d3, .int .i64 d4, .int .i64 d5, .int .i64 d6, .int .i64 d7]) (.int .i64 ((1 : Nat) : Int))).run Try.prog w = .ok (.int .i64 d1) w := by kernel_rfl
  have i2 : (Instr.index 37 (.agg #[.int .i64 d0, .int .i64 d1, .int .i64 d2, .int .i64 d3, .int .i64 d4, .int .i64 d5, .int .i64 d6, .int .i64 d7]) (.int .i64 ((2 : Nat) : Int))).run Try.prog w = .ok (.int .i64 d2) w := by kernel_rfl
  have i3 : (Instr.index 37 (.agg #[.int .i64 d0, .int .i64 d1, .int .i64 d2, .int .i64 d3, .int .i64 d4, .int .i64 d5, .int .i64 d6, .int .i64 d7]) (.int .i64 ((3 : Nat) : Int))).run Try.prog w = .ok (.int .i64 d3) w := by kernel_rfl
  have i4 : (Instr.index 37 (.agg #[.int .i64 d0, .int .i64 d1, .int .i64 d2, .int .i64 d3, .int .i64 d4, .int .i64 d5, .int .i64 d6, .int .i64 d7]) (.int .i64 ((4 : Nat) : Int))).run Try.prog w = .ok (.int .i64 d4) w := by kernel_rfl
  have i5 : (Instr.index 37 (.agg #[.int .i64 d0, .int .i64 d1, .int .i64 d2, .int .i64 d3, .int .i64 d4, .int .i64 d5, .int .i64 d6, .int .i64 d7]) (.int .i64 ((5 : Nat) : Int))).run Try.prog w = .ok (.int .i64 d5) w := by kernel_rfl
  have i6 : (Instr.index 37 (.agg #[.int .i64 d0, .int .i64 d1, .int .i64 d2, .int .i64 d3, .int .i64 d4, .int .i64 d5, .int .i64 d6, .int .i64 d7]) (.int .i64 ((6 : Nat) : Int))).run Try.prog w = .ok (.int .i64 d6) w := by kernel_rfl
  have i7 : (Instr.index 37 (.agg #[.int .i64 d0, .int .i64 d1, .int .i64 d2, .int .i64 d3, .int .i64 d4, .int .i64 d5, .int .i64 d6, .int .i64 d7]) (.int .i64 ((7 : Nat) : Int))).run Try.prog w = .ok (.int .i64 d7) w := by kernel_rfl
  have h : k = 0 ∨ k = 1 ∨ k = 2 ∨ k = 3 ∨ k = 4 ∨ k = 5 ∨ k = 6 ∨ k = 7 := by omega
  clear hk
  rcases h with rfl | rfl | rfl | rfl | rfl | rfl | rfl | rfl
  · exact i0
  · exact i1
  · exact i2
  · exact i3
  · exact i4
  · exact i5
  · exact i6
  · exact i7
theorem parts_cell (d0 d1 d2 d3 d4 d5 d6 d7 : Int) (k : Nat) (hk : k < 8) : ([Value.int .i64 d0, Value.int .i64 d1, Value.int .i64 d2, Value.int .i64 d3, Value.int .i64 d4, Value.int .i64 d5, Value.int .i64 d6, Value.int .i64 d7] : List Value)[k]? = some (.int .i64 (([d0, d1, d2, d3, d4, d5, d6, d7] : List Int)[k]?.getD 0)) := by
  have h : k = 0 ∨ k = 1 ∨ k = 2 ∨ k = 3 ∨ k = 4 ∨ k = 5 ∨ k = 6 ∨ k = 7 := by omega
  rcases h with rfl | rfl | rfl | rfl | rfl | rfl | rfl | rfl <;> rfl

set_option maxHeartbeats 2000000 in
theorem hasParts_any (b n cap g m cap' : Nat) (zs : List Int) (js : List (Int × Int)) (d0 d1 d2 d3 d4 d5 d6 d7 : Int) (w : World) (hS : Stk w b zs) (hJ : Jst w g js) (hn : n = zs.length) (hm : m = js.length) :
    Calls Try.prog 29 #[.agg #[.slice (some ⟨b, 0, none⟩) n cap, .slice (some ⟨g, 0, none⟩) m cap'], .agg #[.int .i64 d0, .int .i64 d1, .int .i64 d2, .int .i64 d3, .int .i64 d4, .int .i64 d5, .int .i64 d6, .int .i64 d7]] w fun e w' => e = .returned (.bool (hasR zs js [d0, d1, d2, d3, d4, d5, d6, d7])) ∧ Below w.heap.size w w' := by
  have bel1 : Below (w.alloc (.cells #[.slice (some ⟨b, 0, none⟩) n cap, .slice (some ⟨g, 0, none⟩) m cap'] 35)).heap.size (w.alloc (.cells #[.slice (some ⟨b, 0, none⟩) n cap, .slice (some ⟨g, 0, none⟩) m cap'] 35)) ((w.alloc (.cells #[.slice (some ⟨b, 0, none⟩) n cap, .slice (some ⟨g, 0, none⟩) m cap'] 35)).alloc (.cells #[.int .i64 d0, .int .i64 d1, .int .i64 d2, .int .i64 d3, .int .i64 d4, .int .i64 d5, .int .i64 d6, .int .i64 d7] 37)) := (Below.refl _ _).alloc (Nat.le_refl _) _
  have bel : Below w.heap.size w ((w.alloc (.cells #[.slice (some ⟨b, 0, none⟩) n cap, .slice (some ⟨g, 0, none⟩) m cap'] 35)).alloc (.cells #[.int .i64 d0, .int .i64 d1, .int .i64 d2, .int .i64 d3, .int .i64 d4, .int .i64 d5, .int .i64 d6, .int .i64 d7] 37)) := ((Below.refl _ w).alloc (Nat.le_refl _) _).alloc (by simp) _
  have M0 := hid ((MoAt.new w b n cap g m cap' zs js hS hJ).keep bel1)
  have rP' := Row.new (w.alloc (.cells #[.slice (some ⟨b, 0, none⟩) n cap, .slice (some ⟨g, 0, none⟩) m cap'] 35)) 37 [.int .i64 d0, .int .i64 d1, .int .i64 d2, .int .i64 d3, .int .i64 d4, .int .i64 d5, .int .i64 d6, .int .i64 d7]
  simp only [World.size_alloc] at rP'
  have rP := hid rP'
  have HV := hid (implValidMotion_any b n cap g m cap' zs js _ M0.out.2.1 M0.out.2.2 hn hm)
  have hZ := hid hS.2.2.1
  have hl := hS.2.2.2
  rw [← hn] at hl
  have hN := hid hn
  clear rP' bel1
  cases hv : okM zs js with
  | false =>
    have hf := hid (hasR_no (ps := [d0, d1, d2, d3, d4, d5, d6, d7]) hv)
    rw [hv] at HV
    clear hS hJ hn hm hv
    go_enter Try.func29, Try.ntmps29
    go_wp2_with fail
    refine HV.out.mono ?_
    rintro e w1 ⟨rfl, hB⟩
    go_wp2_with fail
    go_ret
    exact ⟨by rw [hf.out]; rfl, bel.trans (hB.mono (by simp; omega))⟩
  | true =>
    have hf := hid (hasR_yes (ps := [d0, d1, d2, d3, d4, d5, d6, d7]) hv)
    rw [hv] at HV
    clear hS hJ hn hm hv
    go_enter Try.func29, Try.ntmps29
    go_wp2_with fail
    refine HV.out.mono ?_
    rintro e w1 ⟨rfl, hB⟩
    have hz := hB.size
    have M1 := hid (M0.out.keep hB)
    obtain ⟨p0, p1⟩ := M1.out.cells
    have hC := hid M1.out.2.1.2.1
    simp only [World.size_alloc] at hB hz
    have rP1 := rP.out.below hB (by omega)
    have r0 := rP1.cell 0; have r1 := rP1.cell 1; have r2 := rP1.cell 2; have r3 := rP1.cell 3
    have r4 := rP1.cell 4; have r5 := rP1.cell 5; have r6 := rP1.cell 6; have r7 := rP1.cell 7
    simp only [List.getElem?_cons_zero, List.getElem?_cons_succ] at r0 r1 r2 r3 r4 r5 r6 r7
    have hE := hid (bel.trans (hB.mono (by omega)))
    clear rP1 hz bel
    go_wp2_with fail
    clear r0 r1 r2 r3 r4 r5 r6 r7
    go_loop [12] (fun i => ∃ k : Nat, k ≤ 8 ∧ i = .int .i64 k ∧ okPTo zs [d0, d1, d2, d3, d4, d5, d6, d7] k) (fun i => 8 - (intOf i).toNat)
    case atStart => exact ⟨0, Nat.zero_le _, rfl, okPTo_zero _ _⟩
    case round =>
      obtain ⟨k, hk, rfl, hT⟩ := hrel
      by_cases hlt : k < 8
      · have hix := fun w => index_parts d0 d1 d2 d3 d4 d5 d6 d7 k hlt w
        have hS' := hid (fun a b => okPTo_succ hT a b)
        have hA := hid (fun h => hf.out.trans (okPs_at (zs := zs) (ps := [d0, d1, d2, d3, d4, d5, d6, d7]) k hlt h))
        clear hT
        obtain ⟨d, hd⟩ : ∃ d, d = ([d0, d1, d2, d3, d4, d5, d6, d7] : List Int)[k]?.getD 0 := ⟨_, rfl⟩
        rw [← hd] at hS' hA
        simp only [← hd] at hix
        clear hd
        by_cases hw : k < n
        · have hx := hC.out k (by rw [← hN.out]; exact hw)
          have hzb := hZ.out (zs[k]?.getD 0) (by simp [show k < zs.length from by rw [← hN.out]; exact hw])
          rw [endP_low (show k < zs.length by rw [← hN.out]; exact hw)] at hS' hA
          obtain ⟨z, hz⟩ : ∃ z, z = zs[k]?.getD 0 := ⟨_, rfl⟩
          rw [← hz] at hx hzb hS' hA
          clear hz
          have wz : IntKind.i64.wrap z = z := IntWalk.i64_in z (by omega)
          have we : IntKind.i64.wrap (z * 1000) = z * 1000 := IntWalk.i64_in _ (by omega)
          by_cases h0 : d < 0
          · have hF' := hid (hA.out (Or.inl h0))
            go_wp2_with fail
            go_ret
            exact ⟨by rw [hF'.out]; rfl, hE.out⟩
          · by_cases h1 : d < z * 1000
            · have hT' := hid (hS'.out (by omega) h1)
              have g0 : decide (d < 0) = false := by simp; omega
              have g1 : decide (z * 1000 ≤ d) = false := by simp; omega
              clear hA hS'
              go_wp2_with fail
              go_round
              case rel => exact ⟨k + 1, by omega, by go_num, hT'.out⟩
              case measure => simp [intOf]; omega
            · have hF' := hid (hA.out (Or.inr (by omega)))
              have g0 : decide (d < 0) = false := by simp; omega
              have g1 : decide (z * 1000 ≤ d) = true := by simp; omega
              clear hA hS'
              go_wp2_with fail
              go_ret
              exact ⟨by rw [hF'.out]; rfl, hE.out⟩
        · rw [endP_high (show zs.length ≤ k by rw [← hN.out]; omega)] at hS' hA
          by_cases h0 : d < 0
          · have hF' := hid (hA.out (Or.inl h0))
            go_wp2_with fail
            go_ret
            exact ⟨by rw [hF'.out]; rfl, hE.out⟩
          · by_cases h1 : d < 1
            · have hT' := hid (hS'.out (by omega) h1)
              have g0 : decide (d < 0) = false := by simp; omega
              have g1 : decide (1 ≤ d) = false := by simp; omega
              clear hA hS'
              go_wp2_with fail
              go_round
              case rel => exact ⟨k + 1, by omega, by go_num, hT'.out⟩
              case measure => simp [intOf]; omega
            · have hF' := hid (hA.out (Or.inr (by omega)))
              have g0 : decide (d < 0) = false := by simp; omega
              have g1 : decide (1 ≤ d) = true := by simp; omega
              clear hA hS'
              go_wp2_with fail
              go_ret
              exact ⟨by rw [hF'.out]; rfl, hE.out⟩
      · obtain rfl : k = 8 := by omega
        have hF' := hid (hf.out.trans (okPs_of hT))
        clear hT
        go_wp2_with fail
        go_ret
        exact ⟨by rw [hF'.out]; rfl, hE.out⟩

set_option maxHeartbeats 2000000 in
theorem l02Given_any (B b n cap g m cap' : Nat) (zs : List Int) (js : List (Int × Int)) (d0 d1 d2 d3 d4 d5 d6 d7 : Int) (w : World) (hM : MoAt w B b n cap g m cap' zs js) (hn : n = zs.length) :
    Calls Try.prog 24 #[.pointer (some ⟨B, 0, none⟩), .agg #[.int .i64 d0, .int .i64 d1, .int .i64 d2, .int .i64 d3, .int .i64 d4, .int .i64 d5, .int .i64 d6, .int .i64 d7]] w fun e w' => e = .returned (.bool (okPs zs [d0, d1, d2, d3, d4, d5, d6, d7])) ∧ Below w.heap.size w w' := by
  have bel : Below w.heap.size w (w.alloc (.cells #[.int .i64 d0, .int .i64 d1, .int .i64 d2, .int .i64 d3, .int .i64 d4, .int .i64 d5, .int .i64 d6, .int .i64 d7] 37)) := (Below.refl _ w).alloc (Nat.le_refl _) _
  have M0 := hid (hM.keep bel)
  have hZ := hid hM.2.1.2.2.1
  have hl := hM.2.1.2.2.2
  rw [← hn] at hl
  have hN := hid hn
  have hR := hid ((Row.new w 37 [.int .i64 d0, .int .i64 d1, .int .i64 d2, .int .i64 d3, .int .i64 d4, .int .i64 d5, .int .i64 d6, .int .i64 d7]).cell)
  have hC := hid M0.out.2.1.2.1
  obtain ⟨p0, p1⟩ := M0.out.cells
  have hBl := hM.1.lt
  have hE := hid bel
  clear hM hn bel
  go_enter Try.func24, Try.ntmps24
  go_wp2_with fail
  go_loop [5] (fun i => ∃ k : Nat, k ≤ 8 ∧ i = .int .i64 k ∧ okPTo zs [d0, d1, d2, d3, d4, d5, d6, d7] k) (fun i => 8 - (intOf i).toNat)
  case atStart => exact ⟨0, Nat.zero_le _, rfl, okPTo_zero _ _⟩
  case round =>
    obtain ⟨k, hk, rfl, hT⟩ := hrel
    by_cases hlt : k < 8
    · have hc := hR.out k
      rw [parts_cell d0 d1 d2 d3 d4 d5 d6 d7 k hlt] at hc
      have hS' := hid (fun a b => okPTo_succ hT a b)
      have hA := hid (fun h => (okPs_at (zs := zs) (ps := [d0, d1, d2, d3, d4, d5, d6, d7]) k hlt h))
      clear hT
      obtain ⟨d, hd⟩ : ∃ d, d = ([d0, d1, d2, d3, d4, d5, d6, d7] : List Int)[k]?.getD 0 := ⟨_, rfl⟩
      rw [← hd] at hS' hA hc
      clear hd
      by_cases hw : k < n
      · have hx := hC.out k (by rw [← hN.out]; exact hw)
        have hzb := hZ.out (zs[k]?.getD 0) (by simp [show k < zs.length from by rw [← hN.out]; exact hw])
        rw [endP_low (show k < zs.length by rw [← hN.out]; exact hw)] at hS' hA
        obtain ⟨z, hz⟩ : ∃ z, z = zs[k]?.getD 0 := ⟨_, rfl⟩
        rw [← hz] at hx hzb hS' hA
        clear hz
        have wz : IntKind.i64.wrap z = z := IntWalk.i64_in z (by omega)
        have we : IntKind.i64.wrap (z * 1000) = z * 1000 := IntWalk.i64_in _ (by omega)
        have we' : IntKind.i64.wrap (z * 1000 - 1) = z * 1000 - 1 := IntWalk.i64_in _ (by omega)
        by_cases h1 : 0 ≤ d ∧ d ≤ z * 1000 - 1
        · have hT' := hid (hS'.out (by omega) (by omega))
          have HI := hid (fun w => inr_yes d 0 (z * 1000 - 1) w h1)
          clear hA hS' h1
          go_wp2_with (go_at_call 46; refine (HI.out _).mono ?_; rintro e w' ⟨rfl, rfl⟩)
          go_round
          case rel => exact ⟨k + 1, by omega, by go_num, hT'.out⟩
          case measure => simp [intOf]; omega
        · have hF' := hid (hA.out (by omega))
          have HI := hid (fun w => inr_no d 0 (z * 1000 - 1) w (by omega))
          clear hA hS' h1
          go_wp2_with (go_at_call 46; refine (HI.out _).mono ?_; rintro e w' ⟨rfl, rfl⟩)
          go_ret
          exact ⟨by rw [hF'.out]; rfl, hE.out⟩
      · rw [endP_high (show zs.length ≤ k by rw [← hN.out]; omega)] at hS' hA
        by_cases h1 : 0 ≤ d ∧ d ≤ 0
        · have hT' := hid (hS'.out (by omega) (by omega))
          have HI := hid (fun w => inr_yes d 0 0 w h1)
          clear hA hS' h1
          go_wp2_with (go_at_call 46; refine (HI.out _).mono ?_; rintro e w' ⟨rfl, rfl⟩)
          go_round
          case rel => exact ⟨k + 1, by omega, by go_num, hT'.out⟩
          case measure => simp [intOf]; omega
        · have hF' := hid (hA.out (by omega))
          have HI := hid (fun w => inr_no d 0 0 w (by omega))
          clear hA hS' h1
          go_wp2_with (go_at_call 46; refine (HI.out _).mono ?_; rintro e w' ⟨rfl, rfl⟩)
          go_ret
          exact ⟨by rw [hF'.out]; rfl, hE.out⟩
    · obtain rfl : k = 8 := by omega
      have hF' := hid (okPs_of hT)
      clear hT
      go_wp2_with fail
      go_ret
      exact ⟨by rw [hF'.out]; rfl, hE.out⟩
end Go.Proofs.Ytkgldcjbaghapaa
