/- LastOf: the program's and the model's answers. -/
import Derived.Test.YtfifnngdmhdkiaaGreatDoorMgP
namespace Go.Proofs.YtfifnngdmhdkiaaGreatDoor
open Go.RowKit

set_option maxRecDepth 100000 in
set_option maxHeartbeats 4000000 in
theorem implLastOf_any (b n cap : Nat) (zs : List Int) (d0 d1 d2 d3 d4 d5 d6 d7 x : Int) (w : World) (h : Stk w b zs) (hn : n = zs.length) (hc : n ≤ cap) (ho : Oct d0 d1 d2 d3 d4 d5 d6 d7) (_ : (Lit.int .i64 x).wf = true) :
    Calls Tryz.prog 25 #[.slice (some ⟨b, 0, none⟩) n cap, .agg #[.int .u8 d0, .int .u8 d1, .int .u8 d2, .int .u8 d3, .int .u8 d4, .int .u8 d5, .int .u8 d6, .int .u8 d7], .int .i64 x] w fun e w' => e = .returned (.tuple #[.int .i64 (lastR zs [d0, d1, d2, d3, d4, d5, d6, d7] x).1, .int .i64 (lastR zs [d0, d1, d2, d3, d4, d5, d6, d7] x).2]) ∧ Below w.heap.size w w' := by
  have N := hid hn; have HO := hid ho
  have hn20 : n ≤ 1048576 := by rw [hn]; exact h.2.2.2
  have hB0 : Below w.heap.size w (w.alloc (.cells #[.int .u8 d0, .int .u8 d1, .int .u8 d2, .int .u8 d3, .int .u8 d4, .int .u8 d5, .int .u8 d6, .int .u8 d7] 30)) := (Below.refl w.heap.size w).alloc (Nat.le_refl _) _
  have H1 := hid (h.below hB0 h.1)
  have hbl := h.1
  have oc := Oc.new w 30 d0 d1 d2 d3 d4 d5 d6 d7
  clear h ho
  have step : ∀ (v : Bool), okV zs [d0, d1, d2, d3, d4, d5, d6, d7] = v → Calls Tryz.prog 18 #[.slice (some ⟨b, 0, none⟩) n cap, .agg #[.int .u8 d0, .int .u8 d1, .int .u8 d2, .int .u8 d3, .int .u8 d4, .int .u8 d5, .int .u8 d6, .int .u8 d7]] (w.alloc (.cells #[.int .u8 d0, .int .u8 d1, .int .u8 d2, .int .u8 d3, .int .u8 d4, .int .u8 d5, .int .u8 d6, .int .u8 d7] 30)) fun e w' => e = .returned (.bool v) ∧ Below (w.heap.size + 1) (w.alloc (.cells #[.int .u8 d0, .int .u8 d1, .int .u8 d2, .int .u8 d3, .int .u8 d4, .int .u8 d5, .int .u8 d6, .int .u8 d7] 30)) w' := fun v hv => by
    have hX := validDigits_any _ n cap zs d0 d1 d2 d3 d4 d5 d6 d7 _ H1.out N.out HO.out
    rw [hv, World.size_alloc] at hX
    exact hX
  cases hv : okV zs [d0, d1, d2, d3, d4, d5, d6, d7] with
  | false =>
    rw [lastR_no x hv]
    have hX := hid (step _ hv)
    clear hv hn step
    go_enter Tryz.func25, Tryz.ntmps25
    go_wp2_with fail
    refine hX.out.mono ?_
    clear hX
    rintro e w1 ⟨rfl, hB1⟩
    go_wp2_with fail
    go_ret2
    exact ⟨rfl, hB0.trans (hB1.mono (by omega))⟩
  | true =>
    have hX := hid (step _ hv)
    by_cases hk : 0 ≤ x ∧ x ≤ n
    · obtain ⟨k, rfl⟩ := Int.eq_ofNat_of_zero_le hk.1
      have hkn : k ≤ n := by omega
      rw [lastR_yes k hv (by omega)]
      have V := hid hv
      clear hv hn step hk
      have hkc : k ≤ cap := by omega
      go_enter Tryz.func25, Tryz.ntmps25
      go_wp2_with fail
      refine hX.out.mono ?_
      clear hX
      rintro e w1 ⟨rfl, hB1⟩
      have hz1 := hB1.size
      simp only [World.size_alloc] at hz1
      have oc1' : Oc w1 w.heap.size d0 d1 d2 d3 d4 d5 d6 d7 := oc.below hB1 (by omega)
      have oc1 : Oc w1.drew w.heap.size d0 d1 d2 d3 d4 d5 d6 d7 := oc1'
      have ocx := oc1'
      obtain ⟨f0, f1, f2, f3, f4, f5, f6, f7⟩ := ocx
      have H2 := hid (H1.out.below hB1 (by omega))
      go_wp2_with fail
      go_region_held3 (fun w' => w'.cell? ⟨w.heap.size, 0, none⟩ = some (.int .u8 d0) ∧ w'.cell? ⟨w.heap.size, 1, none⟩ = some (.int .u8 d1) ∧ w'.cell? ⟨w.heap.size, 2, none⟩ = some (.int .u8 d2) ∧ w'.cell? ⟨w.heap.size, 3, none⟩ = some (.int .u8 d3) ∧ w'.cell? ⟨w.heap.size, 4, none⟩ = some (.int .u8 d4) ∧ w'.cell? ⟨w.heap.size, 5, none⟩ = some (.int .u8 d5) ∧ w'.cell? ⟨w.heap.size, 6, none⟩ = some (.int .u8 d6) ∧ w'.cell? ⟨w.heap.size, 7, none⟩ = some (.int .u8 d7)) (first | exact ⟨oc2.1, oc2.2.1, oc2.2.2.1, oc2.2.2.2.1, oc2.2.2.2.2.1, oc2.2.2.2.2.2.1, oc2.2.2.2.2.2.2.1, oc2.2.2.2.2.2.2.2⟩ | exact ⟨oc1.1, oc1.2.1, oc1.2.2.1, oc1.2.2.2.1, oc1.2.2.2.2.1, oc1.2.2.2.2.2.1, oc1.2.2.2.2.2.2.1, oc1.2.2.2.2.2.2.2⟩)
        ((first | (go_at_call 37; have hX := value_any b k cap zs d0 d1 d2 d3 d4 d5 d6 d7 HO.out V.out (by rw [← N.out]; exact hkn) w1.drew (H2.out.below (Below.refl _ w1).drew H2.out.1); refine hX.mono ?_; clear hX; rintro e w2 ⟨rfl, hB2⟩; have oc2 := oc1.below hB2 (by simp; omega))))
      go_wp2_with fail
      go_ret2
      exact ⟨rfl, hB0.trans ((hB1.mono (by omega)).trans (((Below.refl w.heap.size w1).drew).trans (hB2.mono (by simp; omega))))⟩
    · rw [lastR_out x hv (by rw [← hn]; exact hk)]
      clear hv hn step
      go_enter Tryz.func25, Tryz.ntmps25
      go_wp2_with fail
      refine hX.out.mono ?_
      clear hX
      rintro e w1 ⟨rfl, hB1⟩
      by_cases hx0 : x < 0
      · clear hk
        go_wp2_with fail
        go_ret2
        exact ⟨rfl, hB0.trans (hB1.mono (by omega))⟩
      · have hx1 : (n : Int) < x := by omega
        clear hk
        go_wp2_with fail
        go_ret2
        exact ⟨rfl, hB0.trans (hB1.mono (by omega))⟩

end Go.Proofs.YtfifnngdmhdkiaaGreatDoor
