/- The ratios of first terms: the program's and the model's. -/
import Derived.Test.YteangabkpaamcaaFromM
import Derived.Test.YteangabkpaamcaaTerms
import Derived.Test.YteangabkpaamcaaInts
import Derived.Test.YteangabkpaamcaaMade
import Derived.Maps.AppendAt
import Derived.BigRegion
namespace Go.Proofs.Yteangabkpaamcaa
open Go.RowKit
set_option maxHeartbeats 2000000 in
theorem validTerms_any (b n cap : Nat) (zs : List Int) (w : World) (hS : Lst w b zs) (hn : n = zs.length) :
    Calls Try.prog 39 #[.slice (some ⟨b, 0, none⟩) n cap] w fun e w' => e = .returned (.bool (okF zs)) ∧ w = w' := by
  have hle := hS.2.2.2
  rw [← hn] at hle
  by_cases hr : n < 1
  · rw [okF_len (by omega)]
    obtain rfl : n = 0 := by omega
    clear hS hn hr
    go_enter Try.func39, Try.ntmps39
    go_wp2_with fail
    go_ret
    exact ⟨rfl, rfl⟩
  by_cases hr2 : 60 < n
  · rw [okF_len (by omega)]
    clear hS hn hr
    go_enter Try.func39, Try.ntmps39
    go_wp2_with fail
    go_ret
    exact ⟨rfl, rfl⟩
  have n1 : 1 ≤ n := by omega
  have n60 : n ≤ 60 := by omega
  have hC := hid hS.2.1
  have hBD := hid hS.2.2.1
  have hN := hid hn
  clear hS hn hr hr2
  go_enter Try.func39, Try.ntmps39
  go_wp2_with fail
  go_loop [15] (fun i => ∃ k : Nat, k ≤ n ∧ i = .int .i64 k ∧ tOk zs k) (fun i => n - (intOf i).toNat)
  case atStart => exact ⟨0, Nat.zero_le _, rfl, fun j h => by omega⟩
  case round =>
    obtain ⟨k, hk, rfl, hok⟩ := hrel
    have HK := hid hok
    clear hok
    by_cases hlt : k < n
    · have cc := hC.out k (by rw [← hN.out]; exact hlt)
      have hlt' : (k : Int) < (n : Int) := by omega
      have hk0 : (0 : Int) ≤ (k : Int) := by omega
      have HB := hid (fun h => okF_bad (zs := zs) k (by rw [← hN.out]; exact hlt) h)
      have HT := hid (fun h => tOk_succ (zs := zs) HK.out h)
      obtain ⟨z, hz⟩ : ∃ z, zA zs k = z := ⟨_, rfl⟩
      rw [hz] at HB HT
      have cc2 : w.cell? ⟨b, k, none⟩ = some (.int .i64 z) := by rw [← hz]; exact cc
      clear cc hz
      by_cases h1 : z < 0
      · have HF := hid (HB.out (by omega))
        go_wp2_with fail
        go_ret
        exact ⟨by rw [HF.out]; rfl, rfl⟩
      by_cases h2 : 1000000000 < z
      · have HF := hid (HB.out (by omega))
        go_wp2_with fail
        go_ret
        exact ⟨by rw [HF.out]; rfl, rfl⟩
      have h3 : 0 ≤ z := by omega
      have h4 : z ≤ 1000000000 := by omega
      clear h1 h2
      by_cases h5 : z = 0
      · subst h5
        by_cases h6 : k = 0
        · subst h6
          have HT2 := hid (HT.out (by omega))
          go_wp2_with fail
          go_round
          case rel => exact ⟨1, by omega, rfl, HT2.out⟩
          case measure => simp [intOf]; omega
        · have h7 : (0 : Int) < (k : Int) := by omega
          have h8 : 0 < k := by omega
          have HF := hid (HB.out (fun h => by have := h.2 h8; omega))
          clear h6
          go_wp2_with fail
          go_ret
          exact ⟨by rw [HF.out]; rfl, rfl⟩
      · have HT2 := hid (HT.out (by omega))
        have e1 : (z == 0) = false := by simp [h5]
        clear h5
        go_wp2_with fail
        go_round
        case rel => exact ⟨k + 1, by omega, by go_num, HT2.out⟩
        case measure => simp [intOf]; omega
    · obtain rfl : k = n := by omega
      have c0 := hC.out 0 (by rw [← hN.out]; omega)
      have c0' : w.cell? ⟨b, 0, none⟩ = some (.int .i64 (zA zs 0)) := c0
      have HY := hid (fun h => okF_yes (zs := zs) (by rw [← hN.out]; omega) (by rw [← hN.out]; exact HK.out) h)
      have HN1 := hid (fun (h1 : k = 1) h => okF_one (zs := zs) (by rw [← hN.out]; exact h1) h)
      obtain ⟨z, hz⟩ : ∃ z, zA zs 0 = z := ⟨_, rfl⟩
      rw [hz] at c0' HY HN1
      clear c0 hz
      by_cases h1 : k = 1
      · by_cases h2 : 0 < z
        · have HF := hid (HY.out (fun _ => by omega))
          have h2d : decide (0 < z) = true := by simp [h2]
          subst h1
          go_wp2_with fail
          go_ret
          exact ⟨by rw [HF.out]; simp [h2], rfl⟩
        · have HF := hid (HN1.out h1 (by omega))
          have h3 : z ≤ 0 := by omega
          subst h1
          clear h2
          go_wp2_with fail
          go_ret
          exact ⟨by rw [HF.out]; simp; omega, rfl⟩
      · have HF := hid (HY.out (fun h => absurd (by rw [hN.out]; exact h) h1))
        have h2 : (1 : Int) < (k : Int) := by omega
        clear h1
        go_wp2_with fail
        go_ret
        exact ⟨by rw [HF.out]; rfl, rfl⟩
theorem Try.infoRatio : (Try.prog.info? 24).map (fun i => (i.zero, i.size, i.bytes)) = some (some (.agg #[.int .i64 0, .int .i64 0]), 2, 16) := by kernel_rfl
/-- what is gathered ends with the last ratio -/
def Ends (zs : List Int) (k : Nat) (xs : List Value) : Prop := k = 0 ∨ ∃ ys, xs = ys ++ [.int .i64 (fP zs k).2, .int .i64 (fQ zs k).2] ∧ ys.length = (k - 1) * 2
/-- what firstRatios returns: a list whose last ratio is known, or none -/
def FrR (w : World) (zs : List Int) (n : Nat) (okv failv : Value) (e : Ending) (w' : World) : Prop :=
  Below w.heap.size w w' ∧ ((inF zs = true ∧ ∃ g cap, e = .returned (.tuple #[.slice (some ⟨g, 0, none⟩) n cap, okv]) ∧ w'.cell? ⟨g, (n - 1) * 2, none⟩ = some (.int .i64 (fP zs n).2) ∧ w'.cell? ⟨g, (n - 1) * 2 + 1, none⟩ = some (.int .i64 (fQ zs n).2) ∧ g < w'.heap.size) ∨ (inF zs = false ∧ ∃ v, e = .returned (.tuple #[v, failv])))
theorem ends_cells {w : World} {base n : Nat} {T : TypeId} {v : Value} {xs : List Value} {zs : List Int} (h : w.ownsRow base T 2 v n xs) (hn : 1 ≤ n) (he : Ends zs n xs) :
    ∃ g cap, v = .slice (some ⟨g, 0, none⟩) n cap ∧ w.cell? ⟨g, (n - 1) * 2, none⟩ = some (.int .i64 (fP zs n).2) ∧ w.cell? ⟨g, (n - 1) * 2 + 1, none⟩ = some (.int .i64 (fQ zs n).2) ∧ g < w.heap.size := by
  rcases h.2 with ⟨_, h0⟩ | ⟨g, cap, cur, hv, hg1, hg2, hg3, hg4, hg5, hg6⟩
  · omega
  · rcases he with h0 | ⟨ys, rfl, hy⟩
    · omega
    · have HG := World.ownsRow.cells h (g := g) (by rw [hv]; rfl)
      have ad : ∀ j, (⟨g, 0, none⟩ : Addr).add j = ⟨g, j, none⟩ := fun j => by
        by_cases h : j = 0
        · subst h; simp [Addr.add]
        · simp [Addr.add, h]
      refine ⟨g, cap, hv, ?_, ?_, lt_of_block hg2⟩
      · have := HG ((n - 1) * 2) (.int .i64 (fP zs n).2) (by rw [List.getElem?_append_right (by omega), hy]; simp)
        rwa [ad] at this
      · have := HG ((n - 1) * 2 + 1) (.int .i64 (fQ zs n).2) (by rw [List.getElem?_append_right (by omega), hy]; simp)
        rwa [ad] at this
end Go.Proofs.Yteangabkpaamcaa
